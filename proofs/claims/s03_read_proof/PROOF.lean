import PyProof.Rows.All
import Wide.All
import OpenK.AllK
import Wide.FinOn
import PyProof.EqAt
import PyProof.EqKinds
import PyProof.TupleCall
import KE.BitLaws
import Open.SpecLaws
import KE.OsHead
import KE.OsGo
import GlaPage
import PySem.Challenge.RW_glasspages_s03_read
open List renaming length_map->xB,getElem?_eq_getElem->xD,length_append->xF,getElem?_map->xJ,range->xN,length_cons->xO,getElem_mem->xP,size_toArray->xQ,mem_cons_of_mem->xR,replicate->xS,map_cons->xT,mem_of_getElem?->xZ,length_drop->Ga,mem_cons_self->Gj,length_take->Gk,map_append->Gq,flatten_cons->Gr,take_length->Gy,getD_eq_getElem?_getD->GA,drop_eq_getElem_cons->GC,not_mem_nil->GF,drop_eq_nil_of_le->GH,mem_append_right->GM,replicate_succ->GP,drop_succ_cons->GQ,append_assoc->GS,getElem?_append_left->GU,mem_singleton->GW,mem_cons->GY,length_singleton->G0,drop_zero->G4,drop_drop->G5,getElem?_eq_none->Ud,length_erase_of_mem->Ue,take_append_getElem->Uf,take_succ->Ug,getElem?_set_ne->Um,mem_of_mem_take->Uo,getElem?_set_self->Ur,getElem?_append_right->Us,append_nil->Uw,mem_of_mem_erase->Uy,find?_eq_none->Uz,foldl_cons->UE,find?_cons->UF,map_congr_left->UK,all_cons->UM,lookup_cons->UP,any_eq_true->UQ,contains_iff_mem->UT,pairwise_iff_getElem->UV,getElem_append_right->UW,length_nil->UX,range_succ->UY,nodup_cons->UZ,any_eq_false->U3,length_range->U4,getElem_of_mem->U9,find?_eq_some_iff_getElem->Va,map_nil->Vh,length_pos_of_mem->Vi,map_take->Vo,length_replicate->Vp,take_append_drop->Vq,lookup->Vs,map_map->Vx,filterMap_cons->Vz,any_cons->VC,getElem_append_left->VD,mem_filter->VE,zip_cons_cons->VF,filter_cons_of_pos->VH,any_map->VN,nodup_append->VO,getElem_take->VP,flatMap_cons->VQ,take_eq_take_iff->V1,getElem_inj->V2,all_eq_true->V3,flatMap_def->V4,map_drop->V8,sum_cons->V9,mem_append_left->Qad,flatMap_append->Qai,filter_append->Qan,length->Qaq,getElem_drop->Qar,getElem?_take_of_lt->Qay,filter_cons->Qa1,filter_cons_of_neg->Qa2,ext_getElem->Qa3,getElem_map->Qa4,nodup_range->Qa5,flatten_nil->Qa6,range_succ_eq_map->Qa9,getElem_cons_succ->Qba,take_of_length_le->Qbb,of_mem_zip->Qbk,length_set->Qbl,drop_left'->Qbm
open Nat renaming le_trans->xK,le_refl->xM,lt_of_le_of_lt->xV,lt_of_lt_of_le->xW,ne_of_lt->x3,zero_le->x4,add_assoc->Gs,add_le_add->Gv,ne_of_gt->G8,lt_or_ge->Uk,lt_irrefl->Uq,lt_trichotomy->Ut,add_zero->UL,le_add_right->UR,zero_add->U5,add_comm->Vj,lt_succ_of_lt->Vr,le_of_lt->VR,le_of_succ_le->VS,min_le_right->V5,min_eq_left->Qaf,le_of_eq->Qak,lt_trans->Qal,one_mul->Qas,lt_succ_self->Qa7,succ_ne_self->Qa8,mul_succ->Qbc
open Int renaming mul_nonpos_of_nonneg_of_nonpos->Gn,mul_neg_of_pos_of_neg->Gu,mul_nonneg_of_nonpos_of_nonpos->GB,mul_neg_of_neg_of_pos->Ua,toNat_natCast->Ub,mul_nonneg->UC,mul_pos->UN,mul_nonpos_of_nonpos_of_nonneg->US,mul_le_mul_of_nonneg_left->Vf,lt_or_gt_of_ne->Vk,zero_mul->VT,mul_le_mul_of_nonneg_right->V6,neg_mul->Qae,le_of_mul_le_mul_left->Qap,mul_left_comm->Qat,le_refl->Qau,le_total->Qbd,mul_zero->Qbe,natCast_add->Qbn,mul_assoc->Qbt
open Bool renaming false_ne_true->xX,and_eq_true->Gf,eq_iff_iff->Gz,noConfusion->GG,false_eq_true->G6,true_and->UA,false_and->VU,or_eq_true->Qag,not_not->Qbf,false_or->Qbu,and_true->Qbv
open Option renaming map_none->Ux,getD_none->Vb,getD_some->Vc,map_eq_none_iff->VW,isSome_map->Qav
open Array renaming getD_eq_getD_getElem?->x9,getElem?_eq_getElem->GV,length_toList->VA,setIfInBounds->VB,getElem?_eq_none->VX,getElem?_replicate->Qaz,contains_iff_mem->Qbg,toList->Qb0
open Gla renaming Bytes->xA,partsAt->xE,num->xG,dir->xI,turn->xL,oneOf->x6,firstAt->Gb,within->Gc,readLines->Gd,ascii->Ge,le->Gg,noneSeen->Gh,rowsOf_->Gi,edgePts->Gm,agree->Go,dx->GD,dy->GE,chained->GO,coatBytes->GT,crosses->GZ,WORKSHOP->G3,lineBelow->Uh,shopParts->Ui,firstBad->Ul,isOn->Up,spread->Uu,behind->Uv,linePlace->UB,frameOk->UD,wordOf->UG,someNumbers->UH,judgePlan->UO,clear->U0,parts->U1,touches->U6,ptPlace->U7,markPlace->U8,MAGIC->Vd,badCoat->Vg,sooner->Vl,seenFrom->Vm,half->Vn,between->Vt,Kind->Vu,isDigit->Vv,oneRow->Vw,onLines->VI,FRONT->VJ,numbers->VL,cuts->VY,Workshop->VZ,twice->V7,judgeShop->Qaa,pageBytes->Qab,writeShop->Qa0,insideOf->Qbh,readPage->Qbi,sheetAt->Qbr,numLe->Qbs,fromLeast->Qbw,twiceArea->Qbx,kindAt->Qby,bounds->Qbz,HEAD->Qb1
open PySem.W renaming Frag->xz,nsIn->xY,mg_none_of->GJ,keepIn->GR,findIn->GX,KeysLit->G7,fnOf->G9,emptyDict->Uc,mg_of->Uj,instObj->UI,codeIn->Ve,plainGet->Vy,callWith_K->VG,hasDictIn->V0,kHook->Qac,length_le_weightAllW->Qah,plainGet_of->Qaj,isFn->Qam,lookIn->Qao,methodObj->Qaw,plainOver->Qax,cellsFrom_some->Qbj,takerIn->Qbo,makesIn->Qbp,methodCall_KW->Qbq
open PySem.F renaming plainAttrs_list->xU,slot_list_append->Gw,type_list_append->Gx,slot_list_extend->GK,type_list_extend->GL
open Classical renaming byContradiction->xH,choose_spec->UU,propDecidable->VM
open PySem.Str renaming ofString->xC
open Or renaming inl->G1,inr->UJ
set_option Elab.async false
set_option linter.all false
set_option maxRecDepth 100000
set_option maxHeartbeats 4000000
theorem L{p:Prop}(h:p:=by lia):p:=h
theorem Wa{p:Prop}(h:p:=by decide):p:=h
theorem Wb{p:Prop}(h:p:=by decide +kernel):p:=h
theorem We{p:Prop}(h:p:=by simp):p:=h
theorem Wg{p:Prop}(h:p:=by rfl):p:=h
abbrev Wh:=@if_neg
abbrev Wi:=@if_pos
abbrev Wj:=@of_decide_eq_true
abbrev Wk:=@decide_eq_true
abbrev Wl:=@decide_eq_false
abbrev Wm:=@absurd
abbrev Wn:=@congrArg
abbrev Wo:=@Option.some.inj
abbrev Wp:=@decide_eq_true_eq
abbrev Wq:=@if_true
abbrev Wr:=@if_false
abbrev Ws:=@or_false
abbrev Wt:=@PySem.Heap.get?_push_of_some
abbrev Wu:=@PySem.Heap.lt_size
abbrev Wv:=@PySem.Heap.get?_push_size
abbrev Ww:=@PySem.Heap.size_push
abbrev Wx:=@PySem.boot_len
abbrev Wy:=@PySem.mem_of_lookup
theorem Z{α:Sort _}{a:α}:a=a:=rfl
namespace L2
open PySem PySem.Spec PyProof.Rows
abbrev Key:=Sum Int Str
def jg:Key->Value->Bool
 |.inl k,v=>Value.isInt k v
 |.inr x,v=>Value.isStrOf x v
def HK(w:World):Key->Int
 |.inl k=>hashInt k
 |.inr x=>hashStr w x
theorem Zg:∀{k:Key} {v:Value},jg k v=true->(∃i t,k=Sum.inl i/\v=Value.int i t)\/(∃x t,k=Sum.inr x/\v=Value.str x t)
 | .inl i,v,h=>by
  obtain⟨t,e⟩:=Value.isInt_shape (k:=i) (v:=v) h;exact .inl ⟨i,t,Z,e⟩
 | .inr x,v,h=>by
  obtain⟨t,e⟩:=Value.isStrOf_shape (x:=x) (v:=v) h;exact .inr ⟨x,t,Z,e⟩
theorem mY(i:Int)(t:Tok):jg (.inl i) (.int i t)=true:=by simp[jg,Value.isInt]
theorem ou(x:Str)(t:Tok):jg (.inr x) (.str x t)=true:=by simp[jg,Value.isStrOf]
theorem CU(a b:Int):decide ((Sum.inl a:Key)=Sum.inl b)=(a==b):=by
 by_cases e:a=b
 ·subst e;simp
 ·have h:¬(Sum.inl a:Key)=Sum.inl b:=fun q=>e (Sum.inl.inj q);rw[Wl h];exact(beq_eq_false_iff_ne.mpr e).symm
theorem AE(a b:Str):decide ((Sum.inr a:Key)=Sum.inr b)=decide (a=b):=by
 by_cases e:a=b
 ·subst e;simp
 ·have h:¬(Sum.inr a:Key)=Sum.inr b:=fun q=>e (Sum.inr.inj q);rw[Wl h,Wl e]
theorem CG(a:Int)(b:Str):decide ((Sum.inl a:Key)=Sum.inr b)=false:=Wl (fun q=>nomatch q)
theorem Cr(a:Str)(b:Int):decide ((Sum.inr a:Key)=Sum.inl b)=false:=Wl (fun q=>nomatch q)
def Zp(prog : Program)(w : World) : PySem.KeyKind prog w Key where
  is := jg
  hash := HK w
  inj := fun v a b F B => by
    rcases Zg F with⟨i, t, rfl, rfl⟩|⟨x, t, rfl, rfl⟩
    · rcases Zg B with ⟨j, u, rfl, e⟩ | ⟨y, u, rfl, e⟩
      · injection e with n _; rw [n]
      · exact nomatch e
    · rcases Zg B with ⟨j, u, rfl, e⟩ | ⟨y, u, rfl, e⟩
      · exact nomatch e
      · injection e with n _; rw [n]
  byValue := fun k v h => by
    rcases Zg h with⟨i, t, rfl, rfl⟩|⟨x, t, rfl, rfl⟩<;>rfl
  pyHash := fun z h => by
    rcases Zg z with⟨i, t, rfl, rfl⟩|⟨x, t, rfl, rfl⟩
    · exact wpAny_pyHash_int h
    · exact wpAny_pyHash_str h
  eqBool := fun G z h => by
    rcases Zg G with⟨i, t, rfl, rfl⟩|⟨x, t, rfl, rfl⟩
    · rcases Zg z with ⟨j, u, rfl, rfl⟩ | ⟨y, u, rfl, rfl⟩
      · rw [CU]at h; exact wpAny_eqBool_int h
      · rw [CG]at h; exact SeqAt.EqAt.int_str i t y u _ _ _ _ h
    · rcases Zg z with ⟨j, u, rfl, rfl⟩ | ⟨y, u, rfl, rfl⟩
      · rw [Cr]at h; exact SeqAt.EqAt.str_int x t j u _ _ _ _ h
      · rw [AE]at h; exact wpAny_eqBool_str h
  «strs» := fun k x t v h => by
    rcases Zg h with⟨i, u, rfl, e⟩|⟨y, u, rfl, e⟩
    · exact nomatch e
    · injection e with n _
      subst n; cases v<;>rfl
theorem gj(prog:Program)(w:World)(i:Int)(t:Tok):(Zp prog w).is (.inl i) (.int i t)=true:=mY i t
theorem fL(prog:Program)(w:World)(x:Str)(t:Tok):(Zp prog w).is (.inr x) (.str x t)=true:=ou x t
inductive V where
 |bP|bl (b:Bool)|int (i:Int)|str (x:Str)|byt (b:Array UInt8)|flt (b:UInt64)|ref (a:Addr)|ty (n:String)
 deriving DecidableEq
def QR:V->Value->Prop
 |.bP,u=>u=Value.none
 |.bl b,u=>u=Value.bool b
 |.int i,u=>∃t,u=Value.int i t
 |.str x,u=>∃t,u=Value.str x t
 |.byt b,u=>∃t,u=Value.bytes b t
 |.flt b,u=>∃t,u=Value.float b t
 |.ref a,u=>u=Value.ref a
 |.ty n,u=>u=Value.type n
abbrev QH:List V->List Value->Prop:=Paired QR
theorem QH.length{xs:List V}{us:List Value}(r:QH xs us):xs.length=us.length:=Paired.length r
theorem QH.get:∀{xs:List V} {us:List Value} {i:Nat} {x:V},QH xs us->xs[i]?=some x->∃u,us[i]?=some u/\QR x u
 |_,_,_,_,.nil,e=>by simp at e
 |_,_,0,_,.cons r _,e=>by simp at e;subst e;exact⟨_,Z,r⟩
 | _,_,i+1,x,.cons _ t,e=>by
  obtain⟨u,h1,h2⟩:=QH.get (i:=i) (x:=x) t (by simpa using e);exact⟨u,by simpa using h1,h2⟩
theorem QH.append:∀{xs ys:List V} {us ws:List Value},QH xs us->QH ys ws->QH (xs++ys) (us++ws)
 |_,_,_,_,.nil,s=>s
 |_,_,_,_,.cons r t,s=>.cons r (QH.append t s)
theorem QH.take:∀{xs:List V} {us:List Value} (n:Nat),QH xs us->QH (xs.take n) (us.take n)
 |_,_,0,_=>.nil
 |_,_,_+1,.nil=>.nil
 |_,_,n+1,.cons r t=>.cons r (QH.take n t)
theorem QH.drop:∀{xs:List V} {us:List Value} (n:Nat),QH xs us->QH (xs.drop n) (us.drop n)
 |_,_,0,r=>r
 |_,_,_+1,.nil=>.nil
 |_,_,n+1,.cons _ t=>QH.drop n t
theorem QH.none_of:∀{xs:List V} {us:List Value} {i:Nat},QH xs us->xs[i]?=none->us[i]?=none:=fun {xs us i} r e=>by
 have h1:=r.length;have h2:xs.length<=i:=List.getElem?_eq_none_iff.mp e;exact List.getElem?_eq_none_iff.mpr (by omega)
def YL:Option V->Option Value->Prop
 |some v,some u=>QR v u
 |none,none=>True
 |_,_=>False
def KV{κ:Type}:List (κ×V)->List (κ×Value)->Prop:=Paired fun(p:κ×V) (q:κ×Value)=>p.1=q.1/\QR p.2 q.2
def kV:Key->V
 |.inl i=>.int i
 |.inr x=>.str x
inductive HO where
 |lst (xs:List V)
 |tup (xs:List V)
 |dK (kvs:List (Key×V))|dT (kvs:List (List Key×V))
 |set (S:Int->Bool) (n:Nat)
 |ins (C dx:Addr) (fs:List (Str×V))
 |own (x:Addr)
 |xd (fs:List (Str×V))
 |met (f x:Addr)
 |rng (lo hi:Int)
 |frz (o:Obj) (u:HO)
 |tbl (ps:Array Value)
 |ext (φ:Heap->Prop)
abbrev Hp:=Addr->Option HO
def upd(H:Hp)(a:Addr)(o:HO):Hp:=fun b=>if b=a then some o else H b
theorem Qe{H:Hp}{a:Addr}{o:HO}:upd H a o a=some o:=by unfold upd;rw[Wi Z]
theorem Qh{H:Hp}{a b:Addr}{o:HO}(h:b≠a):upd H a o b=H b:=by unfold upd;rw[Wh h]
theorem YG{H:Hp}{a b:Addr}{o u:HO}(h:H a=some o)(h':H b=some u)(d:o≠u):a≠b:=by intro e;subst e;rw[h]at h';exact d (Wo h')
theorem Qg{H:Hp}{a b:Addr}{o:HO}(h:H a=some o)(h':H b=none):a≠b:=by intro e;subst e;rw[h]at h';cases h'
section
variable (P:Program) (w:World)
def Zh(H:Hp)(h:Heap)(a:Addr):HO->Prop
 |.lst xs=>xs.length<=sizeLine/\∃(a8:List Value)(n:Nat),QH xs a8/\h.get? a=some { cls:=.type "list",data:=.seq a8.toArray n }
 |.tup xs=>xs.length<=sizeLine/\∃a8:List Value,QH xs a8/\IsTup h a a8.toArray
 |.dK kvs=>kvs.length<=sizeLine/\(a==sysModules)=false/\∃vs,KV kvs vs/\h.DictOf (Zp P w) a vs
 | .dT kvs=>kvs.length<=sizeLine/\(a==sysModules)=false/\∃ xs:List (List Key×Addr×Value),
   Paired (fun(p:List Key×V) (q:List Key×Addr×Value)=>p.1=q.1/\H q.2.1=some (.tup (p.1.map kV))/\QR p.2 q.2.2) kvs xs/\
   ∃o es ep,h.get? a=some o/\o.ExactDict/\o.data=.dict es ep/\es.toList=xs.map (entryOfKey (tupleKind (Zp P w)))/\(xs.map (·.1)).Nodup
 |.set S n=>h.SetOf (intKind P w) a S n
 | .ins C dx fs=>H dx=some (.own a)/\fs.length<=1000/\dx≠a/\h.get? a=some (UI C dx)/\
   ∃mA,h.Ns1 dx mA/\(∀f,YL (fs.lookup f) (mA f))/\PySem.Within mA (fs.map (·.1))
 |.own _=>∃o,h.get? a=some o
 |.xd fs=>∃mA,h.Ns1 a mA/\∀f,YL (fs.lookup f) (mA f)
 |.rng lo hi=>∃t u v,h.get? a=some { cls:=.type "range",data:=.fields #[.int lo t,.int hi u,.int 1 v] }
 |.frz o u=>h.get? a=some o/\Zh H h a u
 |.tbl ps=>h.get? a=some { cls:=.none,data:=.fields ps }
 |.met f x=>h.get? a=some (Qaw (.ref f) (.ref x))
 |.ext φ=>φ h/\(∃o,h.get? a=some o)/\∀h1 h2:Heap,φ h1->(∀o,h1.get? a=some o->h2.get? a=some o)->φ h2
def dh(H:Hp)(h:Heap):Prop:=∀a o,H a=some o->Zh P w H h a o
end
section
variable {P:Program} {w:World} {H H':Hp} {h h':Heap} {a:Addr} {o:HO}
theorem Zh.lt(x:Zh P w H h a o):a<h.objs.size:=by
 cases o with
 |lst xs=>obtain⟨_,_,_,_,e⟩:=x;exact Wu e
 |tup xs=>obtain⟨_,_,_,p⟩:=x;exact p.lt
 |dK kvs=>obtain⟨_,_,_,_,o,_,_,e,_⟩:=x;exact Wu e
 |dT kvs=>obtain⟨_,_,_,_,o,_,_,e,_⟩:=x;exact Wu e
 |set S n=>obtain⟨o,_,_,_,e,_⟩:=x;exact Wu e
 |ins C dx fs=>obtain⟨_,_,_,e,_⟩:=x;exact Wu e
 |own y=>obtain⟨_,e⟩:=x;exact Wu e
 |xd fs=>obtain⟨_,⟨_,_,_,e,_⟩,_⟩:=x;exact Wu e
 |rng lo hi=>obtain⟨_,_,_,e⟩:=x;exact Wu e
 |frz j u=>obtain⟨e,_⟩:=x;exact Wu e
 |tbl ps=>exact Wu (show h.get? a=some _ from x)
 |met f y=>exact Wu (show h.get? a=some _ from x)
 |ext φ=>obtain⟨_,⟨_,e⟩,_⟩:=x;exact Wu e
theorem Paired.BC{α β:Type}{F G:α->β->Prop}:∀{j:List α} {n:List β},Paired F j n->(∀a b,F a b->G a b)->Paired G j n
 |_,_,.nil,_=>.nil
 |_,_,.cons r t,f=>.cons (f _ _ r) (Paired.BC t f)
theorem Zh.gG(x:Zh P w H h a o) (k:∀b u,(b=a\/H b=some (.own a))->h.get? b=some u->h'.get? b=some u)
  (F:∀b,H b=some (.own a)->H' b=some (.own a)) (G:∀b xs,H b=some (.tup xs)->H' b=some (.tup xs)):Zh P w H' h' a o:=by
 induction o with
 |lst xs=>obtain⟨z,a8,n,r,e⟩:=x;exact⟨z,a8,n,r,k _ _ (.inl Z) e⟩
 |tup xs=>obtain⟨z,a8,r,j,e,c⟩:=x;exact⟨z,a8,r,j,k _ _ (.inl Z) e,c⟩
 |dK kvs=>obtain⟨z,y,vs,r,j,es,ep,e,c⟩:=x;exact⟨z,y,vs,r,j,es,ep,k _ _ (.inl Z) e,c⟩
 | dT kvs=>
  obtain⟨z,y,xs,r,j,es,ep,e,c⟩:=x;exact⟨z,y,xs,Paired.BC r fun p q z=>⟨z.1,G _ _ z.2.1,z.2.2⟩,j,es,ep,k _ _ (.inl Z) e,c⟩
 |set S n=>obtain⟨j,es,ep,t,e,c⟩:=x;exact⟨j,es,ep,t,k _ _ (.inl Z) e,c⟩
 | ins C dx fs=>
  obtain⟨d,z,ne,e,mA,⟨B,es,ep,I,c⟩,r⟩:=x;exact⟨F _ d,z,ne,k _ _ (.inl Z) e,mA,⟨B,es,ep,k _ _ (.inr d) I,c⟩,r⟩
 |own y=>obtain⟨j,e⟩:=x;exact⟨j,k _ _ (.inl Z) e⟩
 |xd fs=>obtain⟨mA,⟨B,es,ep,e,c⟩,r⟩:=x;exact⟨mA,⟨B,es,ep,k _ _ (.inl Z) e,c⟩,r⟩
 |rng lo hi=>obtain⟨t,u,v,e⟩:=x;exact⟨t,u,v,k _ _ (.inl Z) e⟩
 |frz j u J=>obtain⟨e,q⟩:=x;exact⟨k _ _ (.inl Z) e,J q⟩
 | tbl ps=>
  have e:h.get? a=some { cls:=.none,data:=.fields ps }:=x;show h'.get? a=some { cls:=.none,data:=.fields ps };exact k a _ (.inl Z) e
 | met f y=>
  have e:h.get? a=some (Qaw (.ref f) (.ref y)):=x;show h'.get? a=some (Qaw (.ref f) (.ref y));exact k a _ (.inl Z) e
 |ext φ=>obtain⟨p,⟨o,e⟩,st⟩:=x;exact⟨st _ _ p fun o q=>k _ _ (.inl Z) q,⟨o,k _ _ (.inl Z) e⟩,st⟩
theorem dh.lt(x:dh P w H h)(e:H a=some o):a<h.objs.size:=(x a o e).lt
theorem dh.fresh(x:dh P w H h)(e:h.objs.size<=a):H a=none:=by
 cases q:H a with
 |none=>rfl
 |some u=>exact Wm (xW (x.lt q) e) (Uq _)
theorem dh.kept(x:dh P w H h)(k:∀b u,h.get? b=some u->h'.get? b=some u):dh P w H h':=fun a o e=>
 (x a o e).gG (fun b u _ q=>k b u q) (fun _ q=>q) fun _ _ q=>q
theorem dh.laid(x:dh P w H h)(k:∀b u,h.get? b=some u->h'.get? b=some u)(B:h.objs.size<=a) (j:Zh P w (upd H a o) h' a o):dh P w (upd H a o) h':=fun b u e=>by
 have n:=x.fresh B;by_cases z:b=a
 ·subst z;rw[Qe]at e;cases e;exact j
 ·rw[Qh z]at e;exact(x b u e).gG (fun c v _ q=>k c v q) (fun c q=>by rw[Qh (Qg q n)];exact q) fun c xs q=>by rw[Qh (Qg q n)];exact q
end
def Rd(H:Hp)(a:Addr)(u:HO):Prop:=H a=some u\/∃o,H a=some (.frz o u)
theorem Rd.ok{P:Program}{w:World}{H:Hp}{h:Heap}{a:Addr}{u:HO}(r:Rd H a u)(x:dh P w H h):Zh P w H h a u:=by
 rcases r with r|⟨o,r⟩
 ·exact x a u r
 ·obtain⟨_,q⟩:=x a _ r;exact q
def DR:Option HO->Prop
 |some (.lst _)=>True
 |some (.dK _)=>True
 |some (.dT _)=>True
 |some (.set _ _)=>True
 |some (.ins _ _ _)=>True
 |some (.ext _)=>True
 |_=>False
section
variable {P:Program} {w:World} {H:Hp} {h h':Heap} {x e:Addr} {o':HO}
theorem dh.write(ok:dh P w H h) (F:DR (H x)) (M:e=x\/H e=some (.own x)) (k:∀b u,b≠e->h.get? b=some u->h'.get? b=some u) (I:∃u,h'.get? e=some u)
  (J:Zh P w (upd H x o') h' x o'):dh P w (upd H x o') h':=fun b u q=>by
 have n:∀c y,H c=some (.own y)->c≠x:=fun c y r z=>by subst z;rw[r]at F;exact F
 have B:∀c xs,H c=some (.tup xs)->c≠x:=fun c xs r z=>by subst z;rw[r]at F;exact F
 by_cases G:b=x
 ·subst G;rw[Qe]at q;cases q;exact J
 ·rw[Qh G] at q;by_cases j:b=e
  ·have O:H b=some (.own x):=by
    rcases M with z|z
    ·exact Wm (j.trans z) G
    ·rw[j];exact z
   rw[q]at O;cases O;obtain⟨v,U⟩:=I;exact⟨v,by rw[j];exact U⟩
  ·refine (ok b u q).gG (fun c v hc r=>k c v ?_ r) (fun c r=>by rw[Qh (n c b r)];exact r) fun c xs r=>by rw[Qh (B c xs r)];exact r
   rcases hc with rfl|hc
   ·exact j
   ·rintro rfl;rcases M with z | z
    ·exact n c b hc z
    ·rw[hc]at z;cases z;exact G rfl
end
structure Un(fs ex:List Addr)(H H':Hp)(h h':Heap):Prop where
 keep:∀b o,h.get? b=some o->H b=none->b∉fs->b∉ex->h'.get? b=some o
 slot:∀b o,h.get? b=some o->H b=none->b∈fs->b∉ex->∃sl,h'.get? b=some { o with slots:=sl }
 free:∀b o,h.get? b=some o->H b=none->b∉ex->H' b=none
 there:∀b o,h.get? b=some o->b∉ex->∃o',h'.get? b=some o'
 dW:∀b xs,H b=some (.tup xs)->H' b=some (.tup xs)
 dJ:∀b o u,H b=some (.frz o u)->H' b=some (.frz o u)
 dZ:∀b ps,H b=some (.tbl ps)->∃more,H' b=some (.tbl (ps++more))
section
variable {fs wZ ex KY:List Addr} {H H1 H2:Hp} {h h1 h2 h':Heap} {a x e:Addr} {o:HO}
theorem Un.any(u:Un fs ex H H1 h h1){b:Addr}{j:Obj}(q:h.get? b=some j)(n:H b=none)(z:b∉ex):∃F,h1.get? b=some { j with slots:=F }:=by
 by_cases B:b∈fs
 ·exact u.slot b j q n B z
 ·exact⟨j.slots,u.keep b j q n B z⟩
theorem Un.trans(a:Un fs ex H H1 h h1)(b:Un fs ex H1 H2 h1 h2):Un fs ex H H2 h h2 where
 keep:=fun c j q n hc z=>b.keep c j (a.keep c j q n hc z) (a.free c j q n z) hc z
 slot:=fun c j q n hc z=>by
  obtain⟨I,B⟩:=a.slot c j q n hc z;obtain⟨F,G⟩:=b.slot c _ B (a.free c j q n z) hc z;exact⟨F,G⟩
 free:=fun c j q n z=>by
  obtain⟨o',B⟩:=a.there c j q z;exact b.free c o' B (a.free c j q n z) z
 there:=fun c j q z=>by
  obtain⟨o',B⟩:=a.there c j q z;exact b.there c o' B z
 dW:=fun c xs q=>b.dW c xs (a.dW c xs q)
 dJ:=fun c j xs q=>b.dJ c j xs (a.dJ c j xs q)
 dZ:=fun c ps q=>by
  obtain⟨m1,B⟩:=a.dZ c ps q;obtain⟨m2,G⟩:=b.dZ c _ B;exact⟨m1++m2,by rw[G,Array.append_assoc]⟩
theorem Un.kept(k:∀b u,h.get? b=some u->h'.get? b=some u):Un fs ex H H h h':=
 ⟨fun b j q _ _ _=>k b j q,fun b j q _ _ _=>⟨j.slots,k b j q⟩,fun _ _ _ n _=>n,fun b j q _=>⟨j,k b j q⟩,fun _ _ q=>q,fun _ _ _ q=>q,fun _ ps q=>⟨#[],by rw[q];simp⟩⟩
theorem Un.refl:Un fs ex H H h h:=Un.kept fun _ _ q=>q
theorem Un.laid(k:∀b u,h.get? b=some u->h'.get? b=some u)(z:h.objs.size<=a)(j:H a=none):Un fs ex H (upd H a o) h h' where
 keep:=fun b u q _ _ _=>k b u q
 slot:=fun b u q _ _ _=>⟨u.slots,k b u q⟩
 free:=fun b u q n _=>by rw[Qh (x3 (xW (Wu q) z))];exact n
 there:=fun b u q _=>⟨u,k b u q⟩
 dW:=fun b xs q=>by rw[Qh (Qg q j)];exact q
 dJ:=fun b u xs q=>by rw[Qh (Qg q j)];exact q
 dZ:=fun b ps q=>⟨#[],by rw[Qh (Qg q j),q];simp⟩
theorem Un.write (B:DR (H x)) (M:e=x\/H e=some (.own x)) (k:∀b u,b≠e->h.get? b=some u->h'.get? b=some u) (F:∃u,h'.get? e=some u):Un fs ex H (upd H x o) h h':=by
 have I:∀b,H b=none->b≠x:=fun b n z=>by subst z;rw[n]at B;exact B
 have J:∀b,H b=none->b≠e:=fun b n z=>by
  subst z;rcases M with r|r
  ·exact I b n r
  ·rw[n]at r;cases r
 have G:∀b u,H b=some u->¬DR (some u)->b≠x:=fun b u q nm z=>by subst z;rw[q]at B;exact nm B
 refine⟨fun b u q n _ _=>k b u (J b n) q,fun b u q n _ _=>⟨u.slots,k b u (J b n) q⟩,fun b u q n _=>by rw[Qh (I b n)];exact n,fun b u q _=>?_,
  fun b xs q=>by rw[Qh (G b _ q fun z=>z)];exact q,fun b u xs q=>by rw[Qh (G b _ q fun z=>z)];exact q,fun b ps q=>⟨#[],by rw[Qh (G b _ q fun z=>z),q];simp⟩⟩
 by_cases j:b=e
 ·subst j;exact F
 ·exact⟨u,k b u j q⟩
theorem Un.mono(u:Un fs ex H H1 h h1)(G:∀b∈fs,b∈wZ)(F:∀b∈ex,b∈KY):Un wZ KY H H1 h h1:=
 ⟨fun b B q n I j=>u.keep b B q n (fun z=>I (G b z)) fun z=>j (F b z),fun _ _ q n _ j=>u.any q n fun z=>j (F _ z),fun b B q n j=>u.free b B q n fun z=>j (F b z),fun b B q j=>u.there b B q fun z=>j (F b z),u.dW,u.dJ,u.dZ⟩
end
def FX(h:Heap)(H:Hp):List Addr:=(xN h.objs.size).filter fun a=>(H a).isSome
def j9(h:Heap)(H:Hp):Heap:=PySem.W.hideAll h (FX h H)
theorem pa(h:Heap)(H:Hp):(j9 h H).objs.size=h.objs.size:=PySem.W.hideAll_size _ _
theorem sY{h:Heap}{H:Hp}{b:Addr}{o:Obj}(e:h.get? b=some o)(n:H b=none):(j9 h H).get? b=some o:=
 PySem.W.hideAll_get _ e fun j=>by
  have q:(H b).isSome=true:=(List.mem_filter.mp j).2;rw[n]at q;simp at q
theorem wu{h:Heap}{H:Hp}{b:Addr}{o:Obj} (e:(j9 h H).get? b=some o):h.get? b=some o/\H b=none:=by
 have j:h.get? b=some o:=PySem.W.of_hideAll (FX h H) e;refine⟨j,?_⟩;cases q:H b with
 |none=>rfl
 | some x=>
  have n:b∈FX h H:=List.mem_filter.mpr ⟨List.mem_range.mpr (Wu j),by simp[q]⟩;have z:(j9 h H).get? b=none:=PySem.W.hideAll_none (FX h H) n;rw[z]at e;cases e
def we(g h:Heap)(j:Addr):List (Addr×Obj):=(xN h.objs.size).filterMap fun a=>if a=j\/(g.get? a).isSome=true then none else(h.get? a).map fun o=>(a,o)
def JR(g h:Heap)(j d:Addr):List (Addr×Obj):=(we g h j).filter fun p=>decide (p.1≠d)
structure Mod(K:xz)(mg:Str->Option Value)(base:Heap):Prop where
 kin:K.In base
 glob:base.Ns mainGlobals mg
 blt:∃mb,base.Ns builtinsNs mb/\∀x:Str,x ≠ "__name__" -> mb x=bootBuiltins x
 nolimit:base.NoLimit
structure Cx where
 prog:Program
 w:World
 K:xz
 mg:Str->Option Value
 base:Heap
 A:Around
 N:List Str
 eG:Shared
 H_0:Hp
 env:Env
 outer:List Env
 stack:List Env
 ex:List Addr
 fn:Str->Bool
 calm:Bool
 pn:List (Addr×Obj)
 xe:Value->Shared->Prop
def um(l:List Env):List Addr:=l.filterMap (·.frame)
abbrev Cx.fs(X:Cx):List Addr:=um X.outer
def vO(sc:Scope)(x:Str):Prop:=sc.names.lookup x=some .local\/sc.names.lookup x=some .cell\/sc.names.lookup x=some .free
def Loc(sc:Scope)(x:Str):Prop:=sc.names.lookup x=some .local\/sc.names.lookup x=some .cell
def Look(env:Env)(h:Heap)(m:Str->Option Value)(x:Str)(u:Value):Prop:=
 (env.kindOf x=some .local/\m x=some u)\/((env.kindOf x=some .cell\/env.kindOf x=some .free)/\∃c,env.cells.lookup x=some c/\h.IsCell c (some u))
structure Cx.Ok(X:Cx):Prop where
 mod:Mod X.K X.mg X.base
 kind:X.env.scope.kind=.function
 glob:X.env.globals=mainGlobals
 blt:X.env.builtins=builtinsNs
 above:X.eG.heap.objs.size<=X.env.locals
 inj:∀x y c,X.env.cells.lookup x=some c->X.env.cells.lookup y=some c->x=y
 has:∀x,(X.env.kindOf x=some .cell\/X.env.kindOf x=some .free)->∃c,X.env.cells.lookup x=some c
 C1:∀x c,X.fn x=true->X.env.cells.lookup x=some c->X.eG.heap.objs.size<=c
 hd:X.calm=true->X.A.handled=none
 frames:X.A.frames=some X.stack
 FC:X.stack=X.outer\/(X.stack=X.env::X.outer/\X.env.frame=some X.env.locals)
 exf:∀b∈X.ex,b≠X.env.locals/\∀x c,X.env.cells.lookup x=some c->c≠b
 bs:∀b o,X.base.get? b=some o->X.eG.heap.get? b=some o/\X.H_0 b=none
 bsz:X.base.objs.size<=X.eG.heap.objs.size
 noex:∀b o,X.base.get? b=some o->b∉X.ex
 exfs:∀b∈X.ex,b∉X.fs
 d3:X.eG.heap.FunFrames X.base X.outer
 frf:∀b∈X.fs,X.H_0 b=none
structure Inv(X:Cx) (pins:List (Addr×Obj)) (σ:List (Option V)) (H:Hp) (s:Shared):Prop where
 ok:X.Ok
 os:s.os=X.eG.os
 bare:AllBare s.gens
 base:Un X.fs X.ex X.H_0 H X.eG.heap s.heap
 loc:∃m,s.heap.Ns X.env.locals m/\∀(i:Nat)(x:Str)(v:V),X.N[i]?=some x->σ[i]?=some (some v)->vO X.env.scope x->∃u,QR v u/\Look X.env s.heap m x u
 cell:∀x c,X.env.cells.lookup x=some c->∃v,s.heap.IsCell c v
 free:H X.env.locals=none
 freeC:∀x c,X.env.cells.lookup x=some c->H c=none
 pin:∀p∈X.pn++pins,s.heap.get? p.1=some p.2/\H p.1=none/\p.1≠X.env.locals/\p.1∉X.fs/\∀v,p.2.data≠.cell v
 bp:dh X.prog X.w H s.heap
 len:σ.length=X.N.length
section
variable {X:Cx} {pins:List (Addr×Obj)} {σ:List (Option V)} {H H':Hp} {s:Shared} {h':Heap}
theorem Cx.Ok.Ku(ok:X.Ok){b:Addr}{o:Obj}(e:X.base.get? b=some o):b∉X.fs:=fun j=>by
 have:=(ok.d3.mem j).1;rw[e]at this;cases this
theorem Inv.bs(I:Inv X pins σ H s):∀b o,X.base.get? b=some o->s.heap.get? b=some o/\H b=none:=fun b o e=>
 ⟨I.base.keep b o (I.ok.bs b o e).1 (I.ok.bs b o e).2 (I.ok.Ku e) (I.ok.noex b o e),I.base.free b o (I.ok.bs b o e).1 (I.ok.bs b o e).2 (I.ok.noex b o e)⟩
theorem Inv.bk(I:Inv X pins σ H s):∀b o,X.base.get? b=some o->s.heap.get? b=some o:=fun b o e=>(I.bs b o e).1
theorem Inv.mod(I:Inv X pins σ H s):Mod X.K X.mg X.base:=I.ok.mod
theorem Inv.eE(I:Inv X pins σ H s):X.K.In s.heap:=I.ok.mod.kin.keeps I.bk
theorem Inv.nolimit(I:Inv X pins σ H s):s.heap.NoLimit:=I.ok.mod.nolimit.keeps I.bk
theorem Inv.lt(I:Inv X pins σ H s):X.env.locals<s.heap.objs.size:=let ⟨_,j,_⟩:=I.loc;j.lt
theorem Inv.sz(I:Inv X pins σ H s):X.eG.heap.objs.size<=s.heap.objs.size:=xK I.ok.above (VR I.lt)
theorem Inv.HC(I:Inv X pins σ H s){a:Addr}(h:s.heap.objs.size<=a):a∉X.fs:=fun j=>by
 obtain⟨_,o,n,_⟩:=I.ok.d3.mem j;exact Wm (xW (Wu n) (xK I.sz h)) (Uq _)
theorem Inv.AQ(I:Inv X pins σ H s):∀x c,X.env.cells.lookup x=some c->c≠X.env.locals:=fun x c e z=>by
 obtain⟨v,o,B,hd⟩:=I.cell x c e;obtain⟨m,⟨o',es,ep,j,n,_⟩,_⟩:=I.loc;rw[z,j]at B;cases B;rw[n]at hd;cases hd
theorem Inv.d3(I:Inv X pins σ H s):s.heap.FunFrames X.base X.outer:=by
 have all:∀(l:List Env),(∀b∈um l,b∈X.fs)->X.eG.heap.FunFrames X.base l->s.heap.FunFrames X.base l:=by
  intro l;induction l with
  |nil=>intro _ _;trivial
  | cons env r F=>
   intro B hl;obtain⟨hk,⟨O,o,hf,G,J,hd⟩,hr⟩:=hl;have j:O∈X.fs:=B O (by unfold um;rw[Vz,hf];exact Gj);obtain⟨M,e⟩:=I.base.slot O o J (I.ok.frf O j) j fun z=>I.ok.exfs O z j;exact⟨hk,⟨O,_,hf,G,e,hd⟩,F (fun b n=>B b (by unfold um;rw[Vz,hf];exact xR _ n)) hr⟩
 exact all X.outer (fun _ n=>n) I.ok.d3
theorem Inv.stack(I:Inv X pins σ H s):s.heap.FunFrames X.base X.stack:=by
 rcases I.ok.FC with e|⟨e,hf⟩
 ·rw[e];exact I.d3
 ·rw[e];obtain⟨m,j,_⟩:=I.loc;refine .cons (by rw[I.ok.kind];decide) hf j ?_ I.d3;exact Heap.get?_none_of_le (xK I.ok.bsz I.ok.above)
theorem Inv.i5(I:Inv X pins σ H s):∀b∈um X.stack,b∈X.env.locals::X.fs:=fun b j=>by
 rcases I.ok.FC with e|⟨e,hf⟩
 ·rw[e]at j;exact xR _ j
 ·rw[e]at j;unfold um at j;rw[Vz,hf]at j;exact j
theorem Inv.mD(I:Inv X pins σ H s):∀b∈um X.stack,H b=none:=fun b j=>by
 rcases List.mem_cons.mp (I.i5 b j) with e|j
 ·rw[e];exact I.free
 ·obtain⟨_,o,n,_⟩:=I.ok.d3.mem j;exact I.base.free b o n (I.ok.frf b j) fun z=>I.ok.exfs b z j
theorem Inv.step{g':Array GenState}{t':Nat}{d':Drawn}{ch:List Addr}(I:Inv X pins σ H s)
  (B:∀b∈ch,(b∈X.ex\/X.eG.heap.objs.size<=b)/\b≠X.env.locals/\(∀x c,X.env.cells.lookup x=some c->c≠b)/\∀p∈X.pn++pins,p.1≠b)
  (keep:∀b o,b≠X.env.locals->b∉X.fs->b∉ch->s.heap.get? b=some o->H b=none->h'.get? b=some o)
  (slot:∀b o,b≠X.env.locals->b∈X.fs->b∉ch->s.heap.get? b=some o->H b=none->∃sl,h'.get? b=some { o with slots:=sl }) (free:∀b o,b∉ch->s.heap.get? b=some o->H b=none->H' b=none)
  (there:∀b o,b∉ch->s.heap.get? b=some o->∃o',h'.get? b=some o')
  (dW:∀b xs,H b=some (.tup xs)->H' b=some (.tup xs)) (dJ:∀b o u,H b=some (.frz o u)->H' b=some (.frz o u)) (dZ:∀b ps,H b=some (.tbl ps)->∃aa,H' b=some (.tbl (ps++aa)))
  (ns:∀m,s.heap.Ns X.env.locals m->h'.Ns X.env.locals m) (bp:dh X.prog X.w H' h') (hg:AllBare g') :
  Inv X pins σ H' { s with heap:=h',gens:=g',drawn:=d',toks:=t' }:=by
 have ab:∀b o,X.eG.heap.get? b=some o->b≠X.env.locals:=fun b o e=>x3 (xW (Wu e) I.ok.above)
 have J:∀b o,X.eG.heap.get? b=some o->b∉X.ex->b∉ch:=fun b o e j O=>by
  rcases(B b O).1 with z|z
  ·exact j z
  ·exact Wm (xW (Wu e) z) (Uq _)
 have F:∀x c,X.env.cells.lookup x=some c->∀v,s.heap.IsCell c v->h'.IsCell c v:=fun x c e v ⟨o,U,hd⟩=>by
  have G:c∉ch:=fun z=>(B c z).2.2.1 x c e rfl;by_cases hc:c∈X.fs
  ·obtain⟨sl,q⟩:=slot c o (I.AQ x c e) hc G U (I.freeC x c e);exact⟨_,q,hd⟩
  ·exact⟨o,keep c o (I.AQ x c e) hc G U (I.freeC x c e),hd⟩
 refine⟨I.ok,I.os,hg,⟨fun b o e n O j=>?_,fun b o e n O j=>?_,fun b o e n j=>?_,fun b o e j=>?_,fun b xs e=>dW b xs (I.base.dW b xs e),fun b o xs e=>dJ b o xs (I.base.dJ b o xs e),fun b ps e=>?_⟩,?_,fun x c e=>?_,?_,fun x c e=>?_,fun p hp=>?_,bp,I.len⟩
 ·exact keep b o (ab b o e) O (J b o e j) (I.base.keep b o e n O j) (I.base.free b o e n j)
 ·obtain⟨sl,M⟩:=I.base.slot b o e n O j;obtain⟨ac,e2⟩:=slot b _ (ab b o e) O (J b o e j) M (I.base.free b o e n j);exact⟨ac,e2⟩
 ·obtain⟨o',M⟩:=I.base.there b o e j;exact free b o' (J b o e j) M (I.base.free b o e n j)
 ·obtain⟨o',M⟩:=I.base.there b o e j;exact there b o' (J b o e j) M
 ·obtain⟨m1,M⟩:=I.base.dZ b ps e;obtain⟨m2,e2⟩:=dZ b _ M;exact⟨m1++m2,by rw[e2,Array.append_assoc]⟩
 ·obtain⟨m,hn,hl⟩:=I.loc;refine⟨m,ns m hn,fun i x v M e2 e3=>?_⟩;obtain⟨u,r,l⟩:=hl i x v M e2 e3;refine⟨u,r,?_⟩;rcases l with l | ⟨k,c,e,z⟩
  ·exact .inl l
  ·exact .inr ⟨k,c,e,F x c e _ z⟩
 ·obtain⟨v,z⟩:=I.cell x c e;exact⟨v,F x c e v z⟩
 ·obtain⟨m,⟨o,_,_,U,_⟩,_⟩:=I.loc;exact free _ o (fun z=>(B _ z).2.1 Z) U I.free
 ·obtain⟨v,o,U,hd⟩:=I.cell x c e;exact free c o (fun z=>(B c z).2.2.1 x c e Z) U (I.freeC x c e)
 ·obtain⟨e,n,ne,nf,d⟩:=I.pin p hp;have G:p.1∉ch:=fun z=>(B p.1 z).2.2.2 p hp rfl;exact⟨keep p.1 p.2 ne nf G e n,free p.1 p.2 G e n,ne,nf,d⟩
theorem Inv.un{t':Nat}(I:Inv X pins σ H s)(u:Un X.fs [] H H' s.heap h')(bp:dh X.prog X.w H' h'):Inv X pins σ H' { s with heap:=h',toks:=t' }:=by
 obtain⟨m,⟨o,es,ep,J,r⟩,_⟩:=id I.loc;obtain⟨sl,M⟩:=u.any J I.free We
 exact I.step (g':=s.gens) (d':=s.drawn) (ch:=[]) (fun _ z=>nomatch z) (fun b o _ B _ e n=>u.keep b o e n B We) (fun b o _ B _ e n=>u.slot b o e n B We) (fun b o _ e n=>u.free b o e n We) (fun b o _ e=>u.there b o e We) u.dW u.dJ u.dZ (fun m' O=>by
  obtain⟨o',F,G,j,U⟩:=O;rw[J]at j;cases j;exact⟨_,F,G,M,U⟩) bp I.bare
theorem Inv.call{g':Array GenState}{t':Nat}{d':Drawn}{ch:List Addr}(I:Inv X pins σ H s) (u:Un (um X.stack) ch H H' s.heap h') (bp:dh X.prog X.w H' h') (O:AllBare g')
  (j:∀b∈ch,(b∈X.ex\/X.eG.heap.objs.size<=b)/\b≠X.env.locals/\(∀x c,X.env.cells.lookup x=some c->c≠b)/\∀p∈X.pn++pins,p.1≠b) :
  Inv X pins σ H' { s with heap:=h',gens:=g',drawn:=d',toks:=t' }:=by
 obtain⟨m,⟨o,es,ep,M,r⟩,_⟩:=id I.loc;obtain⟨sl,F⟩:=u.any M I.free fun z=>(j _ z).2.1 rfl
 exact I.step (ch:=ch) j (fun b o F U hc e n=>u.keep b o e n (fun z=>(List.mem_cons.mp (I.i5 b z)).elim F U) hc) (fun b o _ _ hc e n=>u.any e n hc) (fun b o hc e n=>u.free b o e n hc) (fun b o hc e=>u.there b o e hc) u.dW u.dJ u.dZ (fun m' hm=>by
  obtain⟨o',G,J,B,r'⟩:=hm;rw[M]at B;cases B;exact⟨_,G,J,F,r'⟩) bp O
theorem Inv.turned{t':Nat}{it:Addr}(I:Inv X pins σ H s)(k:∀b o,b≠it->s.heap.get? b=some o->h'.get? b=some o)(F:H it=none)(B:it≠X.env.locals)
  (h1:it∈X.ex\/X.eG.heap.objs.size<=it) (h2:∀x c,X.env.cells.lookup x=some c->c≠it) (G:∀p∈X.pn++pins,p.1≠it):Inv X pins σ H { s with heap:=h',toks:=t' }:=by
 have j:∀b u,H b=some u->b≠it:=fun b u e z=>by rw[z,F]at e;cases e
 refine I.step (g':=s.gens) (d':=s.drawn) (ch:=[it]) (fun b J=>?_) (fun b o _ _ hc e _=>k b o (fun z=>hc (by simp[z])) e) (fun b o _ _ hc e _=>⟨o.slots,k b o (fun z=>hc (by simp[z])) e⟩) (fun _ _ _ _ n=>n)
  (fun b o hc e=>⟨o,k b o (fun z=>hc (by simp[z])) e⟩) (fun _ _ e=>e) (fun _ _ _ e=>e) (fun b ps e=>⟨#[],by rw[e];simp⟩) (fun m M=>?_) (fun b u e=>?_) I.bare
 ·have e:b=it:=by simpa using J
  subst e;exact⟨h1,B,h2,G⟩
 ·obtain⟨o,es,ep,O,r⟩:=M;exact⟨o,es,ep,k _ o (Ne.symm B) O,r⟩
 ·refine (I.bp b u e).gG (fun c v hc q=>k c v ?_ q) (fun _ q=>q) fun _ _ q=>q;rcases hc with z | z
  ·rw[z];exact j b u e
  ·exact j c _ z
theorem Inv.tok(I:Inv X pins σ H s)(t:Nat):Inv X pins σ H { s with toks:=t }:=I.un (h':=s.heap) (t':=t) Un.refl I.bp
theorem Inv.kept{t':Nat}(I:Inv X pins σ H s)(k:∀b u,s.heap.get? b=some u->h'.get? b=some u):Inv X pins σ H { s with heap:=h',toks:=t' }:=I.un (Un.kept k) (I.bp.kept k)
theorem Inv.laid{a:Addr}{o:HO}{t':Nat}(I:Inv X pins σ H s)(k:∀b u,s.heap.get? b=some u->h'.get? b=some u)(j:s.heap.objs.size<=a) (n:Zh X.prog X.w (upd H a o) h' a o) :
  Inv X pins σ (upd H a o) { s with heap:=h',toks:=t' }:=I.un (Un.laid k j (I.bp.fresh j)) (I.bp.laid k j n)
theorem Inv.write{x e:Addr}{o:HO}{t':Nat}(I:Inv X pins σ H s) (z:DR (H x)) (B:e=x\/H e=some (.own x)) (k:∀b u,b≠e->s.heap.get? b=some u->h'.get? b=some u) (j:∃u,h'.get? e=some u)
  (n:Zh X.prog X.w (upd H x o) h' x o):Inv X pins σ (upd H x o) { s with heap:=h',toks:=t' }:=I.un (Un.write z B k j) (I.bp.write z B k j n)
theorem Inv.weak {j:List (Option V)} (I:Inv X pins σ H s) (hl:j.length=σ.length) (w:∀(i:Nat) v,j[i]?=some (some v)->σ[i]?=some (some v)):Inv X pins j H s:=
 ⟨I.ok,I.os,I.bare,I.base,let ⟨m,z,n⟩:=I.loc;⟨m,z,fun i x v B F G=>n i x v B (w i v F) G⟩,I.cell,I.free,I.freeC,I.pin,I.bp,hl.trans I.len⟩
theorem Inv.lG {j:List (Addr×Obj)} (I:Inv X pins σ H s) (h:∀p∈j,s.heap.get? p.1=some p.2/\H p.1=none/\p.1≠X.env.locals/\p.1∉X.fs/\∀v,p.2.data≠.cell v):Inv X j σ H s:=
 ⟨I.ok,I.os,I.bare,I.base,I.loc,I.cell,I.free,I.freeC,fun p n=>(List.mem_append.mp n).elim (fun z=>I.pin p (Qad _ z)) (h p),I.bp,I.len⟩
theorem yc{N:List Str}(n:N.Nodup){i j:Nat}{x:Str}(a:N[i]?=some x)(b:N[j]?=some x):i=j:=by obtain⟨h1,z⟩:=List.getElem?_eq_some_iff.mp a;obtain⟨h2,B⟩:=List.getElem?_eq_some_iff.mp b;exact(V2 n).mp (z.trans B.symm)
theorem yT{M:Model}{A:Around}{E:Value->Shared->Prop}{i:Nat}{x:Str}{v:V}{u:Value}{Q:Unit->Shared->Prop}(I:Inv X pins σ H s)(hN:X.N.Nodup)(hi:X.N[i]?=some x)(J:Loc X.env.scope x)(r:QR v u)
  (h:∀s',Inv X pins (σ.set i (some v)) H s'->(∃a,Heap.SameBut a s.heap s'.heap/\(a=X.env.locals\/X.env.cells.lookup x=some a))->Q () s') (hf:X.fn x=true\/X.env.scope.names.lookup x=some .local:=by first|exact .inl rfl|exact .inr rfl|assumption):wpAny M A (storeName X.env x u) Q E s:=by
 obtain⟨m,hn,hl⟩:=id I.loc;have ab:(X.env.scope.kind==.class||(X.env.scope.kind==.module&&X.env.locals != X.env.globals))=false:=by rw[I.ok.kind];rfl
 have ac:i<σ.length:=by rw[I.len];exact(List.getElem?_eq_some_iff.mp hi).1
 have AQ:=I.AQ
 have F:∀{a:Addr} {h':Heap},(∃o,s.heap.get? a=some o/\H a=none)->Heap.SameBut a s.heap h'->dh X.prog X.w H h':=fun {a h'} ha B b ob e=>by
  obtain⟨_,_,O⟩:=ha;refine(I.bp b ob e).gG (fun c w' hc q=>(B.2 c ?_).trans q) (fun _ q=>q) fun _ _ q=>q;rintro rfl;rcases hc with rfl|hc
  ·rw[O]at e;cases e
  ·rw[O]at hc;cases hc
 rcases J with hk|hk
 ·refine wpAny_storeName_local hk hn (fun h' ai B=>?_) ab;obtain⟨oL,_,_,aj,_⟩:=id hn;refine h _ ⟨I.ok,I.os,I.bare,⟨fun b o e n hb J=>?_,fun b o e n hb J=>?_,I.base.free,fun b o e J=>?_,I.base.dW,I.base.dJ,I.base.dZ⟩,⟨_,ai,fun j y v' G U e3=>?_⟩,fun y c e=>?_,I.free,I.freeC,fun p hp=>?_,F ⟨oL,aj,I.free⟩ B,by simpa using I.len⟩ ⟨_,B,.inl Z⟩
  ·exact(B.2 b (x3 (xW (Wu e) I.ok.above))).trans (I.base.keep b o e n hb J)
  ·obtain⟨sl,G⟩:=I.base.slot b o e n hb J;exact⟨sl,(B.2 b (x3 (xW (Wu e) I.ok.above))).trans G⟩
  ·obtain⟨o',G⟩:=I.base.there b o e J;exact⟨o',(B.2 b (x3 (xW (Wu e) I.ok.above))).trans G⟩
  ·by_cases hj:j=i
   ·subst hj;rw[hi]at G;cases G;rw[Ur ac]at U;cases U;exact⟨u,r,.inl ⟨hk,by simp⟩⟩
   ·rw[Um (Ne.symm hj)] at U;obtain⟨u',r',q⟩:=hl j y v' G U e3;refine⟨u',r',?_⟩;rcases q with ⟨k,e⟩ | ⟨k,c,e,z⟩
    ·refine .inl ⟨k,?_⟩;have:y≠x:=fun e=>hj (yc hN G (e▸hi));simp[this,e]
    ·exact .inr ⟨k,c,e,z.sameBut B (AQ y c e)⟩
  ·obtain⟨w',z⟩:=I.cell y c e;exact⟨w',z.sameBut B (AQ y c e)⟩
  ·obtain⟨e,n,ne,nf,d⟩:=I.pin p hp;exact⟨(B.2 p.1 ne).trans e,n,ne,nf,d⟩
 ·have aa:X.fn x=true:=by
   rcases hf with z|z
   ·exact z
   ·rw[z]at hk;cases hk
  obtain⟨c,hc⟩:=I.ok.has x (.inl hk);obtain⟨w',z⟩:=I.cell x c hc;refine wpAny_storeName_cell I.ok.kind hk hc z (fun h' ad B=>?_);obtain⟨oc,af,ag⟩:=id z;refine h { s with heap:=h' } ⟨I.ok,I.os,I.bare,⟨fun b o e n hb J=>?_,fun b o e n hb J=>?_,I.base.free,fun b o e J=>?_,I.base.dW,I.base.dJ,I.base.dZ⟩,⟨m,hn.sameBut B (Ne.symm (AQ x c hc)),fun j y v' G U e3=>?_⟩,fun y c' e=>?_,I.free,I.freeC,fun p hp=>?_,F ⟨oc,af,I.freeC x c hc⟩ B,by simpa using I.len⟩ ⟨c,B,.inr hc⟩
  ·exact(B.2 b (x3 (xW (Wu e) (I.ok.C1 x c aa hc)))).trans (I.base.keep b o e n hb J)
  ·obtain⟨sl,G⟩:=I.base.slot b o e n hb J;exact⟨sl,(B.2 b (x3 (xW (Wu e) (I.ok.C1 x c aa hc)))).trans G⟩
  ·obtain⟨o',G⟩:=I.base.there b o e J;exact⟨o',(B.2 b (x3 (xW (Wu e) (I.ok.C1 x c aa hc)))).trans G⟩
  ·by_cases hj:j=i
   ·subst hj;rw[hi]at G;cases G;rw[Ur ac]at U;cases U;exact⟨u,r,.inr ⟨.inl hk,c,hc,ad⟩⟩
   ·rw[Um (Ne.symm hj)] at U;obtain⟨u',r',q⟩:=hl j y v' G U e3;refine⟨u',r',?_⟩;rcases q with q | ⟨k,c',e,z'⟩
    ·exact .inl q
    ·refine .inr ⟨k,c',e,z'.sameBut B ?_⟩;rintro rfl;exact hj (yc hN G (I.ok.inj _ _ _ e hc▸hi))
  ·by_cases ah:c'=c
   ·subst ah;exact⟨_,ad⟩
   ·obtain⟨w2,z2⟩:=I.cell y c' e;exact⟨w2,z2.sameBut B ah⟩
  ·obtain⟨e,n,ne,nf,d⟩:=I.pin p hp;refine⟨(B.2 p.1 ?_).trans e,n,ne,nf,d⟩;intro q;rw[q,af]at e;have q':oc=p.2:=Wo e;exact d w' (by rw[<-q'];exact ag)
theorem zJ{M:Model}{A:Around}{E:Value->Shared->Prop}{i:Nat}{x:Str}{v:V}{u:Value}{Q:Unit->Shared->Prop}(I:Inv X pins σ H s)(j:X.N.Nodup)(hi:X.N[i]?=some x)(n:Loc X.env.scope x)(r:QR v u)
  (h:∀s',Inv X pins (σ.set i (some v)) H s'->Q () s') (hf:X.fn x=true\/X.env.scope.names.lookup x=some .local:=by first|exact .inl rfl|exact .inr rfl|assumption):wpAny M A (storeName X.env x u) Q E s:=
 yT I j hi n r (fun s' z _=>h s' z) hf
theorem Inv.DK{s':Shared}{ch:List Addr}(I:Inv X pins σ H s)(n:s'.os=s.os) (u:Un (um X.stack) ch H H' s.heap s'.heap) (bp:dh X.prog X.w H' s'.heap) (z:AllBare s'.gens)
  (j:∀b∈ch,(b∈X.ex\/X.eG.heap.objs.size<=b)/\b≠X.env.locals/\(∀x c,X.env.cells.lookup x=some c->c≠b)/\∀p∈X.pn++pins,p.1≠b):Inv X pins σ H' s':=by
 obtain⟨h',g',d',t',o'⟩:=s';have e:o'=s.os:=n;subst e;exact I.call (g':=g') (t':=t') (d':=d') u bp z j
end
abbrev XK:=Value->Option Addr->Hp->Prop
abbrev St:=List (Option V)
abbrev VK:=V->Hp->Prop
abbrev TE:=St->Hp->VK->Prop
abbrev TT:=St->Hp->(Bool->Hp->Prop)->Prop
abbrev TA:=St->Hp->(List V->Hp->Prop)->Prop
structure JD where
 nx:St->Hp->Prop
 rt:VK
 bk:St->Hp->Prop:=fun _ _=>False
 ct:St->Hp->Prop:=fun _ _=>False
abbrev TS:=JD->St->Hp->Prop
def EP(X:Cx) (pins:List (Addr×Obj)) (σ:St) (Q:VK) (u:Value) (s':Shared):Prop:=∃v H',Inv X pins σ H' s'/\QR v u/\Q v H'
def TP(X:Cx) (pins:List (Addr×Obj)) (σ:St) (Q:Bool->Hp->Prop) (b:Bool) (s':Shared):Prop:=∃H',Inv X pins σ H' s'/\Q b H'
def AP(X:Cx) (pins:List (Addr×Obj)) (σ:St) (Q:List V->Hp->Prop) (us:List Value) (s':Shared):Prop:=∃vs H',Inv X pins σ H' s'/\QH vs us/\Q vs H'
def SP(X:Cx) (pins:List (Addr×Obj)) (D:JD) (f:Flow) (s':Shared):Prop:=
 match f with
 |.next=>∃j H',Inv X pins j H' s'/\D.nx j H'
 |.brk=>∃j H',Inv X pins j H' s'/\D.bk j H'
 |.cont=>∃j H',Inv X pins j H' s'/\D.ct j H'
 |.ret u=>∃v j H',Inv X pins j H' s'/\QR v u/\D.rt v H'
def PE(X:Cx)(e:Expr)(t:TE):Prop:=
 ∀(pins:List (Addr×Obj)) (s:Shared) (σ:St) (H:Hp) (Q:VK),Inv X pins σ H s->t σ H Q->wpAny (model X.prog X.w) X.A (eval e X.env) (EP X pins σ Q) X.xe s
def PT(X:Cx)(e:Expr)(t:TT):Prop:=
 ∀(pins:List (Addr×Obj)) (s:Shared) (σ:St) (H:Hp) (Q:Bool->Hp->Prop),Inv X pins σ H s->t σ H Q->wpAny (model X.prog X.w) X.A (isTrue e X.env (eval e X.env)) (TP X pins σ Q) X.xe s
def PW(X:Cx)(e:Expr)(t:TT):Prop:=
 ∀(j:Sem Value) (pins:List (Addr×Obj)) (s:Shared) (σ:St) (H:Hp) (Q:Bool->Hp->Prop),Inv X pins σ H s->t σ H Q->wpAny (model X.prog X.w) X.A (isTrue e X.env j) (TP X pins σ Q) X.xe s
theorem PW.pt{X:Cx}{e:Expr}{t:TT}(h:PW X e t):PT X e t:=h _
def PA(X:Cx)(es:List Expr)(t:TA):Prop:=
 ∀(pos:Pos) (pins:List (Addr×Obj)) (s:Shared) (σ:St) (H:Hp) (Q:List V->Hp->Prop),Inv X pins σ H s->t σ H Q->wpAny (model X.prog X.w) X.A (spliced (backTo pos (starEach es X.env))) (AP X pins σ Q) X.xe s
def PS(X:Cx)(st:Stmt)(t:TS):Prop:=
 ∀(pins:List (Addr×Obj)) (s:Shared) (σ:St) (H:Hp) (D:JD),Inv X pins σ H s->t D σ H->wpAny (model X.prog X.w) X.A (exec st X.env) (SP X pins D) X.xe s
def l7(X:Cx)(st:List Stmt)(t:TS):Prop:=
 ∀(pins:List (Addr×Obj)) (s:Shared) (σ:St) (H:Hp) (D:JD),Inv X pins σ H s->t D σ H->wpAny (model X.prog X.w) X.A (execs st X.env) (SP X pins D) X.xe s
theorem bx{α:Type}{t:Sem α}{Q j:α->Shared->Prop}{M:Model}{A:Around}{E:Value->Shared->Prop}{s:Shared}(h:wpAny M A t Q E s)(n:∀a s,Q a s->j a s):wpAny M A t j E s:=wpAny_mono h n fun _ _ x=>x
section
variable {X:Cx}
inductive ZH(i:Nat)(σ:St)(H:Hp)(Q:VK):Prop
 |mk (v:_):σ[i]?=some (some v)->Q v H->ZH i σ H Q
def tC(v:V):TE:=fun _ H Q=>Q v H
theorem jU{i:Nat}{x:Str}{pos:Pos}(z:X.N[i]?=some x)(B:vO X.env.scope x) (hd:(x==("__debug__" : Str))=false:=by decide) (n:(x==("__classdict__" : Str))=false:=by decide):PE X (.Name x pos) (ZH i):=by
 intro pins s σ H Q I h;obtain⟨v,e,h⟩:=h;obtain⟨m,F,hl⟩:=I.loc;obtain⟨u,r,l⟩:=hl i x v z e B;have fin:EP X pins σ Q u s:=⟨v,H,I,r,h⟩;rcases l with⟨hk,G⟩|⟨hk,c,hc,j⟩
 ·exact wpAny_Name (wpAny_loadName_local I.ok.kind hk F G fin) hd
 ·rcases hk with hk | hk
  ·exact wpAny_Name (wpAny_loadName_cell I.ok.kind hk hc j fin) hd
  ·exact wpAny_Name (wpAny_loadName_free I.ok.kind hk hc j fin n) hd
theorem Qi{i j pos}:PE X (.Constant (.int i) j pos) (tC (.int i)):=fun _ _ _ H _ I h=>wpAny_Constant_int ⟨.int i,H,I.tok _,⟨_,Z⟩,h⟩
theorem Xe{b j pos}:PE X (.Constant (.bool b) j pos) (tC (.bl b)):=fun _ _ _ H _ I h=>Constant_bool ⟨.bl b,H,I,Z,h⟩
theorem QT{j pos}:PE X (.Constant .none j pos) (tC .bP):=fun _ _ _ H _ I h=>Constant_none ⟨.bP,H,I,Z,h⟩
theorem Zi{x j pos}:PE X (.Constant (.str x) j pos) (tC (.str x)):=fun _ _ _ H _ I h=>Calls.Constant_str ⟨.str x,H,I.tok _,⟨_,Z⟩,h⟩
def Gl(X:Cx)(x:Str):Prop:=X.env.kindOf x=some .globalImplicit
theorem jZ{E:Value->Shared->Prop} {pins:List (Addr×Obj)} {s:Shared} {σ:St} {H:Hp} {x:Str} {u:Value} {pos:Pos} {Q:Value->Shared->Prop} (I:Inv X pins σ H s) (j:Gl X x) (n:X.mg x=some u) (h:Q u s)
  (hd:(x==("__debug__" : Str))=false:=by decide):wpAny (model X.prog X.w) X.A (eval (.Name x pos) X.env) Q E s:=
 Calls.Name_function_global I.ok.kind j (Calls.loadGlobal_global (by rw[I.ok.glob];exact I.mod.glob.keeps I.bk) n h) hd
theorem X6{E:Value->Shared->Prop} {pins:List (Addr×Obj)} {s:Shared} {σ:St} {H:Hp} {x:Str} {u:Value} {pos:Pos} {Q:Value->Shared->Prop} (I:Inv X pins σ H s) (j:Gl X x) (n:X.mg x=none) (z:bootBuiltins x=some u) (h:Q u s)
  (B:x ≠ "__name__" := by decide) (hd:(x==("__debug__" : Str))=false:=by decide):wpAny (model X.prog X.w) X.A (eval (.Name x pos) X.env) Q E s:=by
 obtain⟨F,h1,h2⟩:=I.mod.blt;exact Calls.Name_function_global I.ok.kind j (Calls.loadGlobal_builtin (by rw[I.ok.glob];exact I.mod.glob.keeps I.bk) n (by rw[I.ok.blt];exact h1.keeps I.bk) ((h2 x B).trans z) h) hd
theorem Zo{x:Str}{v:V}{u:Value}{pos:Pos}(j:Gl X x)(n:X.mg x=some u)(r:QR v u) (hd:(x==("__debug__" : Str))=false:=by decide):PE X (.Name x pos) (tC v):=
 fun _ _ _ H _ I h=>jZ I j n ⟨v,H,I,r,h⟩ hd
variable {a b:Expr} {ta tb:TE} {pos:Pos}
def PC(X:Cx)(op:CmpOp)(a b:Expr)(t:TE):Prop:=
 ∀(pins:List (Addr×Obj)) (s:Shared) (σ:St) (H:Hp) (Q:VK),Inv X pins σ H s->t σ H Q->
  wpAny (model X.prog X.w) X.A (eval a X.env) (fun v j=>wpAny (model X.prog X.w) X.A (eval b X.env) (fun u n=>wpAny (model X.prog X.w) X.A (compareOp op v u) (EP X pins σ Q) X.xe n) X.xe j) X.xe s
theorem sR(b:Expr){op:CmpOp}(h:op≠.In)(h2:op≠.NotIn):behindInMarks op b=false:=by
 have j:(op==CmpOp.In)=false:=by cases op<;>first|rfl|exact Wm Z h
 have n:(op==CmpOp.NotIn)=false:=by cases op<;>first|rfl|exact Wm Z h2
 cases b<;>simp[behindInMarks,j,n]
def Fh(ta:TE):TE:=fun σ H Q=>ta σ H fun x H1=>Q (.bl (decide (x=.bP))) H1
def EJ(ta:TE):TE:=fun σ H Q=>ta σ H fun x H1=>Q (.bl (!decide (x=.bP))) H1
theorem QR.fu{x:V}{v:Value}(r:QR x v):(v==Value.none)=decide (x=.bP):=by
 cases x with
 |bP=>cases r;rfl
 |bl _=>cases r;rfl
 |int _=>obtain⟨t,rfl⟩:=r;rfl
 |str _=>obtain⟨t,rfl⟩:=r;rfl
 |byt _=>obtain⟨t,rfl⟩:=r;rfl
 |flt _=>obtain⟨t,rfl⟩:=r;rfl
 |ref _=>cases r;rfl
 |ty _=>cases r;rfl
theorem Y5{j pos'}(n:PE X a ta):PC X .Is a (.Constant .none j pos') (Fh ta):=by intro pins s σ H Q I h;refine bx (n pins s σ H _ I h) fun v G ⟨x,H1,z,B,F⟩=>?_;exact Constant_none (is_none_gen ⟨.bl _,H1,z,by rw[B.fu];rfl,F⟩)
theorem ZV{j pos'}(n:PE X a ta):PC X .IsNot a (.Constant .none j pos') (EJ ta):=by intro pins s σ H Q I h;refine bx (n pins s σ H _ I h) fun v G ⟨x,H1,z,B,F⟩=>?_;exact Constant_none (isnot_none_gen ⟨.bl _,H1,z,by rw[B.fu];rfl,F⟩)
inductive KG(Q:Bool->Hp->Prop)(x:V)(H1:Hp):Prop
 |mk (c:_):x=.bl c->Q c H1->KG Q x H1
def tB(t:TE):TT:=fun σ H Q=>t σ H (KG Q)
theorem Q6{op:CmpOp}{t:TE}(h:PC X op a b t) (h1:behindInMarks op b=false:=by first|exact sR _ Wa (by decide)|rfl):PT X (.Compare a [op] [b] pos) (tB t):=by intro pins s σ H Q I hw;refine wpAny_isTrue_Compare1 (bx (h pins s σ H _ I hw) fun v B h1=>bx h1 fun u F h2=>bx h2 fun c G ⟨x,H1,j,n,z⟩=>?_) h1;obtain⟨d,rfl,q⟩:=z;cases n;exact wpAny_truthy_bool ⟨H1,j,q⟩
theorem Zd{e:Expr}{t:TE}(h:PE X e t) (n:∀j,isTrue e X.env j=(do let v <- j;standAt e.pos;holding [v] (truthy v)):=by intro _;rfl):PT X e (tB t):=by intro pins s σ H Q I hw;refine isTrue_plain (bx (h pins s σ H _ I hw) fun v G ⟨x,H1,z,B,F⟩=>?_) (n _);obtain⟨d,rfl,q⟩:=F;cases B;exact wpAny_truthy_bool ⟨H1,z,q⟩
variable {tA Hc:TT} {JR:List Expr}
def EO(t u:TT):TT:=fun σ H Q=>t σ H fun c H1=>if c=true then u σ H1 Q else Q false H1
def KZ(t u:TT):TT:=fun σ H Q=>t σ H fun c H1=>if c=true then Q true H1 else u σ H1 Q
def IP(t:TT):TT:=fun σ H Q=>t σ H fun c H1=>Q (!c) H1
theorem XW(j:PT X a tA):PW X (.BoolOp .And [a] pos) tA:=by
 intro n pins s σ H Q I h;refine isTrue_and (bx (j pins s σ H Q I h) fun c z e=>?_);cases c with
 |true=>exact isTrue_and_nil e
 |false=>exact e
theorem ZM(j:PT X a tA):PW X (.BoolOp .Or [a] pos) tA:=by
 intro n pins s σ H Q I h;refine isTrue_or (bx (j pins s σ H Q I h) fun c z e=>?_);cases c with
 |false=>exact isTrue_or_nil e
 |true=>exact e
theorem Y0(z:PT X a tA) (B:PW X (.BoolOp .And (b::JR) pos) Hc):PW X (.BoolOp .And (a::b::JR) pos) (EO tA Hc):=by
 intro F pins s σ H Q I h;refine isTrue_and (bx (z pins s σ H _ I h) fun c G ⟨H1,j,n⟩=>?_);cases c with
 |true=>exact B F pins G σ H1 Q j n
 |false=>exact⟨H1,j,n⟩
theorem Xo(z:PT X a tA) (B:PW X (.BoolOp .Or (b::JR) pos) Hc):PW X (.BoolOp .Or (a::b::JR) pos) (KZ tA Hc):=by
 intro F pins s σ H Q I h;refine isTrue_or (bx (z pins s σ H _ I h) fun c G ⟨H1,j,n⟩=>?_);cases c with
 |true=>exact⟨H1,j,n⟩
 |false=>exact B F pins G σ H1 Q j n
theorem X5(j:PT X a tA):PT X (.UnaryOp .Not a pos) (IP tA):=by intro pins s σ H Q I h;exact isTrue_not (j pins s σ H (fun c H1=>Q (!c) H1) I h)
def Fl(ta tb:TE):TE:=fun σ H Q=>ta σ H fun x H1=>∃c,x=.bl c/\if c=true then tb σ H1 Q else Q (.bl false) H1
def Hs(ta tb:TE):TE:=fun σ H Q=>ta σ H fun x H1=>∃c,x=.bl c/\if c=true then Q (.bl true) H1 else tb σ H1 Q
theorem Y3{op}{t:TE}(h:PE X a t):PE X (.BoolOp op [a] pos) t:=fun pins s σ H Q I hw=>BoolOp_one (h pins s σ H Q I hw)
theorem Y4(z:PE X a ta) (B:PE X (.BoolOp .And (b::JR) pos) tb):PE X (.BoolOp .And (a::b::JR) pos) (Fl ta tb):=by
 intro pins s σ H Q I h;refine BoolOp_and (bx (z pins s σ H _ I h) fun v F ⟨x,H1,n,G,j⟩=>?_);obtain⟨c,rfl,j⟩:=j;cases G;refine wpAny_truthy_bool ?_;cases c with
 |true=>exact B pins F σ H1 Q n j
 |false=>exact⟨.bl false,H1,n,Z,j⟩
theorem EM(z:PE X a ta) (B:PE X (.BoolOp .Or (b::JR) pos) tb):PE X (.BoolOp .Or (a::b::JR) pos) (Hs ta tb):=by
 intro pins s σ H Q I h;refine BoolOp_or (bx (z pins s σ H _ I h) fun v F ⟨x,H1,n,G,j⟩=>?_);obtain⟨c,rfl,j⟩:=j;cases G;refine wpAny_truthy_bool ?_;cases c with
 |false=>exact B pins F σ H1 Q n j
 |true=>exact⟨.bl true,H1,n,Z,j⟩
def K6(t:TT)(ta tb:TE):TE:=fun σ H Q=>t σ H fun c H1=>if c=true then ta σ H1 Q else tb σ H1 Q
theorem XG{c:Expr}(hc:PT X c tA)(B:PE X a ta)(F:PE X b tb):PE X (.IfExp c a b pos) (K6 tA ta tb):=by
 intro pins s σ H Q I h;refine wpAny_IfExp (bx (hc pins s σ H _ I h) fun d j ⟨H1,n,z⟩=>?_);cases d with
 |true=>exact B pins j σ H1 Q n z
 |false=>exact F pins j σ H1 Q n z
end
def a'(K:xz)(H:Hp)(a:Addr)(xs:List V):Prop:=
 Rd H a (.lst xs)\/
  ∃(o:Obj)(a8:Array Value)(n:Nat),K.lookup a=some o/\o.cls=.type "list" /\ o.dict=none/\o.data=.seq a8 n/\a8.size<=sizeLine/\QH xs a8.toList
def bV(K:xz)(H:Hp)(a:Addr)(xs:List V):Prop:=
 Rd H a (.tup xs)\/
  ∃(o:Obj)(a8:Array Value)(n:Nat),K.lookup a=some o/\o.cls=.type "tuple" /\ o.data=.seq a8 n/\a8.size<=sizeLine/\QH xs a8.toList
def IX:Value->Option V
 |.none=>some .bP
 |.bool b=>some (.bl b)
 |.int i _=>some (.int i)
 |.str x _=>some (.str x)
 |.bytes b _=>some (.byt b)
 |.float b _=>some (.flt b)
 |.ref a=>some (.ref a)
 |.type n=>some (.ty n)
 |_=>none
theorem QR.abs{x:V}{u:Value}(r:QR x u):IX u=some x:=by
 cases x with
 |bP=>cases r;rfl
 |bl _=>cases r;rfl
 |int _=>obtain⟨t,rfl⟩:=r;rfl
 |str _=>obtain⟨t,rfl⟩:=r;rfl
 |byt _=>obtain⟨t,rfl⟩:=r;rfl
 |flt _=>obtain⟨t,rfl⟩:=r;rfl
 |ref _=>cases r;rfl
 |ty _=>cases r;rfl
theorem QR.inj{x y:V}{u:Value}(r:QR x u)(q:QR y u):x=y:=Wo (r.abs.symm.trans q.abs)
theorem QH.inj:∀{xs ys:List V} {us:List Value},QH xs us->QH ys us->xs=ys
 |_,_,_,.nil,.nil=>rfl
 |_,_,_,.cons r t,.cons j t'=>by rw[r.inj j,QH.inj t t']
section
variable {X:Cx} {pins:List (Addr×Obj)} {σ:St} {H:Hp} {s:Shared} {a:Addr} {xs ys:List V}
theorem a'.of{K:xz} (h:H a=some (.lst xs)):a' K H a xs:=.inl (.inl h)
theorem bV.of{K:xz} (h:H a=some (.tup xs)):bV K H a xs:=.inl (.inl h)
theorem Inv.list(I:Inv X pins σ H s)(h:a' X.K H a xs):∃a8:List Value,QH xs a8/\PlainL s.heap a a8.toArray/\xs.length<=sizeLine:=by
 rcases h with h|⟨o,a8,n,hk,hc,hd,j,hz,r⟩
 ·obtain⟨z,a8,n,r,e⟩:=h.ok I.bp;exact⟨a8,r,⟨_,n,e,Z,Z,Z⟩,z⟩
 ·refine⟨a8.toList,r,⟨o,n,I.eE a o hk,hc,hd,by simpa using j⟩,?_⟩;have e:=r.length;simp only[VA]at e;omega
theorem Inv.tuple(I:Inv X pins σ H s)(h:bV X.K H a xs):∃a8:List Value,QH xs a8/\IsTup s.heap a a8.toArray/\xs.length<=sizeLine:=by
 rcases h with h|⟨o,a8,n,hk,hc,j,hz,r⟩
 ·obtain⟨z,a8,r,p⟩:=h.ok I.bp;exact⟨a8,r,p,z⟩
 ·refine⟨a8.toList,r,⟨o,I.eE a o hk,hc,n,by simpa using j⟩,?_⟩;have e:=r.length;simp only[VA]at e;omega
theorem Inv.cM(I:Inv X pins σ H s)(h:a' X.K H a xs)(h':a' X.K H a ys):xs=ys:=by
 obtain⟨a8,r,⟨o,n,e,_,_,d⟩,_⟩:=I.list h;obtain⟨its',z,⟨o',F,j,_,_,d'⟩,_⟩:=I.list h';rw[e]at j;cases j;rw[d]at d';injection d' with B _
 have:a8=its':=by simpa using Wn Qb0 B
 subst this;exact r.inj z
theorem Inv.oC(I:Inv X pins σ H s)(h:bV X.K H a xs)(h':bV X.K H a ys):xs=ys:=by
 obtain⟨a8,r,⟨o,e,_,n,d⟩,_⟩:=I.tuple h;obtain⟨its',z,⟨o',j,_,F,d'⟩,_⟩:=I.tuple h';rw[e]at j;cases j;rw[d]at d';injection d' with B _
 have:a8=its':=by simpa using Wn Qb0 B
 subst this;exact r.inj z
end
abbrev Cx.eF(X:Cx)(E:Value->Shared->Prop):Cx:={ X with xe:=E }
abbrev Cx.E6(X:Cx):Cx:=X.eF fun _ _=>False
theorem Cx.Ok.eF{X:Cx}(ok:X.Ok)(E:Value->Shared->Prop):(X.eF E).Ok:=
 ⟨ok.mod,ok.kind,ok.glob,ok.blt,ok.above,ok.inj,ok.has,ok.C1,ok.hd,ok.frames,ok.FC,ok.exf,ok.bs,ok.bsz,ok.noex,ok.exfs,ok.d3,ok.frf⟩
theorem Cx.Ok.cX{X:Cx}{E:Value->Shared->Prop} (ok:(X.eF E).Ok):X.Ok:=
 ⟨ok.mod,ok.kind,ok.glob,ok.blt,ok.above,ok.inj,ok.has,ok.C1,ok.hd,ok.frames,ok.FC,ok.exf,ok.bs,ok.bsz,ok.noex,ok.exfs,ok.d3,ok.frf⟩
section
variable {X:Cx} {pins:List (Addr×Obj)} {σ:St} {H:Hp} {s:Shared} {E:Value->Shared->Prop}
theorem Inv.eF(I:Inv X pins σ H s)(E:Value->Shared->Prop):Inv (X.eF E) pins σ H s:=⟨I.ok.eF E,I.os,I.bare,I.base,I.loc,I.cell,I.free,I.freeC,I.pin,I.bp,I.len⟩
theorem Inv.cX (I:Inv (X.eF E) pins σ H s):Inv X pins σ H s:=⟨I.ok.cX,I.os,I.bare,I.base,I.loc,I.cell,I.free,I.freeC,I.pin,I.bp,I.len⟩
theorem SP.cX{D:JD}{f:Flow}{s':Shared} (h:SP (X.eF E) pins D f s'):SP X pins D f s':=by
 cases f with
 |next=>obtain⟨j,H',I,q⟩:=h;exact⟨j,H',I.cX,q⟩
 |brk=>obtain⟨j,H',I,q⟩:=h;exact⟨j,H',I.cX,q⟩
 |cont=>obtain⟨j,H',I,q⟩:=h;exact⟨j,H',I.cX,q⟩
 |ret u=>obtain⟨v,j,H',I,r,q⟩:=h;exact⟨v,j,H',I.cX,r,q⟩
theorem l7.E6{st:List Stmt}{t:TS}(h:l7 X.E6 st t):l7 X st t:=fun pins s σ H D I hw=>
 wpAny_mono (h pins s σ H D (I.eF _) hw) (fun _ _ q=>q.cX) fun _ _ z=>False.elim z
end
section
variable {X:Cx} {st:Stmt} {JR:List Stmt} {t u:TS} {e:Expr} {te:TE} {pos:Pos}
def Ad:TS:=fun D σ H=>D.nx σ H
def A5(t u:TS):TS:=fun D σ H=>t { D with nx:=u D } σ H
theorem Qq:l7 X [] Ad:=fun _ _ σ H _ I h=>wpAny_execs_nil ⟨σ,H,I,h⟩
theorem Qb(h1:PS X st t)(h2:l7 X JR u):l7 X (st::JR) (A5 t u):=by
 intro pins s σ H D I h;refine wpAny_execs_cons (bx (h1 pins s σ H { D with nx:=u D } I h) fun f j q=>?_);cases f with
 | next=>
  obtain⟨n,H',z,q⟩:=q;exact h2 pins j n H' D z q
 |ret v=>exact q
 |brk=>exact q
 |cont=>exact q
theorem Qd(h1:PS X st t):l7 X [st] t:=by
 intro pins s σ H D I h;refine wpAny_execs_cons (bx (h1 pins s σ H D I h) fun f j q=>?_);cases f with
 |next=>exact wpAny_execs_nil q
 |ret v=>exact q
 |brk=>exact q
 |cont=>exact q
theorem Inv.quiet {pins:List (Addr×Obj)} {σ:St} {H:Hp} {s:Shared} (I:Inv X pins σ H s):interactive X.env=false:=by simp[interactive,I.ok.kind]
def Fw(te:TE):TS:=fun D σ H=>te σ H fun _ H1=>D.nx σ H1
theorem Zf(j:PE X e te)(n:swapsWith e none pos.line X.env=pure false:=by rfl):PS X (.Expr e pos) (Fw te):=by intro pins s σ H D I h;exact wpAny_Expr_any (bx (j pins s σ H _ I h) fun v F ⟨x,H1,z,G,B⟩=>⟨σ,H1,z,B⟩) I.quiet n
def rH(te:TE):TS:=fun D σ H=>te σ H D.rt
theorem Qj(j:PE X e te):PS X (.Return (some e) pos) (rH te):=by intro pins s σ H D I h;exact wpAny_Return_some (bx (j pins s σ H _ I h) fun v F ⟨x,H1,n,z,B⟩=>⟨x,σ,H1,n,z,B⟩)
def FJ(c:TT)(t u:TS):TS:=fun D σ H=>c σ H fun b H1=>if b=true then t D σ H1 else u D σ H1
theorem QD{c:Expr}{a b:List Stmt}{tc:TT}(hc:PT X c tc)(B:l7 X a t)(F:l7 X b u):PS X (.If c a b pos) (FJ tc t u):=by
 intro pins s σ H D I h;refine wpAny_If (bx (hc pins s σ H _ I h) fun d j ⟨H1,n,z⟩=>?_);cases d with
 |true=>exact B pins j σ H1 D n z
 |false=>exact F pins j σ H1 D n z
end
abbrev TG:=V->St->Hp->(St->Hp->Prop)->Prop
abbrev C6:=List V->St->Hp->(St->Hp->Prop)->Prop
def PG(X:Cx)(j:Expr)(t:TG):Prop:=
 ∀(pins:List (Addr×Obj)) (s:Shared) (σ:St) (H:Hp) (v:V) (u:Value) (Q:St->Hp->Prop),Inv X pins σ H s->QR v u->t v σ H Q->
  wpAny (model X.prog X.w) X.A (assign j X.env u) (fun _ s'=>∃n H',Inv X pins n H' s'/\Q n H') X.xe s
def F1(X:Cx)(n:List Expr)(t:C6):Prop:=
 ∀(pins:List (Addr×Obj)) (s:Shared) (σ:St) (H:Hp) (vs:List V) (us:List Value) (Q:St->Hp->Prop),Inv X pins σ H s->QH vs us->t vs σ H Q->
  wpAny (model X.prog X.w) X.A (assignInOrder ((assignEach n X.env).map (·.2)) us) (fun _ s'=>∃j H',Inv X pins j H' s'/\Q j H') X.xe s
abbrev F3:=V->V->Hp->VK->Prop
def KS(X:Cx)(op:Operator)(t:F3):Prop:=
 ∀(pins:List (Addr×Obj)) (s:Shared) (σ:St) (H:Hp) (x y:V) (v u:Value) (Q:VK),Inv X pins σ H s->QR x v->QR y u->t x y H Q->
  wpAny (model X.prog X.w) X.A (inplaceOp op v u) (EP X pins σ Q) X.xe s
section
variable {X:Cx} {pos:Pos}
def Zz(i:Nat):TG:=fun v σ H Q=>Q (σ.set i (some v)) H
theorem vY{i:Nat}{x:Str}(j:X.N.Nodup)(hi:X.N[i]?=some x)(n:Loc X.env.scope x)(hf:X.fn x=true\/X.env.scope.names.lookup x=some .local:=by first|exact .inl rfl|exact .inr rfl|assumption):PG X (.Name x pos) (Zz i):=by intro pins s σ H v u Q I r h;exact wpAny_assign_Name (zJ I j hi n r (fun s' z=>⟨_,H,z,h⟩) hf)
def xc:C6:=fun vs σ H Q=>vs=[]/\Q σ H
inductive Z4(t:TG)(u:C6)(vs:List V)(σ:St)(H:Hp)(Q:St->Hp->Prop):Prop
 |mk (v:_) (r:_):vs=v::r->(t v σ H fun dw H'=>u r dw H' Q)->Z4 t u vs σ H Q
theorem Zl:F1 X [] xc:=by intro pins s σ H vs us Q I r h;obtain⟨e,h⟩:=h;subst e;cases r;exact assignInOrder_nil ⟨σ,H,I,h⟩
theorem QF{e:Expr}{es:List Expr}{t:TG}{u:C6}(h1:PG X e t)(h2:F1 X es u)
  (j:(assignEach (e::es) X.env).map (·.2)=assign e X.env::(assignEach es X.env).map (·.2):=by rfl):F1 X (e::es) (Z4 t u):=by
 intro pins s σ H vs us Q I r h;obtain⟨v,M,n,h⟩:=h;subst n;cases r with
 | cons r z=>
  rw[j];refine assignInOrder_cons (bx (h1 pins s σ H _ _ _ I r h) fun _ B ⟨F,H1,G,J⟩=>?_);exact h2 pins B F H1 _ _ Q G z J
inductive yJ(K:xz)(n:Nat)(t:C6)(v:V)(σ:St)(H:Hp)(Q:St->Hp->Prop):Prop
 |mk (a:_) (xs:_):v=.ref a->bV K H a xs->xs.length=n->t xs σ H Q->yJ K n t v σ H Q
theorem ZF{es:List Expr}{k:Nat}{t:C6}{n:Nat}(hc:X.calm=true)(h:F1 X es t)
  (B:(assignEach es X.env).length=n:=by rfl) (j:(assignEach es X.env).findIdx? (·.1)=none:=by rfl):PG X (.Tuple es k pos) (yJ X.K n t):=by
 intro pins s σ H v u Q I r hw;obtain⟨a,xs,F,G,hl,hw⟩:=hw;subst F;cases r;obtain⟨a8,z,J,hz⟩:=I.tuple G;refine assign_Tuple_tuple (I.ok.hd hc) J (by simp[B,<-hl,z.length]) j fun h' M=>?_;have O:Inv X pins σ H { s with heap:=h' }:=I.kept (t':=s.toks) fun b o e=>M b o (x3 (Wu e)) e;exact h pins _ σ H xs _ Q O (by simpa using z) hw
def vn(te:TE)(g:TG):TS:=fun D σ H=>te σ H fun x H1=>g x σ H1 D.nx
theorem Bl{i:Nat}{x:Str}{e:Expr}{te:TE}{pos':Pos}(j:X.N.Nodup)(hi:X.N[i]?=some x)(n:Loc X.env.scope x)(z:PE X e te) (B:swapsWith e (some (.Name x pos')) pos.line X.env=pure false:=by rfl) (hf:X.fn x=true\/X.env.scope.names.lookup x=some .local:=by first|exact .inl rfl|exact .inr rfl|assumption) :
  PS X (.Assign [.Name x pos'] e pos) (vn te (Zz i)):=by
 intro pins s σ H D I h;refine wpAny_Assign_Name (bx (z pins s σ H _ I h) fun v O ⟨y,H1,F,G,J⟩=>?_) B;exact zJ F j hi n G (fun U M=>⟨_,H1,M,J⟩) hf
inductive E2(i:Nat)(te:TE)(ti:F3)(D:JD)(σ:St)(H:Hp):Prop
 |mk (x:_):σ[i]?=some (some x)->(te σ H fun y H1=>ti x y H1 fun z H2=>D.nx (σ.set i (some z)) H2)->E2 i te ti D σ H
theorem As{i:Nat}{x:Str}{e:Expr}{te:TE}{op:Operator}{F:F3}{pos':Pos}(G:X.N.Nodup)(hi:X.N[i]?=some x)(n:Loc X.env.scope x)(J:PE X e te)(M:KS X op F)(hf:X.fn x=true\/X.env.scope.names.lookup x=some .local:=by first|exact .inl rfl|exact .inr rfl|assumption) :
  PS X (.AugAssign (.Name x pos') op e pos) (E2 i te F):=by
 intro pins s σ H D I h;obtain⟨v,O,h⟩:=h;obtain⟨m,U,hl⟩:=I.loc;have B:vO X.env.scope x:=by rcases n with k|k;exact .inl k;exact .inr (.inl k)
 obtain⟨u,r,l⟩:=hl i x v hi O B;refine wpAny_AugAssign_Name ?_
 have go:wpAny (model X.prog X.w) X.A (eval e X.env) (fun w HH=>wpAny (model X.prog X.w) X.A (inplaceOp op u w) (fun r IE=>wpAny (model X.prog X.w) X.A (storeName X.env x r) (fun _=>SP X pins D .next) X.xe IE) X.xe HH) X.xe s:=by refine bx (J pins s σ H _ I h) fun w s1 ⟨y,H1,I1,r1,q1⟩=>?_;refine bx (M pins s1 σ H1 v y u w _ I1 r r1 q1) fun z s2 ⟨zv,H2,I2,r2,q2⟩=>?_;exact zJ I2 G hi n r2 (fun s3 I3=>⟨_,H2,I3,q2⟩) hf
 rcases l with⟨hk,hm⟩|⟨hk,c,hc,j⟩
 ·exact wpAny_loadName_local I.ok.kind hk U hm go
 ·rcases hk with hk | hk
  ·exact wpAny_loadName_cell I.ok.kind hk hc j go
  ·rcases n with k | k
   ·have:X.env.scope.names.lookup x=some .free:=hk;rw[k]at this;cases this
   ·have:X.env.scope.names.lookup x=some .free:=hk;rw[k]at this;cases this
def Ld(f:Int->Int->Int):F3:=fun x y H Q=>∃i j,x=.int i/\y=.int j/\Q (.int (f i j)) H
theorem BW:KS X .Add (Ld fun i j=>i+j):=by intro pins s σ H x y v u Q I n z h;obtain⟨i,j,B,F,q⟩:=h;subst B;subst F;obtain⟨t,rfl⟩:=n;obtain⟨t',rfl⟩:=z;exact iadd_int ⟨.int _,H,I.tok _,⟨_,Z⟩,q⟩
end
section
variable {X:Cx} {pos:Pos}
def AM(c:TT)(tb:TS):TS:=fun D σ H=>∃W:Nat->St->Hp->Prop,(∃m,W m σ H)/\∀m σ H,W m σ H->
 c σ H fun b H1=>if b=true then ∃N:St->Hp->Prop,(∀j H',N j H'->∃n,n<m/\W n j H')/\tb { D with nx:=N,ct:=N,bk:=D.nx } σ H1 else D.nx σ H1
theorem Yl{c:Expr}{j:List Stmt}{tc:TT}{tb:TS} (hp:PassesOwn (model X.prog X.w) X.A X.env X.xe) (hc:PT X c tc) (hb:l7 X j tb):PS X (.While c j [] pos) (AM tc tb):=by
 intro pins s σ H D I h;obtain⟨W,⟨m0,w0⟩,turn⟩:=h;refine wpAny_While (codeAny_whileLoop (fun n s'=>∃dw H',Inv X pins dw H' s'/\W n dw H') ?_ m0 ⟨σ,H,I,w0⟩);rintro n s1 ⟨F,H1,I1,w1⟩;refine wpAny_passesOwn hp (bx (hc pins s1 F H1 _ I1 (turn n F H1 w1)) fun b s2 ⟨H2,I2,G⟩=>?_);cases b with
 | true=>
  obtain⟨N,hN,G⟩:=G;rw[Wi Z];refine wpAny_passesOwn hp (bx (hb pins s2 F H2 _ I2 G) fun f s3 J=>?_);cases f with
  | next=>
   obtain⟨z,B,M,O⟩:=J;obtain⟨U,hm,w3⟩:=hN z B O;exact⟨U,hm,z,B,M,w3⟩
  | cont=>
   obtain⟨z,B,M,O⟩:=J;obtain⟨U,hm,w3⟩:=hN z B O;exact⟨U,hm,z,B,M,w3⟩
  |brk=>exact J
  |ret v=>exact J
 | false=>
  rw[Wh xX];exact wpAny_execs_nil ⟨F,H2,I2,G⟩
end
structure It where
 go:Nat->Hp->Prop
 yld:Nat->Hp->V->Hp->Prop
 stop:Nat->Hp->Prop
def zh(X:Cx) (pins:List (Addr×Obj)) (H:Hp) (b:Addr):Prop:=
 H b=none/\b≠X.env.locals/\b∉X.fs/\(b∈X.ex\/X.eG.heap.objs.size<=b)/\(∀x c,X.env.cells.lookup x=some c->c≠b)/\∀p∈X.pn++pins,p.1≠b
theorem Inv.gF{X:Cx} {pins:List (Addr×Obj)} {σ:St} {H H':Hp} {s:Shared} {b:Addr} (I:Inv X pins σ H s) (j:s.heap.objs.size<=b) (n:H' b=none):zh X pins H' b:=by
 refine⟨n,G8 (xW I.lt j),I.HC j,.inr (xK I.sz j),fun x c e z=>?_,fun p B z=>?_⟩
 ·obtain⟨v,q⟩:=I.cell x c e;exact Wm (xW q.lt (by rw[z];exact j)) (Uq _)
 ·exact Wm (xW (Wu (I.pin p B).1) (by rw[z];exact j)) (Uq _)
structure zg(P:Program)(w:World)(K:xz)(tg:Expr)(J:It)(fp:List Addr)(it:Addr)(tn:Nat->Heap->Prop):Prop where
 mem:it∈fp
 obj:∀i h,tn i h->∀b∈fp,∃o,h.get? b=some o/\∀v,o.data≠.cell v
 keep:∀i h h',tn i h->(∀b∈fp,∀o,h.get? b=some o->h'.get? b=some o)->tn i h'
 item:∀(X:Cx),X.prog=P->X.w=w->X.K=K->X.calm=true->∀(i:Nat) (pins:List (Addr×Obj)) (s:Shared) (σ:St) (H:Hp) (E:Value->Shared->Prop),Inv X pins σ H s->(∀b∈fp,zh X pins H b)->tn i s.heap->J.go i H->
  wpAny (model P w) X.A (pyNext (.ref it)) (fun r s1=>∃u,r=some u/\
   wpAny (model P w) X.A (letOwnedTupleGo tg (.ref it) u) (fun _ s2=>∃x H',Inv X pins σ H' s2/\QR x u/\J.yld i H x H'/\tn (i+1) s2.heap/\∀b∈fp,H' b=none) E s1) E s
 done:∀(X:Cx),X.prog=P->X.w=w->X.K=K->X.calm=true->∀(i:Nat) (pins:List (Addr×Obj)) (s:Shared) (σ:St) (H:Hp) (E:Value->Shared->Prop),Inv X pins σ H s->(∀b∈fp,zh X pins H b)->tn i s.heap->J.stop i H->
  wpAny (model P w) X.A (pyNext (.ref it)) (fun r s1=>r=none/\Inv X pins σ H s1) E s
 self:∀(A:Around)(i:Nat)(s:Shared)(Q:Value->Shared->Prop)(E:Value->Shared->Prop),tn i s.heap->Q (.ref it) s->wpAny (model P w) A (pyIter (.ref it)) Q E s
abbrev TI:=St->Hp->(It->Hp->Prop)->Prop
def Kp(X:Cx) (pins:List (Addr×Obj)) (σ:St) (tg:Expr) (R:It->Hp->Prop) (j:Value) (n:Shared):Prop:=
 ∃(it:Addr)(z:List Addr)(B:Nat->Heap->Prop)(J:It)(H':Hp),j=.ref it/\Inv X pins σ H' n/\zg X.prog X.w X.K tg J z it B/\B 0 n.heap/\(∀b∈z,zh X pins H' b)/\R J H'
def PI(X:Cx)(tg j:Expr)(n:TI):Prop:=
 ∀(pins:List (Addr×Obj)) (s:Shared) (σ:St) (H:Hp) (R:It->Hp->Prop),Inv X pins σ H s->n σ H R->
  wpAny (model X.prog X.w) X.A (eval j X.env) (fun v z=>wpAny (model X.prog X.w) X.A (pyIter v) (Kp X pins σ tg R) X.xe z) X.xe s
theorem yh{M : Model}{A : Around}{E : Value->Shared->Prop}{s : Shared}{tg : Expr}{it : Addr}{u : Value}{o : Obj}{n : String}{vs : Array Value}{Q : Unit->Shared->Prop}(z : s.heap.get? it=some o)(hc : o.cls = .type n)(hd : o.data = .fields vs)
    (B : ["enumerate", "zip", "dict_itemiterator", "dict_reverseitemiterator", "odict_iterator", "itertools.zip_longest", "itertools.pairwise"].contains n=false) (j : Q () s) : wpAny M A (letOwnedTupleGo tg (.ref it) u) Q E s := by
  unfold letOwnedTupleGo
  cases tg<;>first
    |exact wpAny_pure j
    |(cases u<;>first
        |exact wpAny_pure j
        | (refine wpAny_bind (wpAny_load z ?_)
           rw [hc, hd]; show wpAny M A (if(["enumerate", "zip", "dict_itemiterator", "dict_reverseitemiterator", "odict_iterator", "itertools.zip_longest", "itertools.pairwise"].contains n&&vs[0]? == some (rawInt _))=true then _ else _) Q E s; rw [Wh (by intro h; rw [B, VU]at h; cases h)]; exact wpAny_pure j))
def tE(K:xz)(a:Addr):It:=
 ⟨fun i H=>∃xs x,a' K H a xs/\xs[i]?=some x,fun i H x H'=>H'=H/\∀xs,a' K H a xs->xs[i]?=some x,fun i H=>∃xs,a' K H a xs/\xs.length<=i⟩
def Ec(K:xz)(a:Addr):It:=
 ⟨fun i H=>∃xs x,bV K H a xs/\xs[i]?=some x,fun i H x H'=>H'=H/\∀xs,bV K H a xs->xs[i]?=some x,fun i H=>∃xs,bV K H a xs/\xs.length<=i⟩
def Df(lo:Int)(n:Nat):It:=⟨fun i _=>i<n,fun i H x H'=>H'=H/\x=.int (lo+i),fun i _=>n<=i⟩
theorem oK{P:Program}{w:World}{K:xz}{tg:Expr}(a it:Addr):zg P w K tg (tE K a) [it] it (fun i h=>h.IsListIter it a i) where
 mem:=by simp
 obj:=fun i h st b j=>by
  have e:b=it:=by simpa using j
  subst e;obtain⟨o,e,c,d⟩:=st;exact⟨o,e,fun v z=>by rw[d]at z;cases z⟩
 keep:=fun i h h' st k=>st.at fun o e=>k it We o e
 item:=by intro X F hw G hc i pins s σ H E I hf st J;subst F hw G;obtain⟨xs,x,B,M⟩:=J;obtain⟨a8,O,p,hz⟩:=I.list B;obtain⟨u,hu,ru⟩:=O.get M;obtain⟨U,f1,f2,f3,f4,f5⟩:=hf it We;refine wpAny_pyNext_list_item st p.isList (x:=u) (by simpa using hu) fun h' n sb=>?_;have I1:Inv X pins σ H { s with heap:=h' }:=I.turned (t':=s.toks) (fun b o j e=>(sb.2 b j).trans e) U f1 f3 f4 f5;obtain⟨o,e,c,d⟩:=id n;exact⟨u,rfl,yh (s:={ s with heap:=h' }) e c d Wa ⟨x,H,I1,ru,⟨rfl,fun ys hy=>by rw[I.cM hy B];exact M⟩,n,fun b j=>(hf b j).1⟩⟩
 done:=by intro X F hw G hc i pins s σ H E I hf st J;subst F hw G;obtain⟨xs,B,M⟩:=J;obtain⟨a8,O,p,hz⟩:=I.list B;obtain⟨U,f1,f2,f3,f4,f5⟩:=hf it We;have hl:=O.length;exact wpAny_pyNext_list_end (I.ok.hd hc) st p.isList (by simp;omega) fun h' eb=>⟨Z,I.turned (t':=s.toks) (fun b o j e=>eb b o j e) U f1 f3 f4 f5⟩
 self:=fun _ _ _ _ _ st h=>wpAny_pyIter_listiter st h
theorem iu{P:Program}{w:World}{K:xz}{tg:Expr}(a it:Addr):zg P w K tg (Ec K a) [it] it (fun i h=>h.IsTupleIter it a i) where
 mem:=by simp
 obj:=fun i h st b j=>by
  have e:b=it:=by simpa using j
  subst e;obtain⟨o,e,c,d⟩:=st;exact⟨o,e,fun v z=>by rw[d]at z;cases z⟩
 keep:=fun i h h' st k=>st.at fun o e=>k it We o e
 item:=by intro X F hw G hc i pins s σ H E I hf st J;subst F hw G;obtain⟨xs,x,B,M⟩:=J;obtain⟨a8,O,p,hz⟩:=I.tuple B;obtain⟨u,hu,ru⟩:=O.get M;obtain⟨U,f1,f2,f3,f4,f5⟩:=hf it We;refine wpAny_pyNext_tuple_item st (show s.heap.IsTuple a a8.toArray from p) (x:=u) (by simpa using hu) fun h' n sb=>?_;have I1:Inv X pins σ H { s with heap:=h' }:=I.turned (t':=s.toks) (fun b o j e=>(sb.2 b j).trans e) U f1 f3 f4 f5;obtain⟨o,e,c,d⟩:=id n;exact⟨u,rfl,yh (s:={ s with heap:=h' }) e c d Wa ⟨x,H,I1,ru,⟨rfl,fun ys hy=>by rw[I.oC hy B];exact M⟩,n,fun b j=>(hf b j).1⟩⟩
 done:=by intro X F hw G hc i pins s σ H E I hf st J;subst F hw G;obtain⟨xs,B,M⟩:=J;obtain⟨a8,O,p,hz⟩:=I.tuple B;obtain⟨U,f1,f2,f3,f4,f5⟩:=hf it We;have hl:=O.length;exact wpAny_pyNext_tuple_end (I.ok.hd hc) st (show s.heap.IsTuple a a8.toArray from p) (by simp;omega) fun h' eb=>⟨Z,I.turned (t':=s.toks) (fun b o j e=>eb b o j e) U f1 f3 f4 f5⟩
 self:=fun _ _ _ _ _ st h=>wpAny_pyIter_tupleiter st h
theorem iA{P:Program}{w:World}{K:xz}{tg:Expr}(it:Addr)(lo:Int)(n:Nat):zg P w K tg (Df lo n) [it] it (fun i h=>IsRangeIter h it (lo+(i:Nat)*1) ((n:Int)-(i:Nat)) 1) where
 mem:=by simp
 obj:=fun i h st b j=>by
  have e:b=it:=by simpa using j
  subst e
  exact⟨_,st,fun v z=>by
   have z':Data.fields _=Data.cell v:=z;cases z'⟩
 keep:=fun i h h' st k=>k it We _ st
 item:=by intro X F hw G hc i pins s σ H E I hf st J;subst F hw G;obtain⟨M,f1,f2,O,U,f5⟩:=hf it We;have W:=Walks.range (prog:=X.prog) (w:=X.w) (I.ok.hd hc) it lo 1 n;refine W.item i s _ _ J st fun v h' tk hv B kk=>?_;obtain⟨t,rfl⟩:=hv;have I1:Inv X pins σ H { s with heap:=h',toks:=tk }:=I.turned (fun b o j e=>kk b o (by simpa using j) e) M f1 O U f5;refine⟨_,rfl,yh (s:={ s with heap:=h',toks:=tk }) (n := "range_iterator") B rfl rfl Wa ⟨.int (lo+i),H,I1,⟨t,?_⟩,⟨rfl,rfl⟩,B,fun b j=>(hf b j).1⟩⟩;rw[Int.mul_one]
 done:=by intro X F hw G hc i pins s σ H E I hf st J;subst F hw G;obtain⟨M,f1,f2,O,U,f5⟩:=hf it We;exact wpAny_pyNext_range_end (I.ok.hd hc) st (by have:n<=i:=J;omega) fun h' eb=>⟨Z,I.turned (t':=s.toks) (fun b o j e=>eb b o j e) M f1 O U f5⟩
 self:=fun _ _ _ _ _ st h=>wpAny_pyIter_rangeiter st h
section
variable {X:Cx} {tg:Expr}
inductive pD(K:xz)(R:It->Hp->Prop)(x:V)(H1:Hp):Prop
 |mk (a:_):x=.ref a->((∃xs,a' K H1 a xs))->R (tE K a) H1->pD K R x H1
def ET(K:xz)(tl:TE):TI:=fun σ H R=>tl σ H (pD K R)
inductive Aj(K:xz)(R:It->Hp->Prop)(x:V)(H1:Hp):Prop
 |mk (a:_):x=.ref a->((∃xs,bV K H1 a xs))->R (Ec K a) H1->Aj K R x H1
def HG(K:xz)(tl:TE):TI:=fun σ H R=>tl σ H (Aj K R)
theorem Q3{l:Expr}{tl:TE}(hl:PE X l tl):PI X tg l (ET X.K tl):=by
 intro pins s σ H R I h;refine bx (hl pins s σ H _ I h) fun v j ⟨x,H1,n,z,B⟩=>?_;obtain⟨a,e,⟨xs,F⟩,q⟩:=B;subst e;cases z;obtain⟨a8,J,p,hz⟩:=n.list F;refine wpAny_pyIter_list p.isList ?_;refine⟨j.heap.objs.size,[j.heap.objs.size],_,_,H1,Z,n.kept (t':=j.toks) fun b o e=>Wt _ e,oK a _,⟨_,Wv _ Z,Z,Z⟩,fun b G=>?_,q⟩;have e:b=j.heap.objs.size:=by simpa using G
 subst e;exact n.gF (xM _) (n.bp.fresh (xM _))
theorem jT{l:Expr}{tl:TE}(hl:PE X l tl):PI X tg l (HG X.K tl):=by
 intro pins s σ H R I h;refine bx (hl pins s σ H _ I h) fun v j ⟨x,H1,n,z,B⟩=>?_;obtain⟨a,e,⟨xs,F⟩,q⟩:=B;subst e;cases z;obtain⟨a8,J,p,hz⟩:=n.tuple F;refine wpAny_pyIter_tuple (show j.heap.IsTuple a a8.toArray from p) ?_;refine⟨j.heap.objs.size,[j.heap.objs.size],_,_,H1,Z,n.kept (t':=j.toks) fun b o e=>Wt _ e,iu a _,⟨_,Wv _ Z,Z,Z⟩,fun b G=>?_,q⟩;have e:b=j.heap.objs.size:=by simpa using G
 subst e;exact n.gF (xM _) (n.bp.fresh (xM _))
theorem r6 {pins:List (Addr×Obj)} {σ:St} {H:Hp} {s:Shared} {R:It->Hp->Prop} {E:Value->Shared->Prop} {lo hi:Int} {t u v:Tok} {tk:Nat} (I:Inv X pins σ H s) (h1 : -(2 ^ 62)<=lo) (h2:lo<2 ^ 62) (n : -(2 ^ 62)<=hi) (z:hi<2 ^ 62)
  (q:R (Df lo (hi-lo).toNat) H):wpAny (model X.prog X.w) X.A (pyIter (.ref s.heap.objs.size)) (Kp X pins σ tg R) E { s with heap:=s.heap.push { cls:=.type "range",data:=.fields #[.int lo t,.int hi u,.int 1 v] },toks:=tk }:=by
 refine wpAny_pyIter_range (IsRange.new ..) (small_one h1 h2 n z) ?_;have j:Inv X pins σ H { s with heap:=s.heap.push { cls:=.type "range",data:=.fields #[.int lo t,.int hi u,.int 1 v] },toks:=tk }:=I.kept fun b o e=>Wt _ e
 refine⟨(s.heap.push { cls:=.type "range",data:=.fields #[.int lo t,.int hi u,.int 1 v] }).objs.size,[(s.heap.push { cls:=.type "range",data:=.fields #[.int lo t,.int hi u,.int 1 v] }).objs.size],_,_,H,Z,
  j.kept (t':=tk) fun b o e=>Wt _ e,iA _ lo (hi-lo).toNat,?_,fun b B=>?_,q⟩
 ·have F:lo+((0:Nat):Int)*1=lo:=by simp
  have G:(((hi-lo).toNat:Nat):Int)-((0:Nat):Int)=Builtin.Range.rangeSize lo hi 1:=by rw[rangeSize_one];split<;>omega
  show IsRangeIter _ _ (lo+((0:Nat):Int)*1) ((((hi-lo).toNat:Nat):Int)-((0:Nat):Int)) 1;rw[F,G];exact Wv _ rfl
 ·have e:b=(s.heap.push { cls:=.type "range",data:=.fields #[.int lo t,.int hi u,.int 1 v] }).objs.size:=by simpa using B
  subst e;exact j.gF (xM _) (j.bp.fresh (xM _))
inductive sC(R:It->Hp->Prop)(vs:List V)(H1:Hp):Prop
 |mk (j:Int):vs=[.int j]->-(2 ^ 62)<=j->j<2 ^ 62->R (Df 0 j.toNat) H1->sC R vs H1
def FH(ta:TA):TI:=fun σ H R=>ta σ H (sC R)
theorem Jp{a:Expr}{ta:TA}{p pos:Pos}(z:Gl X "range")(B:X.mg "range" = none)(F:PA X [a] ta) (G:starEach [a] X.env=[(false,eval a X.env)]:=by rfl):PI X tg (.Call (.Name "range" p) [a] [] pos) (FH ta):=by
 intro pins s σ H R I h;refine Call_ (X6 I z B boot_range (PyProof.Rows.callWith_type1 (bx (F pos pins s σ H _ I h) fun us s1 ⟨vs,H1,J,M,n⟩=>?_) G Z));obtain⟨j,e,n,O,q⟩:=n;subst e;cases M with
 | cons r U=>
  cases U;obtain⟨t,rfl⟩:=r;exact call_range_1 (r6 J (by omega) (by omega) n O (by simpa using q))
def Kj(z:TI)(g:TG)(tb:TS):TS:=fun D σ H=>z σ H fun J H1=>∃W:Nat->Nat->St->Hp->Prop,(∃m,W 0 m σ H1)/\∀i m σ H,W i m σ H->
 (J.stop i H/\D.nx σ H)\/(J.go i H/\∃N:St->Hp->Prop,(∀j H',N j H'->∃n,n<m/\W (i+1) n j H')/\∀x H',J.yld i H x H'->g x σ H' fun B H2=>tb { D with nx:=N,ct:=N,bk:=D.nx } B H2)
def zY(j:List Addr)(h:Heap):List (Addr×Obj):=j.filterMap fun b=>(h.get? b).map fun o=>(b,o)
theorem JS{j:List Addr}{h:Heap}{b:Addr}{o:Obj}(n:b∈j)(e:h.get? b=some o):(b,o)∈zY j h:=List.mem_filterMap.mpr ⟨b,n,by rw[e];rfl⟩
theorem nX{j:List Addr}{h:Heap}{p:Addr×Obj}(n:p∈zY j h):p.1∈j/\h.get? p.1=some p.2:=by
 obtain⟨b,z,e⟩:=List.mem_filterMap.mp n;cases q:h.get? b with
 |none=>rw[q]at e;cases e
 | some o=>
  rw[q]at e;have B:(b,o)=p:=Wo e;subst B;exact⟨z,q⟩
theorem Inv.pinned {pins:List (Addr×Obj)} {σ:St} {H:Hp} {s:Shared} {j:List Addr} (I:Inv X pins σ H s) (hf:∀b∈j,zh X pins H b) (F:∀b∈j,∃o,s.heap.get? b=some o/\∀v,o.data≠.cell v):Inv X (pins++zY j s.heap) σ H s:=
 I.lG fun p G=>(List.mem_append.mp G).elim (fun z=>I.pin p (GM _ z)) fun z=>by
  obtain⟨n,e⟩:=nX z;obtain⟨J,f1,M,_⟩:=hf p.1 n;obtain⟨o,B,d⟩:=F p.1 n;rw[e]at B;cases B;exact⟨e,J,f1,M,d⟩
theorem Inv.dz {pins pl:List (Addr×Obj)} {σ:St} {H:Hp} {s:Shared} (I:Inv X (pins++pl) σ H s):Inv X pins σ H s:=I.lG fun p j=>I.pin p (GM _ (Qad _ j))
theorem QL{j:Expr}{U:List Stmt}{wi:TI}{g:TG}{tb:TS}{pos:Pos} (hp:PassesOwn (model X.prog X.w) X.A X.env X.xe) (hc:X.calm=true) (hi:PI X tg j wi) (hg:PG X tg g) (z:l7 X U tb)
  (hs:∀x,foldedSetIterable j X.env x=pure x:=by intro _;rfl):PS X (.For tg j U [] pos) (Kj wi g tb):=by
 intro pins s σ H D I h;refine wpAny_For (bx (hi pins s σ H _ I h) fun v s1 h1=>bx h1 fun ah s2 h2=>?_) hs;obtain⟨it,fp,tn,J,H2,e,I2,T,ad,f2,W,⟨m0,w0⟩,turn⟩:=h2;subst e;have B:∀{H':Hp},(∀b∈fp,H' b=none)->∀b∈fp,zh X pins H' b:=fun hn b z=>⟨hn b z,(f2 b z).2⟩;refine codeAny_forLoop_any (fun n s'=>∃i dw H',Inv X pins dw H' s'/\tn i s'.heap/\(∀b∈fp,H' b=none)/\W i n dw H') ?_ m0 ⟨0,σ,H2,I2,ad,fun b z=>(f2 b z).1,w0⟩;rintro n s3 ⟨i,Fz,H3,I3,ab,ac,w3⟩;rcases turn i n Fz H3 w3 with⟨stop,qn⟩|⟨go,N,hN,step⟩
 ·refine wpAny_passesOwn hp (bx (T.done X Z Z Z hc i pins s3 Fz H3 X.xe I3 (B ac) ab stop) fun r s4 ⟨hr,I4⟩=>?_);subst hr;exact wpAny_execs_nil ⟨Fz,H3,I4,qn⟩
 ·refine wpAny_passesOwn hp (bx (T.item X Z Z Z hc i pins s3 Fz H3 X.xe I3 (B ac) ab go) fun r s4 ⟨u,hr,h4⟩=>?_);subst hr;refine wpAny_passesOwn hp (bx h4 fun _ s5 ⟨x,H5,I5,r5,y5,aa,af⟩=>?_);have ag:=I5.pinned (B af) (T.obj _ _ aa);refine wpAny_passesOwn hp (bx (hg _ s5 Fz H5 x u _ ag r5 (step x H5 y5)) fun _ s6 ⟨K1,H6,I6,q6⟩=>?_);refine wpAny_passesOwn hp (bx (z _ s6 K1 H6 _ I6 q6) fun f s7 q7=>?_)
  have F:∀{G:St} {M:Hp},Inv X (pins++zY fp s5.heap) G M s7->N G M->∃m,m<n/\∃i dw H',Inv X pins dw H' s7/\tn i s7.heap/\(∀b∈fp,H' b=none)/\W i m dw H':=fun {G M} O n7=>by
   obtain⟨m',hm,w7⟩:=hN G M n7;refine⟨m',hm,i+1,G,M,O.dz,T.keep _ _ _ aa fun b z o e=>(O.pin (b,o) (GM _ (GM _ (JS z e)))).1,fun b z=>?_,w7⟩;obtain⟨o,e,d⟩:=T.obj _ _ aa b z;exact(O.pin (b,o) (GM _ (GM _ (JS z e)))).2.1
  cases f with
  |next=>obtain⟨G,M,O,n7⟩:=q7;exact F O n7
  |cont=>obtain⟨G,M,O,n7⟩:=q7;exact F O n7
  |brk=>obtain⟨G,M,O,q7⟩:=q7;exact⟨G,M,O.dz,q7⟩
  |ret v=>obtain⟨x7,G,M,O,r7,q7⟩:=q7;exact⟨x7,G,M,O.dz,r7,q7⟩
end
theorem Zs{K:xz}{a:Addr}{xs:List V}{g:TG}{tb:TS}{D:JD}{σ:St}{H:Hp}(j:Nat->St->Hp->Prop)(h0:j 0 σ H)(hl:∀i σ H,i<=xs.length->j i σ H->a' K H a xs)
  (G:∀i x σ H,xs[i]?=some x->j i σ H->g x σ H fun z H2=>tb { D with nx:=j (i+1),ct:=j (i+1),bk:=D.nx } z H2) (hd:∀σ H,j xs.length σ H->D.nx σ H) :
  ∃W:Nat->Nat->St->Hp->Prop,(∃m,W 0 m σ H)/\∀i m σ H,W i m σ H->
   ((tE K a).stop i H/\D.nx σ H)\/((tE K a).go i H/\∃N:St->Hp->Prop,(∀B H',N B H'->∃F,F<m/\W (i+1) F B H')/\∀x H',(tE K a).yld i H x H'->g x σ H' fun z H2=>tb { D with nx:=N,ct:=N,bk:=D.nx } z H2):=by
 refine⟨fun i m σ H=>m=xs.length-i/\i<=xs.length/\j i σ H,⟨xs.length,by simp,x4 _,h0⟩,?_⟩;rintro i m σ H ⟨rfl,hi,p⟩;have q:=hl i σ H hi p;by_cases n:i<xs.length
 ·refine .inr ⟨⟨xs,xs[i],q,by simp[n]⟩,j (i+1),fun B H' I=>⟨xs.length-(i+1),by omega,Z,n,I⟩,fun x H' y=>?_⟩;obtain⟨e,y⟩:=y;subst e;exact G i x σ _ (y xs q) p
 ·have e:i=xs.length:=by omega
  subst e;exact .inl ⟨⟨xs,q,xM _⟩,hd σ H p⟩
theorem zx{K:xz}{a:Addr}{xs:List V}{g:TG}{tb:TS}{D:JD}{σ:St}{H:Hp}(j:Nat->St->Hp->Prop)(h0:j 0 σ H)(hl:∀i σ H,i<=xs.length->j i σ H->bV K H a xs)
  (G:∀i x σ H,xs[i]?=some x->j i σ H->g x σ H fun z H2=>tb { D with nx:=j (i+1),ct:=j (i+1),bk:=D.nx } z H2) (hd:∀σ H,j xs.length σ H->D.nx σ H) :
  ∃W:Nat->Nat->St->Hp->Prop,(∃m,W 0 m σ H)/\∀i m σ H,W i m σ H->
   ((Ec K a).stop i H/\D.nx σ H)\/((Ec K a).go i H/\∃N:St->Hp->Prop,(∀B H',N B H'->∃F,F<m/\W (i+1) F B H')/\∀x H',(Ec K a).yld i H x H'->g x σ H' fun z H2=>tb { D with nx:=N,ct:=N,bk:=D.nx } z H2):=by
 refine⟨fun i m σ H=>m=xs.length-i/\i<=xs.length/\j i σ H,⟨xs.length,by simp,x4 _,h0⟩,?_⟩;rintro i m σ H ⟨rfl,hi,p⟩;have q:=hl i σ H hi p;by_cases n:i<xs.length
 ·refine .inr ⟨⟨xs,xs[i],q,by simp[n]⟩,j (i+1),fun B H' I=>⟨xs.length-(i+1),by omega,Z,n,I⟩,fun x H' y=>?_⟩;obtain⟨e,y⟩:=y;subst e;exact G i x σ _ (y xs q) p
 ·have e:i=xs.length:=by omega
  subst e;exact .inl ⟨⟨xs,q,xM _⟩,hd σ H p⟩
theorem Ju{lo:Int}{n:Nat}{g:TG}{tb:TS}{D:JD}{σ:St}{H:Hp}(j:Nat->St->Hp->Prop)(h0:j 0 σ H)
  (I:∀i σ H,i<n->j i σ H->g (.int (lo+i)) σ H fun B H2=>tb { D with nx:=j (i+1),ct:=j (i+1),bk:=D.nx } B H2) (hd:∀σ H,j n σ H->D.nx σ H) :
  ∃W:Nat->Nat->St->Hp->Prop,(∃m,W 0 m σ H)/\∀i m σ H,W i m σ H->
   ((Df lo n).stop i H/\D.nx σ H)\/((Df lo n).go i H/\∃N:St->Hp->Prop,(∀F H',N F H'->∃G,G<m/\W (i+1) G F H')/\∀x H',(Df lo n).yld i H x H'->g x σ H' fun B H2=>tb { D with nx:=N,ct:=N,bk:=D.nx } B H2):=by
 refine⟨fun i m σ H=>m=n-i/\i<=n/\j i σ H,⟨n,by simp,x4 _,h0⟩,?_⟩;rintro i m σ H ⟨rfl,hi,p⟩;by_cases z:i<n
 ·refine .inr ⟨z,j (i+1),fun F H' J=>⟨n-(i+1),by omega,Z,z,J⟩,fun x H' y=>?_⟩;obtain⟨e,y⟩:=y;subst e y;exact I i σ _ z p
 ·have e:i=n:=by omega
  subst e;exact .inl ⟨xM _,hd σ H p⟩
abbrev R2:=V->V->Hp->VK->Prop
def eC(X:Cx)(f:Value->Value->Sem Value)(r:R2):Prop:=
 ∀(pins:List (Addr×Obj)) (s:Shared) (σ:St) (H:Hp) (x y:V) (v u:Value) (Q:VK),Inv X pins σ H s->QR x v->QR y u->r x y H Q->
  wpAny (model X.prog X.w) X.A (f v u) (EP X pins σ Q) X.xe s
def Ht(X:Cx)(f:Value->Sem Value)(r:V->Hp->VK->Prop):Prop:=
 ∀(pins:List (Addr×Obj)) (s:Shared) (σ:St) (H:Hp) (x:V) (v:Value) (Q:VK),Inv X pins σ H s->QR x v->r x H Q->
  wpAny (model X.prog X.w) X.A (f v) (EP X pins σ Q) X.xe s
def qv(X:Cx)(f:Value)(r:List V->Hp->VK->Prop):Prop:=
 ∀(pins:List (Addr×Obj)) (s:Shared) (σ:St) (H:Hp) (xs:List V) (us:List Value) (Q:VK),Inv X pins σ H s->QH xs us->r xs H Q->
  wpAny (model X.prog X.w) X.A (call f us) (EP X pins σ Q) X.xe s
def pf(r:R2)(ta tb:TE):TE:=fun σ H Q=>ta σ H fun x H1=>tb σ H1 fun y H2=>r x y H2 Q
def Le(r:V->Hp->VK->Prop)(ta:TE):TE:=fun σ H Q=>ta σ H fun x H1=>r x H1 Q
inductive rI(C:Int->Int->Prop)(g:Int->Int->V)(x:V)(y:V)(H:Hp)(Q:VK):Prop
 |mk (i:_) (j:_):x=.int i->y=.int j->C i j->Q (g i j) H->rI C g x y H Q
inductive vi(g:Int->Int->V)(x:V)(y:V)(H:Hp)(Q:VK):Prop
 |mk (i:_) (j:_):x=.int i->y=.int j->Q (g i j) H->vi g x y H Q
inductive rU(g:Int->V)(x:V)(H:Hp)(Q:VK):Prop
 |mk (i:_):x=.int i->Q (g i) H->rU g x H Q
section
variable {X:Cx} {a b c:Expr} {ta tb tc:TE} {pos:Pos}
theorem Co(n:PE X a ta)(z:PE X b tb) {pins:List (Addr×Obj)} {s:Shared} {σ:St} {H:Hp} {R:V->V->Hp->Prop} (I:Inv X pins σ H s)
  (h:ta σ H fun x H1=>tb σ H1 fun y H2=>R x y H2) {Q:Value->Shared->Prop} {f:Value->Value->Sem Value}
  (hf:∀v u j x y H2,Inv X pins σ H2 j->QR x v->QR y u->R x y H2->wpAny (model X.prog X.w) X.A (f v u) Q X.xe j) :
  wpAny (model X.prog X.w) X.A (eval a X.env) (fun v B=>wpAny (model X.prog X.w) X.A (eval b X.env) (fun u F=>wpAny (model X.prog X.w) X.A (f v u) Q X.xe F) X.xe B) X.xe s:=by
 refine bx (n pins s σ H _ I h) fun v G ⟨x,H1,J,M,O⟩=>?_;refine bx (z pins G σ H1 _ J O) fun u j ⟨y,H2,U,r2,q2⟩=>?_;exact hf v u j x y H2 U M r2 q2
theorem QA{op:Operator}{r:R2} (j:eC X (binaryOp op) r) (n:PE X a ta) (z:PE X b tb):PE X (.BinOp a op b pos) (pf r ta tb):=by intro pins s σ H Q I h;exact wpAny_BinOp (Co n z I h fun v u B x y H2 F G J q=>j pins B σ H2 x y v u Q F G J q)
theorem Fv{op:UnaryOp}{r:V->Hp->VK->Prop} (j:Ht X (unaryOp op) r) (n:PE X a ta):PE X (.UnaryOp op a pos) (Le r ta):=by intro pins s σ H Q I h;exact UnaryOp_ (bx (n pins s σ H _ I h) fun v z ⟨x,H1,B,F,G⟩=>j pins z σ H1 x v Q B F G)
theorem KA{f:Value->Value->Sem Value}{C:Int->Int->Prop}{g:Int->Int->Int}
  (n:∀(i j:Int)(t u:Tok)(s:Shared)(Q:Value->Shared->Prop)(E:Value->Shared->Prop),C i j->Q (.int (g i j) s.toks) { s with toks:=s.toks+1 }->wpAny (model X.prog X.w) X.A (f (.int i t) (.int j u)) Q E s) :
  eC X f (rI C fun i j=>.int (g i j)):=by
 intro pins s σ H x y v u Q I z B h;obtain⟨i,j,rfl,rfl,hc,q⟩:=h;obtain⟨t,rfl⟩:=z;obtain⟨t',rfl⟩:=B;exact n i j t t' s _ _ hc ⟨.int (g i j),H,I.tok _,⟨_,Z⟩,q⟩
theorem Eh{f:Value->Value->Sem Value}{g:Int->Int->Int}
  (n:∀(i j:Int)(t u:Tok)(s:Shared)(Q:Value->Shared->Prop)(E:Value->Shared->Prop),Q (.int (g i j) s.toks) { s with toks:=s.toks+1 }->wpAny (model X.prog X.w) X.A (f (.int i t) (.int j u)) Q E s) :
  eC X f (vi fun i j=>.int (g i j)):=by
 intro pins s σ H x y v u Q I z B h;obtain⟨i,j,rfl,rfl,q⟩:=h;obtain⟨t,rfl⟩:=z;obtain⟨t',rfl⟩:=B;exact n i j t t' s _ _ ⟨.int (g i j),H,I.tok _,⟨_,Z⟩,q⟩
theorem uZ{f:Value->Value->Sem Value}{g:Int->Int->Bool}
  (n:∀(i j:Int)(t u:Tok)(s:Shared)(Q:Value->Shared->Prop)(E:Value->Shared->Prop),Q (.bool (g i j)) s->wpAny (model X.prog X.w) X.A (f (.int i t) (.int j u)) Q E s) :
  eC X f (vi fun i j=>.bl (g i j)):=by
 intro pins s σ H x y v u Q I z B h;obtain⟨i,j,rfl,rfl,q⟩:=h;obtain⟨t,rfl⟩:=z;obtain⟨t',rfl⟩:=B;exact n i j t t' s _ _ ⟨.bl (g i j),H,I,Z,q⟩
def IA(i j:Int):Prop:=0<j/\j<1073741824
def Cq(i j:Int):Prop:=(-(2 ^ 64)<i/\i<2 ^ 64)\/(-(2 ^ 64)<j/\j<2 ^ 64)
theorem Cq.ok{i j:Int}(h:Cq i j):IntMulOk i j:=by
 rcases h with⟨h1,h2⟩|⟨h1,h2⟩
 ·exact .of_left (intBits_le_64 h1 h2)
 ·exact .of_right (intBits_le_64 h1 h2)
theorem QV:eC X (binaryOp .Add) (vi fun i j=>.int (i+j)):=Eh fun _ _ _ _ _ _ _ q=>add_int q
theorem Xi:eC X (binaryOp .Sub) (vi fun i j=>.int (i-j)):=Eh fun _ _ _ _ _ _ _ q=>sub_int q
theorem ZN:eC X (binaryOp .Mult) (rI Cq fun i j=>.int (i*j)):=KA fun _ _ _ _ _ _ _ hc q=>mul_int q hc.ok
theorem vV:eC X (binaryOp .FloorDiv) (rI IA fun i j=>.int (i/j)):=KA fun i j _ _ _ _ _ hc q=>by
 have h1:(0:Int)<j:=hc.1;have h2:j<1073741824:=hc.2;exact floordiv_int (by omega) (by rw[Int.fdiv_eq_ediv_of_nonneg i (by omega)];exact q) (.inl (PyProof.noPylong_small (by omega)))
theorem Cj:eC X (binaryOp .Mod) (rI (fun _ j=>0<j) fun i j=>.int (i%j)):=KA fun i j _ _ _ _ _ hc q=>by
 have h1:(0:Int)<j:=hc;exact mod_int' (by omega) (by rw[Int.fmod_eq_emod_of_nonneg i (by omega)];exact q)
theorem La{f:Value->Sem Value}{g:Int->Int}
  (j:∀(i:Int)(t:Tok)(s:Shared)(Q:Value->Shared->Prop)(E:Value->Shared->Prop),Q (.int (g i) s.toks) { s with toks:=s.toks+1 }->wpAny (model X.prog X.w) X.A (f (.int i t)) Q E s) :
  Ht X f (rU fun i=>.int (g i)):=by
 intro pins s σ H x v Q I n h;obtain⟨i,rfl,q⟩:=h;obtain⟨t,rfl⟩:=n;exact j i t s _ _ ⟨.int (g i),H,I.tok _,⟨_,Z⟩,q⟩
theorem AJ:Ht X (unaryOp .USub) (rU fun i=>.int (-i)):=La fun _ _ _ _ _ q=>neg_int q
end
def DQ:V->V->Bool
 |.bP,.bP=>true|.bP,.int _=>true|.int _,.bP=>true|.bP,.bl _=>true|.bl _,.bP=>true|.bP,.str _=>true|.str _,.bP=>true
 |.int _,.int _=>true|.bl _,.bl _=>true|.str _,.str _=>true|.byt _,.byt _=>true
 |.int _,.str _=>true|.str _,.int _=>true|.bl _,.str _=>true|.str _,.bl _=>true
 |_,_=>false
def D8:R2:=fun x y H Q=>DQ x y=true/\Q (.bl (decide (x=y))) H
def Lf:R2:=fun x y H Q=>DQ x y=true/\Q (.bl (!decide (x=y))) H
theorem lB{i j:Int}:decide (V.int i=V.int j)=(i==j):=by rw[Gz];simp
theorem tF{i j:Bool}:decide (V.bl i=V.bl j)=(i==j):=by rw[Gz];simp
theorem lJ{i j:Str}:decide (V.str i=V.str j)=(i==j):=by rw[Gz];simp
theorem mf{i j:Array UInt8}:decide (V.byt i=V.byt j)=(i.toList==j.toList):=by rw[Gz];cases i;cases j;simp
section
variable {X:Cx} {a b c:Expr} {ta tb tc:TE} {pos:Pos}
theorem QW {pins:List (Addr×Obj)} {σ:St} {H:Hp} {s:Shared} {Q:VK} {k j:Bool} (I:Inv X pins σ H s) (q:Q (.bl k) H) (e:k=j):EP X pins σ Q (.bool j) s:=by subst e;exact⟨.bl k,H,I,Z,q⟩
theorem XI:eC X (compareOp .Eq) D8:=by
 intro pins s σ H x y v u Q I B n h;obtain⟨z,q⟩:=h;cases x with
 | bP=>
  cases B;cases y with
  |bP=>cases n;exact PySem.EqNone.eq_none_none (QW I q We)
  |bl j=>cases n;exact PySem.EqNone.eq_none_bool (QW I q We)
  |int j=>obtain⟨t',rfl⟩:=n;exact PySem.EqNone.eq_none_int (QW I q We)
  |str j=>obtain⟨t',rfl⟩:=n;exact PySem.EqNone.eq_none_str (QW I q We)
  |_=>exact Wm (show false=true from z) xX
 | bl i=>
  cases B;cases y with
  |bP=>cases n;exact PySem.EqNone.eq_bool_none (QW I q We)
  |bl j=>cases n;exact eq_bool (QW I q tF)
  |str j=>obtain⟨t',rfl⟩:=n;exact PySem.EqMixed.eq_bool_str (QW I q We)
  |_=>exact Wm (show false=true from z) xX
 | int i=>
  obtain⟨t,rfl⟩:=B;cases y with
  |bP=>cases n;exact PySem.EqNone.eq_int_none (QW I q We)
  |int j=>obtain⟨t',rfl⟩:=n;exact eq_int (QW I q lB)
  |str j=>obtain⟨t',rfl⟩:=n;exact PySem.EqMixed.eq_int_str (QW I q We)
  |_=>exact Wm (show false=true from z) xX
 | str i=>
  obtain⟨t,rfl⟩:=B;cases y with
  |bP=>cases n;exact PySem.EqNone.eq_str_none (QW I q We)
  |bl j=>cases n;exact PySem.EqMixed.eq_str_bool (QW I q We)
  |int j=>obtain⟨t',rfl⟩:=n;exact PySem.EqMixed.eq_str_int (QW I q We)
  |str j=>obtain⟨t',rfl⟩:=n;exact eq_str (QW I q lJ)
  |_=>exact Wm (show false=true from z) xX
 | byt i=>
  obtain⟨t,rfl⟩:=B;cases y with
  |byt j=>obtain⟨t',rfl⟩:=n;exact PySem.W.eq_bytes (QW I q mf)
  |_=>exact Wm (show false=true from z) xX
 |_=>cases y<;>exact Wm (show false=true from z) xX
theorem qa:eC X (compareOp .NotEq) Lf:=by
 intro pins s σ H x y v u Q I B n h;obtain⟨z,q⟩:=h;cases x with
 | bP=>
  cases B;cases y with
  |bP=>cases n;exact PySem.EqNone.ne_none_none (QW I q We)
  |bl j=>cases n;exact PySem.EqNone.ne_none_bool (QW I q We)
  |int j=>obtain⟨t',rfl⟩:=n;exact PySem.EqNone.ne_none_int (QW I q We)
  |str j=>obtain⟨t',rfl⟩:=n;exact PySem.EqNone.ne_none_str (QW I q We)
  |_=>exact Wm (show false=true from z) xX
 | bl i=>
  cases B;cases y with
  |bP=>cases n;exact PySem.EqNone.ne_bool_none (QW I q We)
  |bl j=>cases n;exact ne_bool (QW I q (Wn not tF))
  |str j=>obtain⟨t',rfl⟩:=n;exact PySem.EqMixed.ne_bool_str (QW I q We)
  |_=>exact Wm (show false=true from z) xX
 | int i=>
  obtain⟨t,rfl⟩:=B;cases y with
  |bP=>cases n;exact PySem.EqNone.ne_int_none (QW I q We)
  |int j=>obtain⟨t',rfl⟩:=n;exact ne_int (QW I q (Wn not lB))
  |str j=>obtain⟨t',rfl⟩:=n;exact PySem.EqMixed.ne_int_str (QW I q We)
  |_=>exact Wm (show false=true from z) xX
 | str i=>
  obtain⟨t,rfl⟩:=B;cases y with
  |bP=>cases n;exact PySem.EqNone.ne_str_none (QW I q We)
  |bl j=>cases n;exact PySem.EqMixed.ne_str_bool (QW I q We)
  |int j=>obtain⟨t',rfl⟩:=n;exact PySem.EqMixed.ne_str_int (QW I q We)
  |str j=>obtain⟨t',rfl⟩:=n;exact ne_str (QW I q (Wn not lJ))
  |_=>exact Wm (show false=true from z) xX
 | byt i=>
  obtain⟨t,rfl⟩:=B;cases y with
  |byt j=>obtain⟨t',rfl⟩:=n;exact PySem.W.ne_bytes (QW I q (Wn not mf))
  |_=>exact Wm (show false=true from z) xX
 |_=>cases y<;>exact Wm (show false=true from z) xX
theorem ZE:eC X (compareOp .Lt) (vi fun i j=>.bl (decide (i<j))):=uZ fun _ _ _ _ _ _ _ q=>lt_int q
theorem jb:eC X (compareOp .LtE) (vi fun i j=>.bl (decide (i<=j))):=uZ fun _ _ _ _ _ _ _ q=>le_int q
theorem Zn:eC X (compareOp .Gt) (vi fun i j=>.bl (decide (j<i))):=uZ fun _ _ _ _ _ _ _ q=>gt_int q
theorem fx:eC X (compareOp .GtE) (vi fun i j=>.bl (decide (j<=i))):=uZ fun _ _ _ _ _ _ _ q=>ge_int q
theorem Qo(b:Expr){op:CmpOp}(h:op≠.In:=by decide)(h2:op≠.NotIn:=by decide):behindInMarks op b=false:=by
 have j:(op==CmpOp.In)=false:=by cases op<;>first|rfl|exact Wm Z h
 have n:(op==CmpOp.NotIn)=false:=by cases op<;>first|rfl|exact Wm Z h2
 cases b<;>simp[behindInMarks,j,n]
theorem QM{op:CmpOp}{r:R2} (j:eC X (compareOp op) r) (n:PE X a ta) (z:PE X b tb) (B:behindInMarks op b=false):PE X (.Compare a [op] [b] pos) (pf r ta tb):=by intro pins s σ H Q I h;exact wpAny_Compare1 (Co n z I h fun v u F x y H2 G J M q=>j pins F σ H2 x y v u Q G J M q) B
inductive sV(Q:Bool->Hp->Prop)(x:V)(H':Hp):Prop
 |mk (k:_):x=.bl k->Q k H'->sV Q x H'
def fe(t:TE):TT:=fun σ H Q=>t σ H (sV Q)
theorem Qs{op:CmpOp}{r:R2} (j:eC X (compareOp op) r) (n:PE X a ta) (B:PE X b tb) (F:behindInMarks op b=false):PT X (.Compare a [op] [b] pos) (fe (pf r ta tb)):=by
 intro pins s σ H Q I h
 refine wpAny_isTrue_Compare1 (bx (n pins s σ H _ I h) fun v G ⟨x,H1,J,M,O⟩=>bx (B pins G σ H1 _ J O) fun u U ⟨y,H2,I2,r2,q2⟩=>
  bx (j pins U σ H2 x y v u _ I2 M r2 q2) fun c s3 ⟨z,H3,I3,r3,k,e,q3⟩=>?_) F
 subst e;cases r3;exact wpAny_truthy_bool ⟨H3,I3,q3⟩
theorem kh:(sizeLine:Nat)<2 ^ 63:=by rw[sizeLine_eq];decide
theorem vals1{x:V}{us:List Value}(r:QH [x] us):∃u,us=[u]/\QR x u:=by
 cases r with
 |cons j n=>cases n;exact⟨_,Z,j⟩
theorem vals2{x y:V}{us:List Value}(r:QH [x,y] us):∃u j,us=[u,j]/\QR x u/\QR y j:=by
 cases r with
 | cons n z=>
  cases z with
  |cons B F=>cases F;exact⟨_,_,Z,n,B⟩
theorem oj(hc:X.calm=true):qv X (.builtin "max") (fun xs H Q=>∃i j,xs=[.int i,.int j]/\Q (.int (if j>i then j else i)) H):=by
 intro pins s σ H xs us Q I r h;obtain⟨i,j,rfl,q⟩:=h;obtain⟨u,z,rfl,⟨t,rfl⟩,⟨t',rfl⟩⟩:=vals2 r;refine max_two_ints (I.ok.hd hc) fun h' tk k=>⟨_,H,I.kept k,?_,q⟩;by_cases n:j>i
 ·rw[Wi n,Wi n];exact⟨_,Z⟩
 ·rw[Wh n,Wh n];exact⟨_,Z⟩
theorem tT:qv X (.builtin "ord") (fun xs H Q=>∃x,xs=[.str x]/\x.length=1/\Q (.int (x.cps.getD 0 0:Nat)) H):=by intro pins s σ H xs us Q I r h;obtain⟨x,rfl,hz,q⟩:=h;obtain⟨u,rfl,t,rfl⟩:=vals1 r;exact ord_of_one hz ⟨.int _,H,I.tok _,⟨_,Z⟩,q⟩
end
structure iy(h:Heap)(x dx C:Addr)(mA:Str->Option Value):Prop where
 obj:h.get? x=some (UI C dx)
 ns:h.Ns1 dx mA
 ne:dx≠x
theorem oV{h:Heap}{dx:Addr}{mA:Str->Option Value}(n:h.Ns1 dx mA):∃B,h.get? dx=some B/\∀name,Qao name B=some (mA name):=by
 obtain⟨o,es,ep,F,hd,hk,_,G⟩:=n;refine⟨o,F,fun name=>?_⟩;have e:=G name;unfold nsFind findBy at e;rw[<-Array.find?_toList]at e;unfold Qao;rw[hd];dsimp only;split
 ·rename_i y q;rw[q]at e;exact Wn some e
 ·rename_i q;rw[q] at e
  have a:es.toList.any (·.refKey)=false:=by rw[U3];intro y I;obtain⟨z,t,j⟩:=hk y (Array.mem_toList_iff.mp I);simp[DictEntry.refKey,j]
  have J:¬es.toList.any (·.refKey)=true:=by rw[a];exact xX
  rw[Wh J];exact Wn some e
theorem iy.look{h:Heap}{x dx C:Addr}{mA:Str->Option Value}(I:iy h x dx C mA):∃j,PySem.W.InstAt h x (UI C dx) C (some j)/\∀name,Qao name j=some (mA name):=
 let ⟨j,n,hl⟩:=oV I.ns
 ⟨j,⟨I.obj,Z,Z,n⟩,hl⟩
section
variable {prog:Program} {w:World} {A:Around} {E:Value->Shared->Prop} {s:Shared} {K:xz} {x dx C f:Addr} {mA:Str->Option Value} {name:Str} {v:Value}
theorem get_map{j:Bool}{Q:Value->Shared->Prop}(X:K.In s.heap)(I:iy s.heap x dx C mA)(z:Vy K C name=true)(B:V0 K C=true)
  (F:GX K (.ref C) name=some none) (G:mA name=some v) (n:PySem.W.handedIn v=true) (h:Q v { s with toks:=s.toks+1 }) :
  wpAny (model prog w) A (getAttr (.ref x) name j) Q E s:=by
 obtain⟨M,J,hl⟩:=I.look;exact PySem.W.get_value X J (Qaj z).1 (PySem.W.findObj_own B F Z (by rw[hl,G])) n h
theorem uz{pl:Sem Bool}{Q:Value×List Value->Shared->Prop}(X:K.In s.heap)(I:iy s.heap x dx C mA)(j:Vy K C name=true)
  (hf:GX K (.ref C) name=some (some (.ref f))) (n:Qam K (.ref f)=true) (z:mA name=none) (h:Q (.ref f,[.ref x]) s) :
  wpAny (model prog w) A (getMethod (.ref x) name pl) Q E s:=by
 obtain⟨B,J,hl⟩:=I.look;exact PySem.W.method_fn X J (Qaj j).1 (Qaj j).2 hf (beq_iff_eq.mp n) (by show(Qao name B).map (·.isSome)=some false;rw[hl,z];rfl) h
theorem uX{ns:List Str}{Q:Unit->Shared->Prop}(X:K.In s.heap)(I:iy s.heap x dx C mA)
  (M:GX K (.ref C) "__setattr__" = some (some (.builtin "object.__setattr__"))) (O:Qax K C=true) (U:Qbo K C name=some none) (hh:V0 K C=true)
  (hw:PySem.Within mA ns) (hsz:ns.length<=sizeLine)
  (h:∀h',iy h' x dx C (fun y=>if y=name then some v else mA y)->Heap.SameBut dx s.heap h'->Q () { s with heap:=h',toks:=s.toks+2 }) :
  wpAny (model prog w) A (setAttr (.ref x) name v) Q E s:=by
 obtain⟨od,J,hl⟩:=I.look;refine PySem.W.set_plain X J M (PySem.W.osa_open (s:={ s with toks:=s.toks+1 }) (r:=none) X J O U fun b=>?_);obtain⟨cd,hc,z⟩:=PySem.W.any_some hh;have hx:s.heap.get? x=some ⟨.ref C,some dx,.plain,#[]⟩:=I.obj;refine wpAny_bind (wpAny_pure (wpAny_bind (wpAny_bind (wpAny_loadPart hx (wpAny_bind (PySem.W.Looks.here (s:={ s with toks:=s.toks+1 }) (PySem.W.looks_clsIn X hc) ?_))))));rw[z];refine wpAny_pure (a:=some dx) (wpAny_bind (wpAny_pure (wpAny_bind ?_)));refine wpAny_nsSet1 (s:={ s with toks:=s.toks+1 }) I.ns fun h' j n=>?_;obtain⟨oD,aa,ab,B,F,G⟩:=j.count (PySem.Within.cons name v hw);refine wpAny_bind (wpAny_lookBehind B (by rw[F];exact pastItsLine_dict (xK G (by rw[xO];omega))) ?_);exact wpAny_pure (h _ ⟨(n.2 _ (Ne.symm I.ne)).trans I.obj,j,I.ne⟩ n)
theorem tm{R:Result->Shared->Prop}{vs:List Value} {j:List (Str×Value)} (X:K.In s.heap) (n:Qbp K C=true)
  (hi:GX K (.ref C) "__init__" = some (some (.ref f))) (hf:PySem.W.typeIn K (.ref f)=some (.type "function"))
  (h:codeAny (model prog w) (A.under (.builtin "type.__call__" ⟨.ref C::vs,j⟩)) (.call (.ref f) ⟨.ref (s.heap.objs.size+1)::vs,j⟩) (PySem.W.InitBack (s.heap.objs.size+1) R)
   { s with heap:=(s.heap.push Uc).push (UI C s.heap.objs.size) }) :
  codeAny (model prog w) A (.call (.ref C) ⟨vs,j⟩) R s:=by
 obtain⟨z,g,d,t,os⟩:=s;exact PySem.W.make_core (PySem.W.makes_of X n) (PySem.W.looks_findIn X hi) (fun self=>PySem.W.bind_fn X self hf) (.inl Z) h
end
def Zu(f:Str)(v:V):List (Str×V)->List (Str×V)
 |[]=>[(f,v)]
 |(g,x)::r=>if g=f then(g,v)::r else(g,x)::Zu f v r
theorem Qu(f g:Str)(v:V):∀fs:List (Str×V),(Zu f v fs).lookup g=if g=f then some v else fs.lookup g
 | []=>by
  show Vs g [(f,v)]=_;by_cases h:g=f
  ·have j:(g==f)=true:=beq_iff_eq.mpr h;simp only[Vs,j,Wi h]
  ·have j:(g==f)=false:=beq_eq_false_iff_ne.mpr h;simp only[Vs,j,Wh h]
 | (k,x)::r=>by
  have n:=Qu f g v r;rw[show Zu f v ((k,x)::r)=(if k=f then(k,v)::r else(k,x)::Zu f v r) from Z];by_cases hk:k=f
  ·rw[Wi hk];by_cases h:g=k
   ·have j:(g==k)=true:=beq_iff_eq.mpr h;simp only[Vs,j,Wi (h.trans hk)]
   ·have j:(g==k)=false:=beq_eq_false_iff_ne.mpr h;simp only[Vs,j,Wh (fun e:g=f=>h (e.trans hk.symm))]
  ·rw[Wh hk];by_cases h:g=k
   ·have j:(g==k)=true:=beq_iff_eq.mpr h;simp only[Vs,j,Wh (fun e:g=f=>hk (h.symm.trans e))]
   ·have j:(g==k)=false:=beq_eq_false_iff_ne.mpr h;simp only[Vs,j];exact n
theorem qD(f:Str)(v:V):∀fs:List (Str×V),f∈(Zu f v fs).map (·.1)/\∀g,g∈fs.map (·.1)->g∈(Zu f v fs).map (·.1)
 |[]=>⟨by simp[Zu],fun g h=>by simp at h⟩
 | (k,x)::r=>by
  obtain⟨i1,j⟩:=qD f v r;rw[show Zu f v ((k,x)::r)=(if k=f then(k,v)::r else(k,x)::Zu f v r) from Z];by_cases hk:k=f
  ·rw[Wi hk];subst hk;exact⟨by simp,fun g h=>by simpa using h⟩
  ·rw[Wh hk];refine⟨?_,fun g h=>?_⟩
   ·rw[xT];exact xR _ i1
   ·rw[xT] at h ⊢;rcases List.mem_cons.mp h with e | e
    ·exact List.mem_cons.mpr (.inl e)
    ·exact xR _ (j g e)
theorem qT(f:Str)(v:V):∀fs:List (Str×V),(Zu f v fs).length<=fs.length+1
 |[]=>by simp[Zu]
 | (k,x)::r=>by
  have j:=qT f v r;rw[show Zu f v ((k,x)::r)=(if k=f then(k,v)::r else(k,x)::Zu f v r) from Z];by_cases hk:k=f
  ·rw[Wi hk,xO,xO];omega
  ·rw[Wh hk,xO,xO];omega
theorem YL.some_of{v:V}{o:Option Value} (r:YL (some v) o):∃u,o=some u/\QR v u:=by
 cases o with
 |none=>exact(show False from r).elim
 |some u=>exact⟨u,Z,r⟩
theorem YL.none_of{o:Option Value}(r:YL none o):o=none:=by
 cases o with
 |none=>rfl
 |some u=>exact(show False from r).elim
theorem oy{v:V}{u:Value}(r:QR v u):PySem.W.handedIn u=true:=by
 cases v with
 |bP=>cases(show u=Value.none from r);rfl
 |bl b=>cases(show u=Value.bool b from r);rfl
 |int i=>obtain⟨t,e⟩:=(show ∃t,u=Value.int i t from r);cases e;rfl
 |str x=>obtain⟨t,e⟩:=(show ∃t,u=Value.str x t from r);cases e;rfl
 |byt b=>obtain⟨t,e⟩:=(show ∃t,u=Value.bytes b t from r);cases e;rfl
 |flt b=>obtain⟨t,e⟩:=(show ∃t,u=Value.float b t from r);cases e;rfl
 |ref a=>cases(show u=Value.ref a from r);rfl
 |ty n=>cases(show u=Value.type n from r);rfl
section
variable {P:Program} {w:World} {H H':Hp} {h h':Heap} {a C dx:Addr} {fs wZ:List (Str×V)}
theorem j6(bp:dh P w H h) (e:H a=some (.ins C dx fs)):∃mA,iy h a dx C mA/\(∀f,YL (fs.lookup f) (mA f))/\PySem.Within mA (fs.map (·.1))/\fs.length<=1000/\H dx=some (.own a):=by obtain⟨d,z,ne,j,mA,n,r,q⟩:=(show Zh P w H h a (.ins C dx fs) from bp a _ e);exact⟨mA,⟨j,n,ne⟩,r,q,z,d⟩
end
structure ph(K:xz)(C:Addr):Prop where
 pg:Vy K C Str.empty=true
 hd:V0 K C=true
 po:Qax K C=true
 sa:GX K (.ref C) "__setattr__" = some (some (.builtin "object.__setattr__"))
theorem ph.get{K:xz}{C:Addr}(c:ph K C)(f:Str):Vy K C f=true:=c.pg
def Q8(K:xz)(C:Addr)(f:Str):Prop:=GX K (.ref C) f=some none
theorem Q8.EX{K:xz}{C:Addr}{f:Str}(n:Q8 K C f):Qbo K C f=some none:=by unfold Qbo;rw[show GX K (.ref C) f=some none from n];rfl
structure Meth(K:xz)(C:Addr)(m:Str)(f:Addr):Prop where
 at_:GX K (.ref C) m=some (some (.ref f))
 fn:Qam K (.ref f)=true
 kp:GR K (.ref f)=true
section
variable {X:Cx} {pins:List (Addr×Obj)} {σ:St} {H:Hp} {s:Shared} {a C dx:Addr} {fs:List (Str×V)} {f:Str} {v:V} {A:Around} {E:Value->Shared->Prop}
theorem yj{b:Bool}{Q:Value->Shared->Prop}(I:Inv X pins σ H s) (e:H a=some (.ins C dx fs)) (c:ph X.K C) (n:Q8 X.K C f) (l:fs.lookup f=some v)
  (h:∀u s',Inv X pins σ H s'->QR v u->Q u s'):wpAny (model X.prog X.w) A (getAttr (.ref a) f b) Q E s:=by
 obtain⟨mA,O,r,_,_,_⟩:=j6 I.bp e;obtain⟨u,z,j⟩:=YL.some_of (v:=v) (o:=mA f) (by rw[<-l];exact r f);exact get_map I.eE O (c.get f) c.hd n z (oy j) (h u _ (I.tok _) j)
theorem yi{m:Str}{g:Addr}{pl:Sem Bool}{Q:Value×List Value->Shared->Prop}(I:Inv X pins σ H s) (e:H a=some (.ins C dx fs)) (c:ph X.K C) (k:Meth X.K C m g) (l:fs.lookup m=none)
  (h:Q (.ref g,[.ref a]) s):wpAny (model X.prog X.w) A (getMethod (.ref a) m pl) Q E s:=by
 obtain⟨mA,O,r,_,_,_⟩:=j6 I.bp e;have j:mA m=none:=YL.none_of (by rw[<-l];exact r m);exact uz I.eE O (c.get m) k.at_ k.fn j h
theorem zR{y:V}{u:Value}{Q:Unit->Shared->Prop}(I:Inv X pins σ H s) (e:H a=some (.ins C dx fs)) (c:ph X.K C) (n:Q8 X.K C f) (hl:fs.length<1000) (G:QR y u)
  (h:∀s',Inv X pins σ (upd H a (.ins C dx (Zu f y fs))) s'->Q () s'):wpAny (model X.prog X.w) A (setAttr (.ref a) f u) Q E s:=by
 obtain⟨mA,O,r,B,_,F⟩:=j6 I.bp e;have hz:(fs.map (·.1)).length<=sizeLine:=by rw[xB,sizeLine_eq];omega
 refine uX I.eE O c.sa c.po n.EX c.hd B hz fun h' j J=>h _ ?_;have hd:∃o,h'.get? dx=some o:=let ⟨o,_,_,M,_⟩:=j.ns;⟨o,M⟩
 refine I.write (x:=a) (e:=dx) (by rw[e];exact True.intro) (.inr F) (fun b q U z=>(J.2 b U).trans z) hd ?_;refine⟨by rw[Qh O.ne];exact F,?_,O.ne,j.obj,_,j.ns,fun g=>?_,fun g hg=>?_⟩
 ·have:=qT f y fs;omega
 ·show YL ((Zu f y fs).lookup g) (if g=f then some u else mA g);rw[Qu];by_cases q:g=f
  ·rw[Wi q,Wi q];exact G
  ·rw[Wh q,Wh q];exact r g
 ·by_cases q:g=f
  ·rw[q];exact(qD f y fs).1
  ·refine(qD f y fs).2 g (B g fun z=>hg ?_);show(if g=f then some u else mA g)=none;rw[Wh q];exact z
theorem Inv.made(I:Inv X pins σ H s):Inv X pins σ (upd (upd H s.heap.objs.size (.own (s.heap.objs.size+1))) (s.heap.objs.size+1) (.ins C s.heap.objs.size []))
  { s with heap:=(s.heap.push Uc).push (UI C s.heap.objs.size) }:=by
 have j:(s.heap.push Uc).get? s.heap.objs.size=some Uc:=Wv s.heap rfl
 have n:((s.heap.push Uc).push (UI C s.heap.objs.size)).get? (s.heap.objs.size+1)=some (UI C s.heap.objs.size):=by
  have:=Wv (s.heap.push Uc) (o:=UI C s.heap.objs.size) rfl
  rwa [Ww]at this
 have z:(s.heap.push Uc).Ns s.heap.objs.size (fun _=>none):=⟨Uc,#[],_,j,Z,(fun e B=>Wm B We),fun _=>rfl⟩;have F:=I.laid (a:=s.heap.objs.size) (o:=.own (s.heap.objs.size+1)) (h':=s.heap.push Uc) (t':=s.toks) (fun b u q=>Wt _ q) (xM _) ⟨_,j⟩;refine F.laid (a:=s.heap.objs.size+1) (o:=.ins C s.heap.objs.size []) (t':=s.toks) (fun b u q=>Wt _ q) (Qak (Ww _ _)) ?_;have ne:s.heap.objs.size≠s.heap.objs.size+1:=x3 (Qa7 _);refine⟨by rw[Qh ne,Qe],x4 _,ne,n,fun _=>none,(Heap.Ns1.of_empty z).at fun o q=>Wt _ q,fun _=>True.intro,fun y G=>Wm rfl G⟩
theorem wo{prog:Program}{w:World}{env:Env}{e:Expr}{f:Str}{pos:Pos}{s:Shared}{Q:Value->Shared->Prop} (j:attributeBase e f env (eval e env)=eval e env)
  (h:wpAny (model prog w) A (eval e env) (fun o n=>wpAny (model prog w) A (getAttr o f true) Q E n) E s):wpAny (model prog w) A (eval (.Attribute e f pos) env) Q E s:=
 Attribute_any_ h (by rw[arm_eval_Attribute,j])
end
inductive Ab(K:xz)(f:Str)(Q:VK)(x:V)(H1:Hp):Prop
 |mk (a:_) (C:_) (dx:_) (fs:_) (v:_):x=.ref a->H1 a=some (.ins C dx fs)->ph K C->Q8 K C f->fs.lookup f=some v->Q v H1->Ab K f Q x H1
def vu(K:xz)(ta:TE)(f:Str):TE:=fun σ H Q=>ta σ H (Ab K f Q)
inductive wF(K:xz)(f:Str)(D:JD)(σ:St)(y:V)(x:V)(H2:Hp):Prop
 |mk (a:_) (C:_) (dx:_) (fs:_):x=.ref a->H2 a=some (.ins C dx fs)->ph K C->Q8 K C f->fs.length<1000->D.nx σ (upd H2 a (.ins C dx (Zu f y fs)))->wF K f D σ y x H2
def Kq(K:xz)(ta tv:TE)(f:Str):TS:=fun D σ H=>tv σ H fun y H1=>ta σ H1 (wF K f D σ y)
def E9(X:Cx)(op:Operator)(rd:V->V->Hp->VK->Prop):Prop:=
 ∀(pins:List (Addr×Obj)) (s:Shared) (σ:St) (H:Hp) (x y:V) (u v:Value) (Q:VK),Inv X pins σ H s->QR x u->QR y v->rd x y H Q->wpAny (model X.prog X.w) X.A (inplaceOp op u v) (EP X pins σ Q) X.xe s
def u5(K:xz)(ta tv:TE)(rd:V->V->Hp->VK->Prop)(f:Str):TS:=fun D σ H=>ta σ H fun x H1=>∃a C dx fs v,x=.ref a/\H1 a=some (.ins C dx fs)/\ph K C/\Q8 K C f/\fs.lookup f=some v/\
 tv σ H1 fun y H2=>rd v y H2 fun z n=>∃j wZ,n a=some (.ins C j wZ)/\wZ.length<1000/\D.nx σ (upd n a (.ins C j (Zu f z wZ)))
section
variable {X:Cx} {o e value:Expr} {f:Str} {pos pos' dD:Pos} {ta tv:TE}
theorem Qw(j:PE X e ta) (z:attributeBase e f X.env (eval e X.env)=eval e X.env):PE X (.Attribute e f pos) (vu X.K ta f):=by intro pins s σ H Q I h;refine wo z (bx (j pins s σ H _ I h) fun u O ⟨x,H1,B,F,a,C,dx,fs,v,ex,G,c,n,l,q⟩=>?_);subst ex;obtain rfl:u=Value.ref a:=F;exact yj B G c n l fun U s2 J M=>⟨v,H1,J,M,q⟩
theorem Y1(j:PE X o ta)(z:PE X value tv) (B:swapsWith value (some (.Attribute o f pos')) pos.line X.env=pure false):PS X (.Assign [.Attribute o f pos'] value pos) (Kq X.K ta tv f):=by intro pins s σ H D I h;refine plainObj_wpAny_Assign_Attribute (bx (z pins s σ H _ I h) fun u F ⟨y,H1,G,J,q⟩=>bx (j pins F σ H1 _ G q) fun M s2 ⟨x,H2,O,U,a,C,dx,fs,ex,ea,c,n,l,q2⟩=>?_) B;subst ex;obtain rfl:M=Value.ref a:=U;exact zR O ea c n l J fun s3 I3=>⟨σ,_,I3,q2⟩
theorem Jn{op:Operator}{rd:V->V->Hp->VK->Prop}(F:PE X o ta)(G:PE X value tv)(j:E9 X op rd):PS X (.AugAssign (.Attribute o f dD) op value pos) (u5 X.K ta tv rd f):=by intro pins s σ H D I h;refine wpAny_AugAssign_AttributeAny (bx (F pins s σ H _ I h) fun J s1 ⟨x,H1,M,O,a,C,dx,fs,v,ex,U,c,n,l,q⟩=>?_);subst ex;obtain rfl:J=Value.ref a:=O;refine yj M U c n l fun u s2 I2 ru=>bx (G pins s2 σ H1 _ I2 q) fun w3 s3 ⟨y,H2,I3,ry,q3⟩=>bx (j pins s3 σ H2 v y u w3 _ I3 ru ry q3) fun w4 s4 ⟨z,H3,I4,rz,aa,wZ,B,l',q4⟩=>?_;exact zR I4 B c n l' rz fun s5 I5=>⟨σ,_,I5,q4⟩
def Ks:V->V->Hp->VK->Prop:=fun x y H Q=>∃i j,x=.int i/\y=.int j/\Q (.int (i+j)) H
theorem j7:E9 X .Add Ks:=by rintro pins s σ H x y u v Q I n z ⟨i,j,rfl,rfl,q⟩;obtain⟨t,rfl⟩:=(show ∃t,u=Value.int i t from n);obtain⟨t',rfl⟩:=(show ∃t',v=Value.int j t' from z);exact PyProof.Rows.iadd_int ⟨.int (i+j),H,I.tok _,⟨_,Z⟩,q⟩
end
section
variable {X:Cx} {pins:List (Addr×Obj)} {σ:St} {H:Hp} {s:Shared} {A:Around} {E:Value->Shared->Prop} {Q:Value->Shared->Prop} {c:Value} {b:Bool}
end
structure ZJ(k:Nat)(A:Around):Prop where
 hd:A.handled=none
 dp:A.depth+3*k+5<recursionLimit
 un:A.units+16*k+200<cLine
theorem ZJ.mono{j k:Nat}{A:Around}(r:ZJ k A)(h:j<=k):ZJ j A:=⟨r.hd,by have:=r.dp;omega,by have:=r.un;omega⟩
theorem ZJ.deeper{k:Nat}{A:Around} (r:ZJ (k+1) A) (env:Env):ZJ k (A.deeper env):=
 ⟨r.hd,by have:=r.dp;show A.depth+1+3*k+5<_;omega,by have:=r.un;show A.units+3+16*k+200<_;omega⟩
theorem ic{A:Around}{C:Addr}{us:List Value} {j:List (Str×Value)}:(A.under (.builtin "type.__call__" ⟨.ref C::us,j⟩)).depth=A.depth+1:=by first|rfl|simp[Around.under,Code.weight,Code.isCreation,Code.isGuard,Code.isCaller,Code.frames,Code.isFrame,guardIds]
theorem kL{A:Around}{C:Addr}{us:List Value} {j:List (Str×Value)}:(A.under (.builtin "type.__call__" ⟨.ref C::us,j⟩)).units=A.units+1:=by first|rfl|simp[Around.under,Code.cUnits,Code.frames,Code.isFrame]
theorem ZJ.make{k:Nat}{A:Around} (r:ZJ (k+1) A) (C:Addr) (us:List Value) (j:List (Str×Value)):ZJ k (A.under (.builtin "type.__call__" ⟨.ref C::us,j⟩)):=
 ⟨r.hd,by have:=r.dp;rw[ic];omega,by have:=r.un;rw[kL];omega⟩
theorem ZJ.depth{k:Nat}{A:Around}(r:ZJ k A):A.depth<recursionLimit:=by have:=r.dp;omega
theorem ZJ.units{k:Nat}{A:Around}(r:ZJ k A):A.units+64<cLine:=by have:=r.un;omega
def jz:TA:=fun _ H Q=>Q [] H
def YD(ta:TE)(j:TA):TA:=fun σ H Q=>ta σ H fun x H1=>j σ H1 fun xs H2=>Q (x::xs) H2
section
variable {X:Cx} {e:Expr} {es:List Expr} {te:TE} {t:TA} {pos:Pos}
theorem Qc:PA X [] jz:=fun _ _ _ _ H Q I h=>Calls.spliced_nil ⟨[],H,I,.nil,h⟩
theorem Qa(j:PE X e te)(hr:PA X es t) (n:starEach (e::es) X.env=(false,eval e X.env)::starEach es X.env:=by rfl):PA X (e::es) (YD te t):=by intro pos pins s σ H Q I h;rw[n];show wpAny _ _ (spliced ((false,eval e X.env)::backTo pos (starEach es X.env))) _ _ s;refine Calls.spliced_cons (bx (j pins s σ H _ I h) fun u z ⟨x,H1,B,F,G⟩=>?_);exact bx (hr pos pins z σ H1 _ B G) fun us U ⟨xs,H2,J,M,O⟩=>⟨x::xs,H2,J,.cons F M,O⟩
def Kv(t:TA):TE:=fun σ H Q=>t σ H fun xs H1=>xs.length<=sizeLine/\∀p,H1 p=none->Q (.ref p) (upd H1 p (.tup xs))
def Il(t:TA):TE:=fun σ H Q=>t σ H fun xs H1=>xs.length<=sizeLine/\∀p,H1 p=none->Q (.ref p) (upd H1 p (.lst xs))
theorem Ze{x1}(h:PA X es t):PE X (.Tuple es x1 pos) (Kv t):=by intro pins s σ H Q I B;refine wpAny_Tuple_spliced (bx (h pos pins s σ H _ I B) fun us j ⟨xs,H1,n,r,z,q⟩=>⟨by rw[<-r.length];exact z,?_⟩);have hf:H1 j.heap.objs.size=none:=n.bp.fresh (xM _);refine⟨.ref j.heap.objs.size,upd H1 j.heap.objs.size (.tup xs),n.laid (t':=j.toks) (fun b u e=>Wt _ e) (xM _) ?_,Z,q _ hf⟩;exact⟨z,us,r,⟨_,Wv _ Z,Z,_,Z⟩⟩
theorem QU(h:PA X es t):PE X (.List es pos) (Il t):=by intro pins s σ H Q I B;refine wpAny_List_spliced (bx (h pos pins s σ H _ I B) fun us j ⟨xs,H1,n,r,z,q⟩=>⟨by rw[<-r.length];exact z,?_⟩);have hf:H1 j.heap.objs.size=none:=n.bp.fresh (xM _);refine⟨.ref j.heap.objs.size,upd H1 j.heap.objs.size (.lst xs),n.laid (t':=j.toks) (fun b u e=>Wt _ e) (xM _) ?_,Z,q _ hf⟩;exact⟨z,us,0,r,Wv _ Z⟩
end
abbrev Sp:=List V->Hp->VK->XK->Prop
abbrev oM:=List Env->Hp->Shared->XK->Value->Shared->Prop
structure kr(P:Program)(w:World)(K:xz)(mg:Str->Option Value)(base:Heap)(A:Around)(outer:List Env)(s:Shared)(H:Hp):Prop where
 frames:A.frames=some outer
 mod:Mod K mg base
 bs:∀b o,base.get? b=some o->s.heap.get? b=some o/\H b=none
 bsz:base.objs.size<=s.heap.objs.size
 d3:s.heap.FunFrames base outer
 frf:∀b∈um outer,H b=none
 bp:dh P w H s.heap
 bare:AllBare s.gens
def CE(outer:List Env)(P:Program)(w:World)(H:Hp)(s:Shared)(Q:VK)(u:Value)(s':Shared):Prop:=
 ∃v H',s'.os=s.os/\AllBare s'.gens/\Un (um outer) [] H H' s.heap s'.heap/\dh P w H' s'.heap/\QR v u/\Q v H'
def CR(CX:oM)(outer:List Env)(P:Program)(w:World)(H:Hp)(s:Shared)(Q:VK)(E:XK)(r:Result)(s':Shared):Prop:=
 match r with
 |.ok (.ret u)=>CE outer P w H s Q u s'
 |.ok _=>False
 |.error e=>CX outer H s E e s'
structure QC(P:Program)(w:World)(K:xz)(mg:Str->Option Value)(base:Heap)(CX:oM)(k:Nat)(f:Addr)(fd:FuncData)(ps:List Str)(sp:Sp):Prop where
 len:∀vs H Q E,sp vs H Q E->vs.length=ps.length
 run:∀(A:Around)(outer:List Env)(s:Shared)(H:Hp)(args:Args)(us:List Value)(vs:List V)(Q:VK)(E:XK),ZJ k A->kr P w K mg base A outer s H->BindsTo s fd args (ps.zip us)->QH vs us->sp vs H Q E->
  codeAny (model P w) A (.call (.ref f) args) (CR CX outer P w H s Q E) s
theorem QC.mono{P:Program}{w:World}{K:xz}{mg:Str->Option Value}{base:Heap}{CX:oM}{j k:Nat}{f:Addr}{fd:FuncData}{ps:List Str}{sp:Sp}(F:QC P w K mg base CX j f fd ps sp)(h:j<=k) :
  QC P w K mg base CX k f fd ps sp:=⟨F.len,fun A outer s H args us vs Q E hr=>F.run A outer s H args us vs Q E (hr.mono h)⟩
theorem kr.make{P:Program}{w:World}{K:xz}{mg:Str->Option Value}{base:Heap}{A:Around}{outer:List Env}{s:Shared}{H:Hp}(e:kr P w K mg base A outer s H)(C:Addr)(us:List Value) (j:List (Str×Value)) :
  kr P w K mg base (A.under (.builtin "type.__call__" ⟨.ref C::us,j⟩)) outer s H:=⟨by first|exact e.frames|(simpa [Around.under,Code.envs,Code.isFrame,pushEnvs] using e.frames),e.mod,e.bs,e.bsz,e.d3,e.frf,e.bp,e.bare⟩
section
variable {X:Cx} {pins:List (Addr×Obj)} {σ:St} {H:Hp} {s s':Shared}
theorem Inv.FF(I:Inv X pins σ H s):kr X.prog X.w X.K X.mg X.base X.A X.stack s H:=
 ⟨I.ok.frames,I.ok.mod,I.bs,xK I.ok.bsz I.sz,I.stack,I.mD,I.bp,I.bare⟩
theorem Inv.after{Q:VK}{u:Value}(I:Inv X pins σ H s)(h:CE X.stack X.prog X.w H s Q u s'):EP X pins σ Q u s':=by obtain⟨v,H',os,bare,un,bp,r,q⟩:=h;obtain⟨n,g,d,t,j⟩:=s';obtain rfl:j=s.os:=os;exact⟨v,H',I.call (h':=n) (g':=g) (d':=d) (t':=t) (ch:=[]) un bp bare (fun b z=>Wm z We),r,q⟩
end
def mE(sp:Sp)(dvs:List V)(E:XK)(t:TA):TE:=fun σ H Q=>t σ H fun vs H1=>sp (vs++dvs) H1 Q E
inductive r9(C:Addr)(m:Str)(sp:Sp)(dvs:List V)(E:XK)(t:TA)(σ:St)(Q:VK)(x:V)(H1:Hp):Prop
 |mk (a:_) (dx:_) (fs:_):x=.ref a->H1 a=some (.ins C dx fs)->fs.lookup m=none->(t σ H1 fun vs H2=>sp (x::(vs++dvs)) H2 Q E)->r9 C m sp dvs E t σ Q x H1
def yP(C:Addr)(m:Str)(sp:Sp)(dvs:List V)(E:XK)(ta:TE)(t:TA):TE:=fun σ H Q=>ta σ H (r9 C m sp dvs E t σ Q)
def Dz(C:Addr)(sp:Sp)(dvs:List V)(E:XK)(t:TA):TE:=fun σ H Q=>t σ H fun vs H1=>∀x dx,H1 x=none->H1 dx=none->dx≠x->
 sp (.ref x::(vs++dvs)) (upd (upd H1 dx (.own x)) x (.ins C dx [])) (fun v H2=>v=.bP/\Q (.ref x) H2) E
def Xr(K:xz)(fd:FuncData)(ps:List Str)(ds:List Value):Prop:=
 ∀(s:Shared)(us:List Value),K.In s.heap->(us++ds).length=ps.length->BindsTo s fd ⟨us,[]⟩ (ps.zip (us++ds))
theorem Xr.all{K:xz}{fd:FuncData}{ps:List Str} (h:∀us:List Value,us.length=ps.length->bindArgs fd ⟨us,[]⟩=pure (ps.zip us)):Xr K fd ps []:=fun s us _ hl=>by
 rw[Uw]at hl ⊢;exact .of_eq (h us hl)
def JZ(CX:oM)(X:Cx)(E:XK):Prop:=∀(pins:List (Addr×Obj)) (σ:St) (H:Hp) (s:Shared) (e:Value) (s':Shared),Inv X pins σ H s->CX X.stack H s E e s'->X.xe e s'
section
variable {X:Cx} {CX:oM} {k:Nat} {f C:Addr} {fd:FuncData} {ps:List Str} {sp:Sp} {dvs:List V} {ds:List Value} {E:XK} {x m:Str} {p pos apos:Pos} {e o:Expr} {es:List Expr} {ta:TE} {t:TA}
theorem jP {pins:List (Addr×Obj)} {σ:St} {H:Hp} {s:Shared} {Q:VK} {us:List Value} {vs:List V} (F:QC X.prog X.w X.K X.mg X.base CX k f fd ps sp) (hr:ZJ k X.A) (z:Xr X.K fd ps ds) (hd:QH dvs ds) (B:JZ CX X E)
  (I:Inv X pins σ H s) (r:QH vs us) (h:sp (vs++dvs) H Q E):wpAny (model X.prog X.w) X.A (call (.ref f) us) (EP X pins σ Q) X.xe s:=by
 have n:QH (vs++dvs) (us++ds):=r.append hd;have hl:(us++ds).length=ps.length:=by rw[<-n.length];exact F.len _ _ _ _ h
 refine wpAny_call (codeAny_mono (F.run X.A X.stack s H ⟨us,[]⟩ (us++ds) (vs++dvs) Q E hr I.FF (z s us I.eE hl) n h) fun r s' j=>?_);cases r with
 |error e=>exact B pins σ H s e s' I j
 | ok fl=>
  cases fl with
  |ret u=>exact I.after j
  |next=>exact False.elim j
  |brk=>exact False.elim j
  |cont=>exact False.elim j
theorem wh(F:QC X.prog X.w X.K X.mg X.base CX k f fd ps sp)(hr:ZJ k X.A)(B:Gl X x) (G:X.mg x=some (.ref f)) (hk:GR X.K (.ref f)=true) (J:Xr X.K fd ps ds) (hd:QH dvs ds) (M:JZ CX X E)
  (O:PA X (e::es) t) (j:(x==("__debug__" : Str))=false:=by decide) (U:starEach (e::es) X.env=(false,eval e X.env)::starEach es X.env:=by rfl) (n:(backTo pos (starEach es X.env)).any (·.1)=false:=by rfl) :
  PE X (.Call (.Name x p) (e::es) [] pos) (mE sp dvs E t):=by
 intro pins s σ H Q I h;refine wpAny_Call_Name_kw (jZ I B G ?_ j);refine VG (h₀:=X.base) I.ok.mod.kin hk (bx (O pos pins s σ H _ I h) fun us s1 ⟨vs,H1,z,r,q⟩=>⟨z.eE,?_⟩) U n;exact jP F hr J hd M z r q
theorem Q4{pl:Sem Bool}(M:PE X o ta)(c:ph X.K C)(z:Meth X.K C m f)(F:QC X.prog X.w X.K X.mg X.base CX k f fd ps sp)(hr:ZJ k X.A)(O:Xr X.K fd ps ds)(hd:QH dvs ds)(U:JZ CX X E) (ha:PA X (e::es) t)
  (j:starEach (e::es) X.env=(false,eval e X.env)::starEach es X.env:=by rfl) (n:(backTo pos (starEach es X.env)).any (·.1)=false:=by rfl)
  (ht:eval (.Call (.Attribute o m apos) (e::es) [] pos) X.env=(do
   let B <- eval o X.env
   standAt apos.atName
   let (f,first) <- holding [B] (getMethod B m pl)
   callWith pos f first (backTo pos (starEach (e::es) X.env)) (backToKw pos (keywordEach [] X.env))):=by rfl) :
  PE X (.Call (.Attribute o m apos) (e::es) [] pos) (yP C m sp dvs E ta t):=by
 intro pins s σ H Q I h;refine Qbq (pl:=pl) (bx (M pins s σ H _ I h) fun u s1 ⟨x,H1,G,rx,a,dx,fs,ex,ea,l,q⟩=>?_) ht;subst ex;obtain rfl:u=Value.ref a:=rx;refine yi G ea c z l ?_;refine VG (first:=[.ref a]) (h₀:=X.base) I.ok.mod.kin z.kp (bx (ha pos pins s1 σ H1 _ G q) fun us s2 ⟨vs,H2,J,r,q2⟩=>⟨J.eE,?_⟩) j n;exact jP (us:=.ref a::us) (vs:=.ref a::vs) F hr O hd U J (.cons Z r) q2
theorem Ym{pl:Sem Bool}(B:PE X o ta)(c:ph X.K C)(n:Meth X.K C m f)(F:QC X.prog X.w X.K X.mg X.base CX k f fd ps sp)(hr:ZJ k X.A)(G:Xr X.K fd ps ds)(hd:QH dvs ds)(J:JZ CX X E)
  (M:eval (.Call (.Attribute o m apos) [] [] pos) X.env=(do
   let z <- eval o X.env
   standAt apos.atName
   let (f,first) <- holding [z] (getMethod z m pl)
   callWith pos f first (backTo pos (starEach [] X.env)) (backToKw pos (keywordEach [] X.env))):=by rfl) :
  PE X (.Call (.Attribute o m apos) [] [] pos) (yP C m sp dvs E ta jz):=by
 intro pins s σ H Q I h;refine Qbq (pl:=pl) (bx (B pins s σ H _ I h) fun u s1 ⟨x,H1,j,O,a,dx,fs,ex,U,l,q⟩=>?_) M;subst ex;obtain rfl:u=Value.ref a:=O;refine yi j U c n l ?_;exact PySem.W.callWith_K0 (first:=[.ref a]) j.eE n.kp (jP (us:=[.ref a]) (vs:=[.ref a]) F hr G hd J j (.cons Z .nil) q)
structure Mk(K:xz)(C f:Addr):Prop where
 makes:Qbp K C=true
 init:GX K (.ref C) "__init__" = some (some (.ref f))
 fn:Qam K (.ref f)=true
 kp:GR K (.ref C)=true
theorem ud {pins:List (Addr×Obj)} {σ:St} {H:Hp} {s:Shared} {Q:VK} {us:List Value} {vs:List V} (M:Mk X.K C f) (F:QC X.prog X.w X.K X.mg X.base CX k f fd ps sp) (hr:ZJ (k+1) X.A) (G:Xr X.K fd ps ds) (hd:QH dvs ds)
  (J:JZ CX X E) (I:Inv X pins σ H s) (r:QH vs us)
  (h:∀x dx,H x=none->H dx=none->dx≠x->sp (.ref x::(vs++dvs)) (upd (upd H dx (.own x)) x (.ins C dx [])) (fun v H2=>v=.bP/\Q (.ref x) H2) E) :
  wpAny (model X.prog X.w) X.A (call (.ref C) us) (EP X pins σ Q) X.xe s:=by
 have z:=h (s.heap.objs.size+1) s.heap.objs.size (I.bp.fresh (Nat.le_succ _)) (I.bp.fresh (xM _)) (x3 (Qa7 _));have n:=Inv.made (C:=C) I;have B:QH (V.ref (s.heap.objs.size+1)::(vs++dvs)) (Value.ref (s.heap.objs.size+1)::(us++ds)):=.cons Z (r.append hd)
 have hl:(Value.ref (s.heap.objs.size+1)::us++ds).length=ps.length:=by have e:=B.length;rw[F.len _ _ _ _ z]at e;exact e.symm
 refine wpAny_call (tm (f:=f) I.eE M.makes M.init (beq_iff_eq.mp M.fn) (codeAny_mono (F.run _ X.stack _ _ ⟨Value.ref (s.heap.objs.size+1)::us,[]⟩ (Value.ref (s.heap.objs.size+1)::(us++ds)) _ _ E (hr.make C us [])
  (n.FF.make C us []) (G _ (Value.ref (s.heap.objs.size+1)::us) n.eE hl) B z) fun r s' j=>?_))
 cases r with
 |error e=>exact J pins σ _ _ e s' n j
 | ok fl=>
  cases fl with
  | ret u=>
   obtain⟨v,H',O,U,ev,q3⟩:=n.after j;subst ev;exact⟨U,⟨V.ref (s.heap.objs.size+1),H',O,Z,q3⟩⟩
  |next=>exact False.elim j
  |brk=>exact False.elim j
  |cont=>exact False.elim j
theorem mM(M:Mk X.K C f)(F:QC X.prog X.w X.K X.mg X.base CX k f fd ps sp) (hr:ZJ (k+1) X.A) (B:Gl X x) (G:X.mg x=some (.ref C)) (J:Xr X.K fd ps ds) (hd:QH dvs ds) (O:JZ CX X E)
  (U:PA X (e::es) t) (j:(x==("__debug__" : Str))=false:=by decide) (he:starEach (e::es) X.env=(false,eval e X.env)::starEach es X.env:=by rfl) (n:(backTo pos (starEach es X.env)).any (·.1)=false:=by rfl) :
  PE X (.Call (.Name x p) (e::es) [] pos) (Dz C sp dvs E t):=by
 intro pins s σ H Q I h;refine wpAny_Call_Name_kw (jZ I B G ?_ j);refine VG (h₀:=X.base) I.ok.mod.kin M.kp (bx (U pos pins s σ H _ I h) fun us s1 ⟨vs,H1,z,r,q⟩=>⟨z.eE,?_⟩) he n;exact ud M F hr J hd O z r q
end
def PK(X:Cx)(vd:List Keyword)(t:TA):Prop:=
 ∀(pos:Pos) (pins:List (Addr×Obj)) (s:Shared) (σ:St) (H:Hp) (Q:List V->Hp->Prop),Inv X pins σ H s->t σ H Q->wpAny (model X.prog X.w) X.A (evalAll ((backToKw pos (keywordEach vd X.env)).map (·.2))) (AP X pins σ Q) X.xe s
section
variable {X:Cx} {CX:oM} {k:Nat} {f C:Addr} {fd:FuncData} {ps ks:List Str} {sp:Sp} {E:XK} {x m:Str} {p pos apos vl:Pos} {e o:Expr} {es:List Expr} {vd:List Keyword} {te ta:TE} {t tk:TA} {nm:Option Str}
theorem jS:PK X [] jz:=fun _ _ _ _ H Q I h=>wpAny_evalAll_nil ⟨[],H,I,.nil,h⟩
theorem zq(j:PE X e te)(hr:PK X vd t):PK X (⟨nm,e,vl⟩::vd) (YD te t):=by intro pos pins s σ H Q I h;show wpAny _ _ (evalAll ((do let v <- eval e X.env;standAt pos;pure v)::(backToKw pos (keywordEach vd X.env)).map (·.2))) _ _ s;refine wpAny_evalAll_cons (wpAny_bind (bx (j pins s σ H _ I h) fun u n ⟨x,H1,z,B,F⟩=>wpAny_bind (wpAny_standAt (wpAny_pure ?_))));exact bx (hr pos pins n σ H1 _ z F) fun us O ⟨xs,H2,G,J,M⟩=>⟨x::xs,H2,G,.cons B J,M⟩
variable {g:List Value->List Value->List Value} {gV:List V->List V->List V}
end
structure a7(N P:List Str)(sc:Scope):Prop where
 kind:sc.kind=.function
 co:sc.isCoroutine=false
 gen:sc.isGenerator=false
 nd:N.Nodup
 pre:N.take P.length=P
 par:∀x∈P,sc.names.lookup x=some .local\/sc.names.lookup x=some .cell
 nofree:∀y∈sc.names,y.2≠.free
theorem jq{j:Str->Option NameKind}{x:Str}:∀{binds:List (Str×Value)} {m:Str->Option Value},(∀v,(x,v)∉binds)->bindL j binds m x=m x
 |[],_,_=>rfl
 | (n,v)::r,m,h=>by
  unfold bindL;rw[jq fun w hw=>h w (xR _ hw)];split
  ·have:x≠n:=by rintro rfl;exact h v Gj
   simp[this]
  ·rfl
theorem js{j:Str->Option NameKind}{x:Str}:∀{binds:List (Str×Value)} {m:Str->Option Value},(∀v,(x,v)∉binds)->bindC j binds m x=m x
 |[],_,_=>rfl
 | (n,v)::r,m,h=>by
  unfold bindC;rw[js fun w hw=>h w (xR _ hw)];split
  ·rfl
  ·have:x≠n:=by rintro rfl;exact h v Gj
   simp[this]
theorem jr{j:Str->Option NameKind}{x:Str}{v:Value}:∀{P:List Str} {vs:List Value} {i:Nat} {m:Str->Option Value},P.Nodup->P[i]?=some x->vs[i]?=some v->j x=some .local->
  bindL j (P.zip vs) m x=some v
 |[],_,_,_,_,h,_,_=>by simp at h
 |_::_,[],_,_,_,_,h,_=>by simp at h
 | p::P,w::vs,0,m,nd,h1,h2,hk=>by
  simp at h1 h2;subst h1;subst h2;show bindL j ((p,w)::P.zip vs) m p=_;unfold bindL;rw[jq fun v n=>(List.nodup_cons.mp nd).1 (Qbk n).1,Wi hk];simp
 | p::P,w::vs,i+1,m,nd,h1,h2,hk=>by
  show bindL j ((p,w)::P.zip vs) m x=_;unfold bindL;exact jr (i:=i) (List.nodup_cons.mp nd).2 (by simpa using h1) (by simpa using h2) hk
theorem jt{j:Str->Option NameKind}{x:Str}{v:Value}:∀{P:List Str} {vs:List Value} {i:Nat} {m:Str->Option Value},P.Nodup->P[i]?=some x->vs[i]?=some v->j x≠some .local->
  bindC j (P.zip vs) m x=some v
 |[],_,_,_,_,h,_,_=>by simp at h
 |_::_,[],_,_,_,_,h,_=>by simp at h
 | p::P,w::vs,0,m,nd,h1,h2,hk=>by
  simp at h1 h2;subst h1;subst h2;show bindC j ((p,w)::P.zip vs) m p=_;unfold bindC;rw[js fun v n=>(List.nodup_cons.mp nd).1 (Qbk n).1,Wh hk];simp
 | p::P,w::vs,i+1,m,nd,h1,h2,hk=>by
  show bindC j ((p,w)::P.zip vs) m x=_;unfold bindC;exact jt (i:=i) (List.nodup_cons.mp nd).2 (by simpa using h1) (by simpa using h2) hk
def YO(N:List Str)(vs:List V):St:=vs.map some++xS (N.length-vs.length) none
def kf(CX:oM)(P:Program)(w:World)(K:xz)(mg:Str->Option Value)(base:Heap)(N:List Str)(j:Str)(scope:Scope)(f:Addr)(z:Value)(A:Around)(outer:List Env)(s:Shared)(H:Hp)(E:XK):Cx where
 prog:=P
 w:=w
 K:=K
 mg:=mg
 base:=base
 A:=A.deeper (envOfC j scope s.heap.objs.size f z)
 N:=N
 eG:=s
 H_0:=H
 env:=envOfC j scope s.heap.objs.size f z
 outer:=outer
 stack:=envOfC j scope s.heap.objs.size f z::outer
 ex:=[]
 calm:=true
 fn:=fun _=>true
 pn:=[]
 xe:=fun e s'=>wpAny (model P w) (A.deeper (envOfC j scope s.heap.objs.size f z)) (leaving (envOfC j scope s.heap.objs.size f z) e) (fun _ n=>CX outer H s E e n) (fun B n=>CX outer H s E B n) s'
theorem fO{sc:Scope}{n:Nat}{x:Str}(h:sc.names.lookup x=some .cell):∃c,(cellsFrom n sc.names []).lookup x=some c:=by have q:=Qbj sc.names n [] (.inl h);exact Option.isSome_iff_exists.mp q
theorem nY{CX:oM}{P:Program}{w:World}{K:xz}{mg:Str->Option Value}{base:Heap}{N ps:List Str}{j:Str}{scope:Scope}{f:Addr}{M:Value}{A:Around}{outer:List Env}{s O:Shared}{H:Hp}{E:XK}{us:List Value}{vs:List V}
  (S:a7 N ps scope) (hd:A.handled=none) (B:kr P w K mg base A outer s H) (hl:vs.length=ps.length) (r:QH vs us)
  (x:InCallC s s.heap.objs.size (bindL (envOfC j scope s.heap.objs.size f M).kindOf (ps.zip us) fun _=>none) (cellsFrom (s.heap.objs.size+1) scope.names []) (bindC (envOfC j scope s.heap.objs.size f M).kindOf (ps.zip us) fun _=>none) O) :
  Inv (kf CX P w K mg base N j scope f M A outer s H E) [] (YO N vs) H O:=by
 have aa:ps.length<=N.length:=by have:=Wn Qaq S.pre;rw[Gk]at this;omega
 obtain⟨h1,tk,rfl,hk⟩:=x.done;have F:∀b:Addr,b∉(kf CX P w K mg base N j scope f M A outer s H E).ex:=fun b z=>Wm (show b∈([]:List Addr) from z) We
 refine⟨⟨B.mod,S.kind,Z,Z,xM _,fun y z c h1 h2=>?_,fun y G=>?_,fun y c _ h=>?_,fun _=>hd,Around.frames_deeper B.frames,.inr ⟨Z,Z⟩,fun b z=>Wm z (F b),B.bs,B.bsz,fun b _ _=>F b,fun b z=>Wm z (F b),B.d3,B.frf⟩,
  rfl,B.bare,Un.kept hk,⟨_,x.toInCall.ns,fun i y v h1 h2 h3=>?_⟩,fun y c h=>⟨_,x.cell y c h⟩,B.bp.fresh (xM _),fun y c h=>?_,fun p I=>Wm (show p∈([]:List (Addr×Obj)) from I) We,B.bp.kept hk,?_⟩
 ·exact name_of_addr x.apart (Wy h1) (Wy h2)
 ·have G:scope.names.lookup y=some .cell\/scope.names.lookup y=some .free:=G;rcases G with G | G
  ·exact fO G
  ·exact Wm Z (S.nofree _ (Wy G))
 ·exact VR (x.above y c (Wy h))
 ·have hi:i<vs.length:=by
   unfold YO at h2;by_cases hi:i<vs.length
   ·exact hi
   ·rw[Us (by simpa using hi)]at h2;rw[List.getElem?_replicate]at h2;split at h2<;>cases h2
  have ha:vs[i]?=some v:=by
   unfold YO at h2;rw[GU (by simpa using hi),xJ]at h2;cases e:vs[i]? with
   |none=>rw[e]at h2;cases h2
   |some a=>rw[e]at h2;cases h2;rfl
  obtain⟨u,U,rv⟩:=r.get ha
  have I:ps[i]?=some y:=by rw[<-S.pre,Qay (by omega)];exact h1
  have J:ps.Nodup:=by rw[<-S.pre];exact S.nd.sublist (List.take_sublist _ _)
  refine⟨u,rv,?_⟩;rcases S.par y (xZ I) with k|k
  ·exact .inl ⟨k,jr J I U k⟩
  ·obtain⟨c,e⟩:=fO (n:=s.heap.objs.size+1) k;refine .inr ⟨.inl k,c,e,?_⟩;have q:=x.cell y c e;rw[jt J I U (by show scope.names.lookup y≠_;rw[k];decide)]at q;exact q
 ·exact B.bp.fresh (VR (x.above y c (Wy h)))
 ·unfold YO;show _=N.length;rw[xF,xB,Vp];omega
theorem EI{CX:oM}{P:Program}{w:World}{K:xz}{mg:Str->Option Value}{base:Heap}{k:Nat}{f:Addr}{name j:Str}{B:Arguments}{F:List Stmt}{scope:Scope}{dV kV U pm z ct oc:Value}{an od:Option Addr}
  {ab:Array (Option Value)} {N ps:List Str} {sp:Sp} (lk:K.lookup f=some ⟨oc,od,.func (G9 name j B F scope dV kV U pm an z ct),ab⟩) (ac:Ve K z j=true) (S:a7 N ps scope)
  (len:∀vs H Q E,sp vs H Q E->vs.length=ps.length)
  (G:∀(A:Around)(outer:List Env)(s:Shared)(H:Hp)(vs:List V)(Q:VK)(E:XK),ZJ k (A.deeper (envOfC j scope s.heap.objs.size f z))->sp vs H Q E->
   ∃t,l7 (kf CX P w K mg base N j scope f z A outer s H E) F t/\t { nx:=fun _ H'=>Q .bP H',rt:=Q } (YO N vs) H) :
  QC P w K mg base CX (k+1) f (G9 name j B F scope dV kV U pm an z ct) ps sp:=by
 refine⟨len,fun A outer s H args us vs Q E hr e0 hb r aa=>?_⟩;have hl:=len _ _ _ _ aa;have KX:K.In s.heap:=e0.mod.kin.keeps fun b o e=>(e0.bs b o e).1;have ad:s.heap.NoLimit:=e0.mod.nolimit.keeps fun b o e=>(e0.bs b o e).1
 have M:∀y∈ps.zip us,scope.names.lookup y.1=some .local\/(scope.names.lookup y.1=some .cell/\((cellsFrom (s.heap.objs.size+1) scope.names []).lookup y.1).isSome=true):=fun⟨n,v⟩ hy=>by
  rcases S.par n (Qbk hy).1 with q|q
  ·exact .inl q
  ·exact .inr ⟨q,Qbj _ _ _ (.inl q)⟩
 refine codeAny_call_function hr.depth (KX _ _ lk) Z S.co S.gen Z (PySem.W.codeRec_of KX ac) (hb _ _ _ _ ?_);refine wpAny_newFunctionEnv_cells S.kind M fun env he s1 x=>?_;subst he;refine⟨ad.keeps x.toInCall.keep,codeAny_func ?_⟩;obtain⟨t,ht,hq⟩:=G A outer s H vs Q E (hr.deeper _) aa;have I:Inv (kf CX P w K mg base N j scope f z A outer s H E) [] (YO N vs) H s1:=nY S hr.hd e0 hl r x;refine wpAny_mono (ht [] s1 (YO N vs) H _ I hq) (fun fl s' O=>?_) fun e s' O=>O
 have fin:∀{dw:St} {H':Hp} {v:V} {u:Value},Inv (kf CX P w K mg base N j scope f z A outer s H E) [] dw H' s'->QR v u->Q v H'->CE outer P w H s Q u s':=
  fun {dw H' v u} J rv q=>⟨v,H',J.os,J.bare,J.base,J.bp,rv,q⟩
 cases fl with
 | ret u=>
  obtain⟨v,dw,H',J,rv,q⟩:=O;exact fin J rv q
 | next=>
  obtain⟨dw,H',J,q⟩:=O;exact fin (v:=V.bP) (u:=Value.none) J Z q
 | brk=>
  obtain⟨_,_,_,q⟩:=O;exact False.elim q
 | cont=>
  obtain⟨_,_,_,q⟩:=O;exact False.elim q
section
variable {X:Cx} {x:Str} {p pos:Pos} {e:Expr} {es:List Expr} {t:TA} {id T:String} {r:List V->Hp->VK->Prop}
def KL(r:List V->Hp->VK->Prop)(t:TA):TE:=fun σ H Q=>t σ H fun vs H1=>r vs H1 Q
theorem Qx (hc:qv X (.builtin id) r) (z:Gl X x) (B:X.mg x=none) (F:bootBuiltins x=some (.builtin id)) (G:PA X (e::es) t) (J:x ≠ "__name__" := by decide) (j:(x==("__debug__" : Str))=false:=by decide)
  (M:starEach (e::es) X.env=(false,eval e X.env)::starEach es X.env:=by rfl) (n:(backTo pos (starEach es X.env)).any (·.1)=false:=by rfl):PE X (.Call (.Name x p) (e::es) [] pos) (KL r t):=by
 intro pins s σ H Q I h;refine wpAny_Call_Name_kw (X6 I z B F ?_ J j);exact PyProof.Rows.callWith_builtin1 (bx (G pos pins s σ H _ I h) fun us O ⟨vs,H1,U,r1,q1⟩=>hc pins O σ H1 vs us Q U r1 q1) M n
theorem Jr (hc:qv X (.type T) r) (z:Gl X x) (B:X.mg x=none) (F:bootBuiltins x=some (.type T)) (G:PA X (e::es) t) (J:x ≠ "__name__" := by decide) (j:(x==("__debug__" : Str))=false:=by decide)
  (M:starEach (e::es) X.env=(false,eval e X.env)::starEach es X.env:=by rfl) (n:(backTo pos (starEach es X.env)).any (·.1)=false:=by rfl):PE X (.Call (.Name x p) (e::es) [] pos) (KL r t):=by
 intro pins s σ H Q I h;refine wpAny_Call_Name_kw (X6 I z B F ?_ J j);exact PyProof.Rows.callWith_type1 (bx (G pos pins s σ H _ I h) fun us O ⟨vs,H1,U,r1,q1⟩=>hc pins O σ H1 vs us Q U r1 q1) M n
end
end L2
namespace HT
open PySem PyProof.Rows
section
open PySem.SeqAt
open PySem.AutoSeq1 (wpAny_loadPart')
open PySem.MeetsSeq PySem.MeetsSeq2 PySem.MeetsSeq3
end
section
variable {prog:Program} {w:World} {A:Around} {E:Value->Shared->Prop} {s:Shared}
def eV(n d:Nat):Option Int->Nat
 |none=>d
 |some v=>if v<0 then(v+(n:Int)).toNat else min v.toNat n
theorem px(n d:Nat):eV n d none=d:=rfl
theorem dj(n d k:Nat):eV n d (some (k:Int))=min k n:=by show(if(k:Int)<0 then((k:Int)+(n:Int)).toNat else min (k:Int).toNat n)=min k n;rw[Wh (by omega),Ub]
end
end HT
namespace L2
open PySem PySem.Spec PyProof.Rows
abbrev TO:=St->Hp->(Option Int->Hp->Prop)->Prop
def PO(X:Cx)(e:Option Expr)(t:TO):Prop:=
 ∀(pins:List (Addr×Obj)) (s:Shared) (σ:St) (H:Hp) (Q:Option Int->Hp->Prop),Inv X pins σ H s->t σ H Q->
  wpAny (model X.prog X.w) X.A (evalPart e X.env) (fun u s'=>∃o H',Inv X pins σ H' s'/\IsPart u o/\Q o H') X.xe s
def vE:TO:=fun _ H Q=>Q none H
def Fu(t:TE):TO:=fun σ H Q=>t σ H fun x H1=>∃i,x=.int i/\Q (some i) H1
section
variable {X:Cx} {e:Expr} {te:TE} {lo hi:Option Expr} {tl th:TO} {pos p2:Pos}
theorem zo:PO X none vE:=by intro pins s σ H Q I h;rw[evalPart_none];exact wpAny_pure ⟨none,H,I,.none,h⟩
theorem Xb(h:PE X e te):PO X (some e) (Fu te):=by intro pins s σ H Q I hw;rw[evalPart_some];refine bx (h pins s σ H _ I hw) fun u B ⟨x,H1,j,n,z⟩=>?_;obtain⟨i,rfl,q⟩:=z;obtain⟨t,rfl⟩:=n;exact⟨some i,H1,j,.int i t,q⟩
def KQ(X:Cx)(r:V->Option Int->Option Int->Hp->VK->Prop):Prop:=
 ∀(pins:List (Addr×Obj)) (s:Shared) (σ:St) (H:Hp) (x:V) (v j n:Value) (lo hi:Option Int) (z:Addr) (Q:VK),Inv X pins σ H s->QR x v->s.heap.IsSliceOf z j n .none->IsPart j lo->IsPart n hi->r x lo hi H Q->
  ∃T id,typeLookup (.type T) "__getitem__" = pure (some (.builtin id))/\s.TypeIs v T/\wpAny (model X.prog X.w) X.A (getItem v (.ref z)) (EP X pins σ Q) X.xe s
def Lh(r:V->Option Int->Option Int->Hp->VK->Prop)(te:TE)(tl th:TO):TE:=fun σ H Q=>te σ H fun x H1=>tl σ H1 fun l H2=>th σ H2 fun u j=>r x l u j Q
theorem XF{r:V->Option Int->Option Int->Hp->VK->Prop}(hr:KQ X r)(F:PE X e te)(hl:PO X lo tl)(G:PO X hi th):PE X (.Subscript e (.Slice lo hi none p2) pos) (Lh r te tl th):=by intro pins s σ H Q I h;refine Subscript_ (bx (F pins s σ H _ I h) fun v J ⟨x,H1,M,O,U⟩=>?_);refine wpAny_Slice (bx (hl pins J σ H1 _ M U) fun n s2 ⟨l,H2,I2,pl,q2⟩=>bx (G pins s2 σ H2 _ I2 q2) fun z j ⟨u,B,I3,pu,q3⟩=>?_);rw[evalPart_none];refine wpAny_pure ?_;have I4:Inv X pins σ B { j with heap:=j.heap.push { cls:=.type "slice",data:=.fields #[n,z,.none] } }:=I3.kept (t':=j.toks) fun b ob q=>Wt _ q;obtain⟨T,id,hT,ht,hg⟩:=hr pins { j with heap:=j.heap.push { cls:=.type "slice",data:=.fields #[n,z,.none] } } σ B x v n z l u j.heap.objs.size Q I4 O (Heap.IsSliceOf.new ..) pl pu q3;show wpAny (model X.prog X.w) X.A (subscriptTail e (.Slice lo hi none p2) v (.ref j.heap.objs.size)) (EP X pins σ Q) X.xe { j with heap:=j.heap.push { cls:=.type "slice",data:=.fields #[n,z,.none] } };exact tail_any (ops:=[.ref j.heap.objs.size,v]) ht hT hg (by with_unfolding_all rfl)
def X7(xs:List V)(lo hi:Option Int):List V:=(xs.drop (HT.eV xs.length 0 lo)).take (HT.eV xs.length xs.length hi-HT.eV xs.length 0 lo)
theorem gz(xs:List V)(lo hi:Option Int):(X7 xs lo hi).length<=xs.length:=by unfold X7;rw[Gk,Ga];omega
end
def C8(n:Nat)(i:Int):Option Nat:=if 0<=i then(if i<n then some i.toNat else none) else if -(n:Int)<=i then some (i+n).toNat else none
def By{α:Type}(xs:List α)(i:Int):Option α:=(C8 xs.length i).bind fun j=>xs[j]?
theorem vp{n:Nat}{i:Int}{j:Nat}(h:C8 n i=some j):seqIndex? i n=some j/\j<n/\-(n:Int)<=i/\i<n:=by
 unfold C8 at h;by_cases h0:0<=i
 ·rw[Wi h0] at h;by_cases h1:i<n
  ·rw[Wi h1]at h;have e:i.toNat=j:=Wo h;exact⟨by rw[seqIndex_of h0 h1,e],by omega,by omega,h1⟩
  ·rw[Wh h1]at h;cases h
 ·rw[Wh h0] at h;by_cases h1 : -(n:Int)<=i
  ·rw[Wi h1]at h;have e:(i+n).toNat=j:=Wo h;exact⟨by rw[seqIndex_neg (by omega) h1,e],by omega,h1,by omega⟩
  ·rw[Wh h1]at h;cases h
theorem lX{α:Type}{xs:List α}{i:Int}{v:α}(h:By xs i=some v):∃j,seqIndex? i xs.length=some j/\xs[j]?=some v/\j<xs.length/\-(xs.length:Int)<=i/\i<xs.length:=by
 unfold By at h;cases e:C8 xs.length i with
 |none=>rw[e]at h;cases h
 | some j=>
  rw[e]at h;obtain⟨h1,h2,n,z⟩:=vp e;exact⟨j,h1,h,h2,n,z⟩
theorem Qm{α:Type}{xs:List α}{j:Nat}{v:α}(h:xs[j]?=some v):By xs (j:Int)=some v:=by
 have n:j<xs.length:=(List.getElem?_eq_some_iff.mp h).1
 have e:C8 xs.length (j:Int)=some j:=by unfold C8;rw[Wi (by omega),Wi (by omega)];simp
 unfold By;rw[e];exact h
def vX(b:Expr):Prop:=∀o i,subscripted b false o i=operate [o,i] (getItem o i)
def Kf(X:Cx)(r:R2):Prop:=
 ∀(value j:Expr) (pins:List (Addr×Obj)) (s:Shared) (σ:St) (H:Hp) (x y:V) (v u:Value) (Q:VK),Inv X pins σ H s->QR x v->QR y u->r x y H Q->
  subscripted j false v u=operate [v,u] (getItem v u)->wpAny (model X.prog X.w) X.A (subscriptTail value j v u) (EP X pins σ Q) X.xe s
def KH(X:Cx)(id:String)(r:V->List V->Hp->VK->Prop):Prop:=
 ∀(pins:List (Addr×Obj)) (s:Shared) (σ:St) (H:Hp) (x:V) (xs:List V) (v:Value) (us:List Value) (Q:VK),Inv X pins σ H s->QR x v->QH xs us->r x xs H Q->
  wpAny (model X.prog X.w) X.A (call (.builtin id) (v::us)) (EP X pins σ Q) X.xe s
section
variable {X:Cx} {a b:Expr} {ta tb:TE} {pos:Pos}
theorem Qy{r:R2}(hr:Kf X r)(j:PE X a ta)(n:PE X b tb)(z:vX b):PE X (.Subscript a b pos) (pf r ta tb):=by intro pins s σ H Q I h;exact Subscript_ (Co j n I h fun v u B x y H2 F G J q=>hr a b pins B σ H2 x y v u Q F G J q (z _ _))
inductive Fq(K:xz)(x:V)(y:V)(H:Hp)(Q:VK):Prop
 |mk (p:_) (xs:_) (i:_) (v:_):x=.ref p->y=.int i->a' K H p xs->By xs i=some v->Q v H->Fq K x y H Q
inductive nI(K:xz)(x:V)(y:V)(H:Hp)(Q:VK):Prop
 |mk (p:_) (xs:_) (i:_) (v:_):x=.ref p->y=.int i->bV K H p xs->By xs i=some v->Q v H->nI K x y H Q
theorem QE:Kf X (Fq X.K):=by
 intro value n pins s σ H x y v u Q I M O h G;obtain⟨p,xs,i,z,rfl,rfl,U,he,q⟩:=h;cases M;obtain⟨t,rfl⟩:=O;obtain⟨a8,r,pl,hz⟩:=I.list U;obtain⟨j,h1,h2,h3,h4,h5⟩:=lX he;obtain⟨w,J,B⟩:=r.get h2;have hl:=r.length;have hn:=kh;have fin:EP X pins σ Q w s:=⟨z,H,I,B,q⟩;by_cases h0:0<=i
 ·have F:i.toNat=j:=by rw[seqIndex_of h0 h5] at h1;exact Wo h1
  exact item_listR pl.isList h0 (by omega) (by rw[F];simpa using J) fin G
 ·have F:(i+(a8.toArray.size:Int)).toNat=j:=by rw[seqIndex_neg (by omega) h4] at h1;rw[xQ,<-hl];exact Wo h1
  exact subscriptTail_builtinR (x:=w) pl.isList.typeIs slot_list_getitem.lookup
   (wpAny_getItem_list_neg (Q:=fun r s'=>r=w/\EP X pins σ Q r s') pl.isList (by omega) (by rw[xQ]<;>omega) (by omega) (by rw[F];simpa using J) ⟨Z,fin⟩) G
theorem QO:Kf X (nI X.K):=by
 intro value n pins s σ H x y v u Q I F G h J;obtain⟨p,xs,i,z,rfl,rfl,M,O,q⟩:=h;cases F;obtain⟨t,rfl⟩:=G;obtain⟨a8,r,pl,hz⟩:=I.tuple M;obtain⟨j,h1,h2,h3,h4,h5⟩:=lX O;obtain⟨w,U,B⟩:=r.get h2;have hl:=r.length;have hn:=kh;have fin:EP X pins σ Q w s:=⟨z,H,I,B,q⟩
 exact subscriptTail_builtinR (x:=w) pl.typeIs slot_tuple_getitem.lookup
  (getItem_tuple (j:=j) (Q:=fun r s'=>r=w/\EP X pins σ Q r s') pl (by omega) (by omega) (by rw[xQ,<-hl];exact h1) (by simpa using U) ⟨Z,fin⟩) J
theorem jH(lo hi:Option Int)(n:Nat):(sliceBounds lo hi none n).1=((HT.eV n 0 lo:Nat):Int)/\(sliceBounds lo hi none n).2.1=((HT.eV n n hi:Nat):Int)/\(sliceBounds lo hi none n).2.2=1:=by
 refine⟨?_,?_,Z⟩
 ·cases lo with
  |none=>simp[sliceBounds,HT.eV]
  | some i=>
   simp only[sliceBounds,HT.eV,Vb,show(1:Int)>0 by decide,Wq];by_cases h:i<0
   ·simp only[h,Wq]<;>omega
   ·simp only[h,Wr]<;>omega
 ·cases hi with
  |none=>simp[sliceBounds,HT.eV]
  | some i=>
   simp only[sliceBounds,HT.eV,Vb,show(1:Int)>0 by decide,Wq];by_cases h:i<0
   ·simp only[h,Wq]<;>omega
   ·simp only[h,Wr]<;>omega
theorem yE(a8:List Value)(lo hi:Option Int):slicePick a8.toArray lo hi none=((a8.drop (HT.eV a8.length 0 lo)).take (HT.eV a8.length a8.length hi-HT.eV a8.length 0 lo)).toArray:=by obtain⟨h1,h2,j⟩:=jH lo hi a8.toArray.size;unfold slicePick;rw[h1,h2,j];simp only[sliceRange_one,pick_run,xQ]<;>rfl
inductive FK(K:xz)(x:V)(lo:Option Int)(hi:Option Int)(H:Hp)(Q:VK):Prop
 |mk (a:_) (xs:_):x=.ref a->a' K H a xs->(∀p,H p=none->Q (.ref p) (upd H p (.lst (X7 xs lo hi))))->FK K x lo hi H Q
theorem Ys:KQ X (FK X.K):=by intro pins s σ H x v J M lo hi O Q I z B pl F h;obtain⟨a,xs,rfl,G,q⟩:=h;cases z;obtain⟨a8,r,n,hz⟩:=I.list G;have j:=r.length;refine⟨"list",_,slot_list_getitem.lookup,n.isList.typeIs,?_⟩;refine wpAny_getItem_list_slice n.isList B pl F .none We ?_ (by rw[xQ]<;>omega);rw[yE,<-j];refine⟨.ref s.heap.objs.size,_,I.laid (t':=s.toks) (o:=.lst (X7 xs lo hi)) (fun b U q=>Wt _ q) (xM _) ?_,Z,q _ (I.bp.fresh (xM _))⟩;exact⟨xK (gz xs lo hi) hz,_,0,(r.drop (HT.eV xs.length 0 lo)).take (HT.eV xs.length xs.length hi-HT.eV xs.length 0 lo),Wv _ Z⟩
theorem Qp:qv X (.builtin "len") (fun xs H Q=>∃p ys,xs=[.ref p]/\(a' X.K H p ys\/bV X.K H p ys)/\Q (.int ys.length) H):=by
 intro pins s σ H xs us Q I r h;obtain⟨p,ys,rfl,n,q⟩:=h;obtain⟨u,rfl,B⟩:=vals1 r;cases B;have F:=kh;rcases n with n|n
 ·obtain⟨a8,z,pl,hz⟩:=I.list n;have j:=z.length;exact Calls.call_len_list pl.isList (by simp only[xQ]<;>omega) ⟨.int ys.length,H,I.tok _,⟨s.toks+1,by rw[xQ,j]⟩,q⟩
 ·obtain⟨a8,z,pl,hz⟩:=I.tuple n;have j:=z.length;exact len_tuple pl (by simp only[xQ]<;>omega) ⟨.int ys.length,H,I.tok _,⟨s.toks+1,by rw[xQ,j]⟩,q⟩
theorem Xx:qv X (.type "list") (fun xs H Q=>∃p ys,xs=[.ref p]/\(a' X.K H p ys\/bV X.K H p ys)/\∀l,H l=none->Q (.ref l) (upd H l (.lst ys))):=by
 intro pins s σ H xs us Q I r h;obtain⟨p,ys,rfl,B,q⟩:=h;obtain⟨u,rfl,J⟩:=vals1 r;cases J
 have fin:∀(a8:List Value),QH ys a8->ys.length<=sizeLine->∀(h':Heap)(j:Nat),(∀b o',s.heap.get? b=some o'->h'.get? b=some o')->
   h'.get? s.heap.objs.size=some { cls:=.type "list",dict:=none,data:=.seq a8.toArray j,slots:=#[] }->EP X pins σ Q (.ref s.heap.objs.size) { s with heap:=h' }:=fun a8 z hz h' j kp e=>
  ⟨.ref s.heap.objs.size,_,I.laid (t':=s.toks) kp (xM _) (show Zh X.prog X.w _ h' _ (.lst ys) from⟨hz,a8,j,z,e⟩),Z,q _ (I.bp.fresh (xM _))⟩
 rcases B with B|B
 ·obtain⟨a8,z,pl,hz⟩:=I.list B;have F:=z.length;obtain⟨o,G,hc,n,hd⟩:=pl.isList;exact call_list_seq p (.inl Z) G hc hd (fun h' j kp e=>fin a8 z hz h' j kp e) (by simp only[xQ]<;>omega)
 ·obtain⟨a8,z,pl,hz⟩:=I.tuple B;have F:=z.length;obtain⟨o,G,hc,n,hd⟩:=pl;exact call_list_seq p (.inr Z) G hc hd (fun h' j kp e=>fin a8 z hz h' j kp e) (by simp only[xQ]<;>omega)
def HU(K:xz)(T:String)(x:V)(H:Hp):Prop:=match x with
 |.str _=>T = "str"
 |.int _=>T = "int"
 | .ref p=>(T = "list" /\ ∃ xs,a' K H p xs)\/(T = "tuple" /\ ∃ o,K.lookup p=some o/\o.cls=.type "tuple" /\ o.dict=none)\/
   (T = "dict" /\ ((∃kvs,H p=some (.dK kvs))\/∃kvs,H p=some (.dT kvs)))\/(T = "set" /\ ∃S n,H p=some (.set S n))
 |_=>False
theorem tQ {pins:List (Addr×Obj)} {σ:St} {H:Hp} {s:Shared} {T:String} {x:V} {v:Value} (I:Inv X pins σ H s) (r:QR x v) (ty:HU X.K T x H) :
  s.TypeIs v T/\∀a,v=.ref a->∃B,s.heap.get? a=some B/\B.dict=none:=by
 cases x with
 | str z=>
  obtain⟨t,rfl⟩:=r;cases(show T = "str" from ty);exact⟨typeIs_str s z t,fun _ e=>nomatch e⟩
 | int i=>
  obtain⟨t,rfl⟩:=r;cases(show T = "int" from ty);exact⟨typeIs_int s i t,fun _ e=>nomatch e⟩
 | ref p=>
  cases r;rcases ty with⟨rfl,xs,F⟩|⟨rfl,o,hk,hc,hd⟩|⟨rfl,hk⟩|⟨rfl,S,n,hk⟩
  ·obtain⟨a8,_,pl,_⟩:=I.list F;refine⟨pl.isList.typeIs,fun a e=>?_⟩;cases e;obtain⟨o,n,e,c,hd,_⟩:=pl;exact⟨o,e,hd⟩
  ·refine⟨⟨o,I.eE p o hk,hc⟩,fun a e=>?_⟩;cases e;exact⟨o,I.eE _ o hk,hd⟩
  ·have z:∃o,s.heap.get? p=some o/\o.ExactDict:=by
    rcases hk with⟨kvs,hk⟩|⟨kvs,hk⟩
    ·obtain⟨_,_,_,_,o,_,_,e,ex,_⟩:=I.bp p _ hk;exact⟨o,e,ex⟩
    ·obtain⟨_,_,_,_,o,_,_,e,ex,_⟩:=I.bp p _ hk;exact⟨o,e,ex⟩
   obtain⟨o,e,ex⟩:=z;refine⟨⟨o,e,ex.1⟩,fun a j=>?_⟩;cases j;exact⟨o,e,ex.2.1⟩
  ·obtain⟨o,_,_,_,e,ex,_⟩:=I.bp p _ hk;refine⟨⟨o,e,ex.1⟩,fun a j=>?_⟩;cases j;exact⟨o,e,ex.2.1⟩
 |_=>exact False.elim ty
def Kt(K:xz)(T:String)(r:V->List V->Hp->VK->Prop)(to:TE):TE:=fun σ H Q=>to σ H fun x H1=>HU K T x H1/\r x [] H1 Q
def Lg(K:xz)(T:String)(r:V->List V->Hp->VK->Prop)(to:TE)(t:TA):TE:=fun σ H Q=>to σ H fun x H1=>HU K T x H1/\t σ H1 fun xs H2=>r x xs H2 Q
variable {o e:Expr} {es:List Expr} {to:TE} {t:TA} {name:Str} {apos d8:Pos} {T id:String} {r:V->List V->Hp->VK->Prop}
theorem Bk(G:PlainAttrs T)(slot:Slot T name id) (z:typeOf (.builtin id)=pure (.type "method_descriptor")) (J:KH X id r) (M:PE X o to)
  (j:attributeBase o name X.env (eval o X.env)=eval o X.env:=by rfl) (n:(apos.endLine==d8.line)=true:=by rfl):PE X (.Call (.Attribute o name apos) [] [] d8) (Kt X.K T r to):=by
 intro pins s σ H Q I h;refine wpAny_Call_method0_late j n (bx (M pins s σ H _ I h) fun v O ⟨x,H1,B,F,ty,U⟩=>?_);obtain⟨h1,h2⟩:=tQ B F ty;exact⟨T,id,G,slot,z,h1,h2,Calls.callWith_builtin Z (PySem.evalArgs_none (J pins O σ H1 x [] v [] Q B F .nil U))⟩
theorem Xd(O:PlainAttrs T)(slot:Slot T name id) (F:typeOf (.builtin id)=pure (.type "method_descriptor")) (U:KH X id r) (ho:PE X o to) (ha:PA X (e::es) t)
  (n:attributeBase o name X.env (eval o X.env)=eval o X.env:=by rfl)
  (B:((backTo d8 (starEach (e::es) X.env)).all (fun x=>!x.1)&&(backToKw d8 (keywordEach [] X.env)).all (fun x=>x.1.isSome)
   && decide ((e::es).length+([]:List Keyword).length+(if([]:List Keyword).isEmpty then 0 else 1)<30))=true:=by rfl)
  (z:(apos.endLine==d8.line)=true:=by rfl) (hs:starEach (e::es) X.env=(false,eval e X.env)::starEach es X.env:=by rfl) (j:(backTo d8 (starEach es X.env)).any (·.1)=false:=by rfl) :
  PE X (.Call (.Attribute o name apos) (e::es) [] d8) (Lg X.K T r to t):=by
 intro pins s σ H Q I h;refine wpAny_Call_method_late n B z Z (bx (ho pins s σ H _ I h) fun v s1 ⟨x,H1,G,J,ty,q1⟩=>?_);obtain⟨h1,h2⟩:=tQ G J ty;refine⟨T,id,O,slot,F,h1,h2,?_⟩;have M:=ha d8 pins s1 σ H1 _ G q1;rw[hs]at M ⊢;refine Calls.callWith_builtin (by show(false||(backTo d8 (starEach es X.env)).any (·.1))=false;rw[j]<;>rfl) (Calls.evalArgs_plain ?_);exact bx M fun us s2 ⟨vs,H2,I2,r2,q2⟩=>U pins s2 σ H2 x vs v us Q I2 J r2 q2
end
def Kw(X:Cx)(id:String)(r:V->List V->Hp->VK->Prop):Prop:=
 ∀(pins:List (Addr×Obj)) (s:Shared) (σ:St) (H:Hp) (x:V) (xs:List V) (v:Value) (us:List Value) (Q:VK),Inv X pins σ H s->QR x v->QH xs us->r x xs H Q->
  wpAny (model X.prog X.w) X.A (call (.builtin id) (v::us)) (EP X pins σ Q) X.xe s
theorem QH.one:∀{x:V} {us:List Value},QH [x] us->∃u,us=[u]/\QR x u
 |_,_,.cons r .nil=>⟨_,Z,r⟩
theorem QH.zero:∀{us:List Value},QH [] us->us=[]
 |_,.nil=>rfl
theorem QH.dropLast{xs:List V}{us:List Value}(h:QH xs us):QH xs.dropLast us.dropLast:=by
 induction h with
 |nil=>exact .nil
 | cons r t j=>
  cases t with
  |nil=>exact .nil
  |cons q t'=>exact .cons r j
theorem QH.eraseIdx:∀{xs:List V} {us:List Value} (i:Nat),QH xs us->QH (xs.eraseIdx i) (us.eraseIdx i)
 |_,_,_,.nil=>.nil
 |_,_,0,.cons _ t=>t
 |_,_,i+1,.cons r t=>.cons r (QH.eraseIdx i t)
theorem QH.reverse{xs:List V}{us:List Value}(h:QH xs us):QH xs.reverse us.reverse:=by
 induction h with
 |nil=>exact .nil
 |cons r t j=>rw[List.reverse_cons,List.reverse_cons];exact QH.append j (.cons r .nil)
theorem QH.rep{xs:List V}{us:List Value}(h:QH xs us):∀k:Nat,QH (xS k xs).flatten (xS k us).flatten
 |0=>.nil
 | k+1=>by
  rw[GP,GP,Gr,Gr];exact QH.append h (QH.rep h k)
theorem kU{α:Type}(l:List α):l.eraseIdx (l.length-1)=l.dropLast:=by
 induction l with
 |nil=>rfl
 | cons a r j=>
  cases r with
  |nil=>rfl
  | cons b r=>
   have e:(a::b::r).length-1=((b::r).length-1)+1:=by have h1:(a::b::r).length=r.length+2:=rfl;have h2:(b::r).length=r.length+1:=rfl;omega
   rw[e,List.eraseIdx_cons_succ,j];all_goals rfl
theorem jl(a8:List Value):∀(k:Nat)(acc:List Value),
  List.foldl (fun x1 j=>x1++j) acc.toArray (xS k a8.toArray)=(acc++(xS k a8).flatten).toArray
 |0,acc=>by simp
 | k+1,acc=>by
  have e:acc.toArray++a8.toArray=(acc++a8).toArray:=by simp
  have n:(acc++a8)++(xS k a8).flatten=acc++(xS (k+1) a8).flatten:=by rw[GP,Gr,GS]
  rw[<-n,<-jl a8 k (acc++a8),<-e,GP,UE]
section
variable {X:Cx} {pins:List (Addr×Obj)} {σ:St} {H:Hp} {s:Shared} {l b:Addr} {xs ys zs:List V}
theorem Inv.Av{a8 its':List Value}{n:Nat}{f:Array Value->Array Value}{t':Nat}(I:Inv X pins σ H s) (j:H l=some (.lst xs))
  (e:s.heap.get? l=some { cls:=.type "list",data:=.seq a8.toArray n }) (hf:f a8.toArray=its'.toArray) (z:QH ys its') (hz:ys.length<=sizeLine) :
  Inv X pins σ (upd H l (.lst ys)) { s with heap:=s.heap.update l (Obj.mapSeq f),toks:=t' }:=by
 have q:=PySem.IsL.update e f;rw[hf]at q;refine I.write (x:=l) (e:=l) (by rw[j];exact trivial) (.inl Z) (fun G u B F=>(Heap.get?_update_other s.heap (Obj.mapSeq f) (Ne.symm B)).trans F) ⟨_,q⟩ ?_;exact⟨hz,its',_,z,q⟩
theorem Inv.FN{a8:List Value}{t':Nat}(I:Inv X pins σ H s)(j:QH ys a8)(hz:ys.length<=sizeLine) :
  Inv X pins σ (upd H s.heap.objs.size (.lst ys)) { s with heap:=s.heap.push { cls:=.type "list",data:=.seq a8.toArray },toks:=t' }:=
 I.laid (fun _ _ q=>Wt _ q) (xM _) ⟨hz,a8,0,j,Wv _ Z⟩
theorem Inv.fresh(I:Inv X pins σ H s):H s.heap.objs.size=none:=I.bp.fresh (xM _)
theorem Inv.kF(I:Inv X pins σ H s) (j:H l=some (.lst xs)):xs.length<=sizeLine/\∃(a8:List Value)(n:Nat),QH xs a8/\xs.length=a8.length/\s.heap.get? l=some { cls:=.type "list",data:=.seq a8.toArray n }:=by obtain⟨z,a8,n,r,e⟩:=I.bp l _ j;exact⟨z,a8,n,r,r.length,e⟩
theorem gJ{n:Nat}(h:n<=sizeLine):Builtin.List.listTooLong n=false:=by unfold Builtin.List.listTooLong;exact Wl (by omega)
end
section
variable {X:Cx}
inductive lz(x:V)(vs:List V)(H:Hp)(Q:VK):Prop
 |mk (l:_) (xs:_) (y:_):x=.ref l->vs=[y]->H l=some (.lst xs)->xs.length<sizeLine->Q .bP (upd H l (.lst (xs++[y])))->lz x vs H Q
theorem ZD:Kw X "list.append" lz:=by intro pins s σ H x vs v us Q I B G h;obtain⟨l,xs,y,rfl,rfl,j,hz,q⟩:=h;cases B;obtain⟨u,rfl,J⟩:=G.one;obtain⟨z,a8,n,r,hl,e⟩:=I.kF j;refine call_meets F.slot_list_append ⟨_,e,Z⟩ F.entry_list_append (F.args_list_append_2 _ _) (PySem.list_append l a8.toArray n u (by rw[xQ];omega)) ⟨e,?_⟩;refine⟨.bP,_,I.Av (its':=a8++[u]) j e We (r.append (.cons J .nil)) ?_,Z,q⟩;rw[xF,G0];omega
inductive lQ(x:V)(vs:List V)(H:Hp)(Q:VK):Prop
 |mk (l:_) (b:_) (xs:_) (zs:_):x=.ref l->vs=[.ref b]->H l=some (.lst xs)->H b=some (.lst zs)->xs.length+zs.length<=sizeLine->Q .bP (upd H l (.lst (xs++zs)))->lQ x vs H Q
theorem ZR:Kw X "list.extend" lQ:=by
 intro pins s σ H x vs v us Q I J M h;obtain⟨l,b,xs,zs,rfl,rfl,G,O,hz,q⟩:=h;cases J;obtain⟨u,rfl,U⟩:=M.one;cases U;obtain⟨z,a8,n,r,hl,e⟩:=I.kF G;obtain⟨z2,j,n2,r2,aa,e2⟩:=I.kF O;have hsz:a8.toArray.size+j.toArray.size<=sizeLine:=by rw[xQ,xQ];omega
 have B:¬(!a8.toArray.isEmpty&&Builtin.List.listTooLong (a8.toArray.size+j.toArray.size))=true:=by rw[gJ hsz,Bool.and_false];exact xX
 refine call_meets F.slot_list_extend ⟨_,e,Z⟩ F.entry_list_extend (F.args_list_extend_2 _ _)
  (AutoSeq1.list_extend_list_list_0 l a8.toArray n b j.toArray n2 B (by rw[xQ];omega) (by omega)) ⟨e,e2,?_⟩
 refine⟨.bP,_,I.Av (its':=a8++j) G e We (r.append r2) ?_,Z,q⟩;rw[xF];omega
inductive DT(x:V)(vs:List V)(H:Hp)(Q:VK):Prop
 |mk (l:_) (xs:_) (y:_):x=.ref l->vs=[]->H l=some (.lst xs)->xs[xs.length-1]?=some y->Q y (upd H l (.lst xs.dropLast))->DT x vs H Q
theorem AH:Kw X "list.pop" DT:=by
 intro pins s σ H x vs v us Q I J M h;obtain⟨l,xs,y,rfl,rfl,G,O,q⟩:=h;cases J;have j:=M.zero;subst j;obtain⟨z,a8,n,r,hl,e⟩:=I.kF G;obtain⟨u,U,ru⟩:=r.get O
 have B:a8.toArray[a8.toArray.size-1]?=some u:=by show a8.toArray[a8.length-1]?=some u;rw[<-Array.getElem?_toList,<-hl];exact U
 refine call_meets F.slot_list_pop ⟨_,e,Z⟩ F.entry_list_pop (F.args_list_pop_1 _) (MeetsSeq.list_pop_last l a8.toArray n u B (by rw[xQ];omega)) ⟨e,?_⟩;refine⟨y,_,I.Av (its':=a8.dropLast) G e ?_ r.dropLast ?_,ru,q⟩
 ·show a8.toArray.eraseIdxIfInBounds (a8.toArray.size-1)=a8.dropLast.toArray;rw[xQ,List.eraseIdxIfInBounds_toArray,kU]
 ·rw[List.length_dropLast];omega
inductive FW(x:V)(y:V)(H:Hp)(Q:VK):Prop
 |mk (l:_) (b:_) (xs:_) (zs:_):x=.ref l->y=.ref b->H l=some (.lst xs)->H b=some (.lst zs)->xs.length+zs.length<=sizeLine->(∀p,H p=none->Q (.ref p) (upd H p (.lst (xs++zs))))->FW x y H Q
theorem Xj:eC X (binaryOp .Add) FW:=by
 intro pins s σ H x y v u Q I B F h;obtain⟨l,b,xs,zs,rfl,rfl,G,J,hz,q⟩:=h;cases B;cases F;obtain⟨z,a8,n,r,hl,e⟩:=I.kF G;obtain⟨z2,j,n2,M,O,U⟩:=I.kF J;refine PySem.P.add_list e U ?_ (by rw[xQ,xQ];omega);have ea:a8.toArray++j.toArray=(a8++j).toArray:=by simp
 rw[ea];exact⟨.ref _,_,I.FN (t':=s.toks) (r.append M) (by rw[xF];omega),Z,q _ I.fresh⟩
def I0:R2:=fun x y H Q=>∃l k xs,x=.ref l/\y=.int k/\H l=some (.lst xs)/\-(2 ^ 63)<=k/\k<2 ^ 63/\xs.length*k.toNat<=sizeLine/\
 ∀p,H p=none->Q (.ref p) (upd H p (.lst (xS k.toNat xs).flatten))
theorem len_rep{α:Type}(xs:List α)(k:Nat):(xS k xs).flatten.length=k*xs.length:=by
 induction k with
 |zero=>simp
 |succ k j=>rw[GP,Gr,xF,j,Nat.succ_mul,Vj]
theorem uc:eC X (binaryOp .Mult) I0:=by
 intro pins s σ H x y v u Q I rx ry h;obtain⟨l,k,xs,rfl,rfl,hH,h1,h2,hz,q⟩:=h;cases rx;obtain⟨t,rfl⟩:=ry;obtain⟨z,a8,n,r,hl,e⟩:=I.kF hH;have B:a8.toArray.size*k.toNat<=sizeLine:=by rw[xQ,<-hl];exact hz
 have G:¬a8.toArray.size*k.toNat>(2 ^ 63-1)/8:=by
  have:(sizeLine:Nat)<=(2 ^ 63-1)/8:=by decide
  omega
 have J:¬(!Builtin.List.listFitsIndex k)=true:=by rw[fitsIndex_both h1 h2];exact xX
 have j:¬Builtin.List.listTooLong (a8.toArray.size*k.toNat)=true:=by rw[gJ B];exact xX
 have M:List.foldl (fun x1 O=>x1++O) #[] (xS (if a8.toArray.isEmpty=true then 0 else k.toNat) a8.toArray)=(xS k.toNat a8).flatten.toArray:=by
  have f0:∀m:Nat,List.foldl (fun x1 O=>x1++O) #[] (xS m a8.toArray)=(xS m a8).flatten.toArray:=fun m=>by
   have:=jl a8 m [];rw[List.nil_append]at this;exact this
  rw[f0];cases a8 with
  |nil=>simp
  |cons a r'=>rw[Wh We]
 refine wpAny_binaryOp_repeat_ref (T := "list") (U := "int") Wa ⟨_,e,Z⟩ (fun s'=>typeIs_int s' k t) noFill_list_mul F.fills_int_mul F.slot_int_rmul repeat_list F.slot_int_index.lookup
  (call_meets F.slot_int_rmul (typeIs_int s k t) F.entry_int_rmul (F.args_int_rmul_2 _ _) (int___rmul___int_list k t l a8.toArray n)
   ⟨e,Z,⟨_,e,Z⟩,call_meets F.slot_list_mul ⟨_,e,Z⟩ F.entry_list_mul (F.args_list_mul_2 _ _) (AutoListH.list___mul___list_int_3 l a8.toArray n k t J G j) ⟨e,?_⟩⟩)
 rw[M];exact⟨.ref _,_,I.FN (t':=s.toks) (r.rep k.toNat) (by rw[len_rep,Nat.mul_comm];exact hz),Z,q _ I.fresh⟩
end
section
variable {prog:Program} {w:World} {A:Around} {E:Value->Shared->Prop} {s:Shared}
end
section
variable {X:Cx}
end
theorem QH.strs:∀{xs:List Str} {us:List Value},QH (xs.map V.str) us->StrsAre us xs
 | [],us,h=>by
  rw[Vh]at h;cases h;exact StrsAre.nil
 | x::xs,us,h=>by
  rw[xT]at h;cases h with
  | cons r t=>
   obtain⟨k,rfl⟩:=r;exact StrsAre.cons x k (QH.strs t)
theorem QH.KW:∀{bs:List Bool} {us:List Value},QH (bs.map V.bl) us->us=bs.map Value.bool
 | [],us,h=>by
  rw[Vh]at h;cases h;rfl
 | b::bs,us,h=>by
  rw[xT]at h;cases h with
  | cons r t=>
   cases r;rw[QH.KW t,xT]
theorem QH.HJ{a:Addr}{us:List Value}(r:QH [V.ref a] us):us=[Value.ref a]:=by
 cases r with
 | cons r t=>
  cases t;cases r;rfl
section
variable {prog:Program} {w:World} {A:Around} {E:Value->Shared->Prop} {s:Shared} {l:Addr} {a8:List Value} {ns:List Int} {Q:Value->Shared->Prop}
end
section
variable {X:Cx}
end
section
variable {X:Cx}
end
section
variable {X:Cx}
end
theorem tO{prog:Program}{w:World}{A:Around}{E:Value->Shared->Prop}{s:Shared}{l:Addr}{j:Array Value}{Q:Value->Shared->Prop}(hl:s.heap.IsList l j)
  (h:∀ n:Shared,n={ s with heap:=s.heap.push { cls:=.type "list_iterator",data:=.fields #[.ref l,.int 0 0] } }->
   (n.heap.IsListIter s.heap.objs.size l 0/\n.heap.IsList l j)->l≠s.heap.objs.size->Q (.ref s.heap.objs.size) n):wpAny (model prog w) A (pyIter (.ref l)) Q E s:=by
 have z:l<s.heap.objs.size:=by obtain⟨_,e,_⟩:=hl;exact Wu e
 exact wpAny_pyIter_list hl (h _ Z ⟨⟨_,Wv _ Z,Z,Z⟩,hl.push _⟩ (x3 z))
theorem gI{prog:Program}{w:World}{A:Around}{bs:List Bool}{a8:List Value}(e:a8=bs.map Value.bool) :
  TruthOf prog w A (fun i v=>a8.toArray[i]?=some v) (fun i=>bs.getD i false):=fun i v s Q E z B=>by
 have j:a8[i]?=some v:=by simpa using z
 rw[e,xJ]at j;obtain⟨b,F,rfl⟩:=Option.map_eq_some_iff.mp j;have G:bs.getD i false=b:=by rw[GA,F]<;>rfl
 have n:Q (bs.getD i false) s:=B;rw[G]at n;exact wpAny_truthy_bool n
theorem ju:∀bs:List Bool,(xN bs.length).any (fun i=>bs.getD i false)=bs.any id
 |[]=>rfl
 | b::bs=>by
  rw[xO,Qa9,VC,VN,VC,<-ju bs];all_goals rfl
section
variable {X:Cx}
inductive E'(K:xz)(vs:List V)(H:Hp)(Q:VK):Prop
 |mk (a:Addr) (bs:List Bool):vs=[V.ref a]->a' K H a (bs.map V.bl)->Q (.bl (bs.any id)) H->E' K vs H Q
theorem Aw(hc:X.calm=true):qv X (.builtin "any") (E' X.K):=by
 intro pins s σ H vs us Q I r h;obtain⟨a,bs,rfl,F,q⟩:=h;obtain⟨a8,G,hl,_⟩:=I.list F;rw[QH.HJ r];have z:=G.KW;refine call_any_walk (tO hl.isList fun O J st n=>?_);subst J;refine⟨_,_,_,_,_,_,_,Z,Walks.list (A:=X.A.in1) (I.ok.hd hc) _ a n a8.toArray,st,gI z,fun h' tk hk=>?_⟩;refine⟨.bl _,H,I.kept fun b o B=>hk b o (fun j=>?_) (Wt _ B),?_,q⟩
 ·rcases List.mem_cons.mp j with M | j
  ·exact Wm (M▸Wu B) (Uq _)
  ·cases j
 ·show Value.bool _=Value.bool _;rw[<-ju,z,xQ,xB]
end
mutual
inductive Dp(K:xz)(H:Hp):V->PyData->Prop
 |bP:Dp K H .bP .none
 |bl (b:Bool):Dp K H (.bl b) (.bool b)
 |int (i:Int):Dp K H (.int i) (.int i)
 |str (x:Str):Dp K H (.str x) (.str x)
 |lst {a:Addr} {xs:List V} {ds:List PyData}:a' K H a xs->qu K H xs ds->Dp K H (.ref a) (.list ds)
 |tup {a:Addr} {xs:List V} {ds:List PyData}:bV K H a xs->qu K H xs ds->Dp K H (.ref a) (.tuple ds)
inductive qu(K:xz)(H:Hp):List V->List PyData->Prop
 |nil:qu K H [] []
 |cons {v:V} {vs:List V} {d:PyData} {ds:List PyData}:Dp K H v d->qu K H vs ds->qu K H (v::vs) (d::ds)
end
section
variable {X:Cx} {pins:List (Addr×Obj)} {σ:St} {H:Hp} {s:Shared}
mutual
theorem Dp.reads(I:Inv X pins σ H s):∀(d:PyData)(v:V)(u:Value),Dp X.K H v d->QR v u->∃as,Reads s.heap u d as
 | .none,_,_,h,r=>by
  cases h;cases r;exact⟨_,Reads.none⟩
 | .bool b,_,_,h,r=>by
  cases h;cases r;exact⟨_,Reads.bool b⟩
 | .int i,_,_,h,r=>by
  cases h;obtain⟨t,rfl⟩:=r;exact⟨_,Reads.int i t⟩
 | .str x,_,_,h,r=>by
  cases h;obtain⟨t,rfl⟩:=r;exact⟨_,Reads.str x t⟩
 | .list ds,_,_,h,r=>by
  cases h with
  | lst j z=>
   cases r;obtain⟨a8,B,⟨o,n,F,hc,_,hd⟩,_⟩:=I.list j;obtain⟨as,hr⟩:=Dp.readsAll I ds _ a8 z B;exact⟨_,Reads.list F hc hd hr⟩
 | .tuple ds,_,_,h,r=>by
  cases h with
  | tup j z=>
   cases r;obtain⟨a8,B,⟨o,F,hc,n,hd⟩,_⟩:=I.tuple j;obtain⟨as,hr⟩:=Dp.readsAll I ds _ a8 z B;exact⟨_,Reads.tuple F hc hd hr⟩
 |.dict _,_,_,h,_=>by cases h
theorem Dp.readsAll(I:Inv X pins σ H s):∀(ds:List PyData)(vs:List V)(us:List Value),qu X.K H vs ds->QH vs us->∃as,ReadsAll s.heap us ds as
 | [],_,_,h,r=>by
  cases h;cases r;exact⟨_,ReadsAll.nil⟩
 | d::ds,_,_,h,r=>by
  cases h with
  | cons h1 h2=>
   cases r with
   | cons j n=>
    obtain⟨as,z⟩:=Dp.reads I d _ _ h1 j;obtain⟨bs,B⟩:=Dp.readsAll I ds _ _ h2 n;exact⟨_,ReadsAll.cons z B⟩
end
end
section
variable {X:Cx}
inductive Dx(K:xz)(x:V)(y:V)(H:Hp)(Q:VK):Prop
 |mk (d:_) (e:_):Dp K H x d->Dp K H y e->SeqAt.shaped d=true->SeqAt.shaped e=true->Q (.bl (PyData.eqv d e)) H->Dx K x y H Q
inductive Ex(K:xz)(x:V)(y:V)(H:Hp)(Q:VK):Prop
 |mk (d:_) (e:_):Dp K H x d->Dp K H y e->SeqAt.shaped d=true->SeqAt.shaped e=true->Q (.bl (!PyData.eqv d e)) H->Ex K x y H Q
theorem sE(j:X.A.units+64<cLine):eC X (compareOp .Eq) (Dx X.K):=by intro pins s σ H x y v u Q I n z h;obtain⟨d,e,hd,B,F,G,q⟩:=h;obtain⟨as,J⟩:=Dp.reads I d x v hd n;obtain⟨bs,M⟩:=Dp.reads I e y u B z;exact SeqAt.compareEq_shaped J M F G j ⟨.bl _,H,I,Z,q⟩
theorem jW(j:X.A.units+64<cLine):eC X (compareOp .NotEq) (Ex X.K):=by intro pins s σ H x y v u Q I n z h;obtain⟨d,e,hd,B,F,G,q⟩:=h;obtain⟨as,J⟩:=Dp.reads I d x v hd n;obtain⟨bs,M⟩:=Dp.reads I e y u B z;exact SeqAt.compareNe_shaped J M F G j ⟨.bl _,H,I,Z,q⟩
end
end L2
namespace L2
open PySem PySem.Spec PyProof.Rows
abbrev pS(h:Heap)(c:Addr)(v:Option Value):Prop:=h.IsCell c v
def IC(scope sc:Scope):Scope:=
 { scope with names:=scope.names.map fun(n,k)=>if(k==.free&&sc.kind==.function&&sc.names.lookup n==some .cell) then(n,.cell) else(n,k) }
def Q0 (cells:List (Str×Addr)):List (Str×NameKind)->List (Str×Addr)->List (Str×Addr)
 |[],acc=>acc
 |(n,k)::r,acc=>if k==.free then Q0 cells r ((n,(cells.lookup n).getD 0)::acc) else Q0 cells r acc
theorem ql(env:Env) (f:Str×NameKind->List (Str×Addr)->Sem (ForInStep (List (Str×Addr))))
  (hf:∀n k c,f (n,k) c=if k==.free then(do let a <- cellOf env n;pure (.yield ((n,a)::c))) else pure (.yield c)) :
  ∀(names:List (Str×NameKind)) (acc:List (Str×Addr)),(∀y∈names,y.2=.free->∃c,env.cells.lookup y.1=some c)->forIn names acc f=pure (Q0 env.cells names acc)
 |[],acc,_=>by rw[List.forIn_nil];rfl
 | (n,k)::r,acc,h=>by
  rw[List.forIn_cons,hf];have j:=fun acc=>ql env f hf r acc fun y z=>h y (xR _ z);unfold Q0;by_cases hk:(k==NameKind.free)=true
  ·rw[Wi hk,Wi hk];obtain⟨c,hc⟩:=h (n,k) Gj (by simpa using hk);have e:cellOf env n=pure c:=by unfold cellOf;rw[hc]
   rw[e];have B:(env.cells.lookup n).getD 0=c:=by rw[hc];rfl
   rw[B];exact j _
  ·rw[Wh hk,Wh hk];exact j _
theorem i9{scope:Scope}{env:Env}(h:∀y∈scope.names,y.2=.free->∃c,env.cells.lookup y.1=some c):closureFor scope env=pure (Q0 env.cells scope.names []):=by simp only[closureFor];rw[ql env _ (fun n k c=>rfl) scope.names [] h];rfl
theorem JT{α:Type}:∀{l:List (Str×α)} {n:Str} {c:α},(n,c)∈l->∃j,l.lookup n=some j
 | (k,v)::r,n,c,h=>by
  rw[UP];cases z:n==k with
  |true=>exact⟨_,Z⟩
  | false=>
   rcases List.mem_cons.mp h with e|h
   ·cases e;simp at z
   ·exact JT h
theorem X2 {cells:List (Str×Addr)}:∀{names:List (Str×NameKind)} {acc:List (Str×Addr)} {n:Str} {c:Addr},(n,c)∈Q0 cells names acc->(n,c)∈acc\/((n,.free)∈names/\c=(cells.lookup n).getD 0)
 |[],_,_,_,h=>.inl h
 | (m,k)::r,acc,n,c,h=>by
  unfold Q0 at h;split at h
  ·rename_i hk;have hk:k=.free:=by simpa using hk
   rcases X2 h with h|⟨h1,h2⟩
   ·rcases List.mem_cons.mp h with e | h
    ·cases e;exact .inr ⟨hk▸Gj,Z⟩
    ·exact .inl h
   ·exact .inr ⟨xR _ h1,h2⟩
  ·rcases X2 h with h | ⟨h1,h2⟩
   ·exact .inl h
   ·exact .inr ⟨xR _ h1,h2⟩
theorem Jf {cells:List (Str×Addr)}:∀{names:List (Str×NameKind)} {acc:List (Str×Addr)} {p:Str×Addr},p∈acc->p∈Q0 cells names acc
 |[],_,_,h=>h
 | (m,k)::r,acc,p,h=>by
  unfold Q0;split
  ·exact Jf (xR _ h)
  ·exact Jf h
theorem Je {cells:List (Str×Addr)}:∀{names:List (Str×NameKind)} {acc:List (Str×Addr)} {n:Str},(n,.free)∈names->(n,(cells.lookup n).getD 0)∈Q0 cells names acc
 | (m,k)::r,acc,n,h=>by
  unfold Q0;rcases List.mem_cons.mp h with e|h
  ·cases e;exact Jf Gj
  ·split
   ·exact Je h
   ·exact Je h
theorem Yo:∀{names:List (Str×NameKind)} {h:Heap} {acc:List (Str×Addr)} {x:Str} {c:Addr},(x,c)∈cellsFrom h.objs.size names acc->
  (x,c)∈acc\/((x,.cell)∈names/\h.objs.size<=c/\pS (pushCells h names) c none)
 |[],_,_,_,_,h=>.inl h
 | (n,k)::r,h,acc,x,c,j=>by
  unfold cellsFrom at j;unfold pushCells;split at j
  ·rename_i hk;rw[Wi hk];have hk:k=.cell:=by simpa using hk
   rw[<-Ww h { cls:=.type "cell",data:=.cell none }]at j;rcases Yo j with j|⟨h1,h2,z⟩
   ·rcases List.mem_cons.mp j with e | j
    ·cases e;exact .inr ⟨hk▸Gj,xM _,_,pushCells_keeps r _ _ _ (Wv _ Z),Z⟩
    ·exact .inl j
   ·rw[Ww]at h2;exact .inr ⟨xR _ h1,VS h2,z⟩
  ·rename_i hk;rw[Wh hk];rcases Yo j with j | ⟨h1,h2,z⟩
   ·exact .inl j
   ·exact .inr ⟨xR _ h1,h2,z⟩
theorem Jy:∀{names:List (Str×NameKind)} {n:Nat} {acc:List (Str×Addr)} {p:Str×Addr},p∈acc->p∈cellsFrom n names acc
 |[],_,_,_,h=>h
 | (m,k)::r,n,acc,p,h=>by
  unfold cellsFrom;split
  ·exact Jy (xR _ h)
  ·exact Jy h
theorem qI:∀{names:List (Str×NameKind)} {n:Nat} {acc:List (Str×Addr)} {x:Str},(x,.cell)∈names->∃c,(x,c)∈cellsFrom n names acc
 | (m,k)::r,n,acc,x,h=>by
  unfold cellsFrom;rcases List.mem_cons.mp h with e|h
  ·cases e;exact⟨n,Jy Gj⟩
  ·split
   ·exact qI h
   ·exact qI h
theorem qH:∀{names:List (Str×NameKind)} {h:Heap} {acc:List (Str×Addr)} {x y:Str} {c:Addr},(∀p∈acc,p.2<h.objs.size)->(∀x y c,(x,c)∈acc->(y,c)∈acc->x=y)->
  (x,c)∈cellsFrom h.objs.size names acc->(y,c)∈cellsFrom h.objs.size names acc->x=y
 |[],_,_,_,_,_,_,hi,h1,h2=>hi _ _ _ h1 h2
 | (n,k)::r,h,acc,x,y,c,hl,hi,h1,h2=>by
  unfold cellsFrom at h1 h2;split at h1
  ·rename_i hk;rw[Wi hk] at h2;rw[<-Ww h { cls:=.type "cell",data:=.cell none }] at h1 h2;refine qH (h:=h.push _) (fun p j=>?_) (fun x y c a b=>?_) h1 h2
   ·rw[Ww];rcases List.mem_cons.mp j with rfl | j
    ·exact Qa7 _
    ·exact Vr (hl p j)
   ·rcases List.mem_cons.mp a with e | a <;> rcases List.mem_cons.mp b with z | b
    ·cases e;cases z;rfl
    ·cases e;exact Wm (hl _ b) (Uq _)
    ·cases z;exact Wm (hl _ a) (Uq _)
    ·exact hi _ _ _ a b
  ·rename_i hk;rw[Wh hk]at h2;exact qH hl hi h1 h2
theorem fE{M:Model}{A:Around}{E:Value->Shared->Prop}{s:Shared}{scope:Scope}{B:Addr} {j:List (Str×Addr)} {F:Str} {G:Option Addr} {I:Value} {around:Env} {z:Addr} {Q:Env->Shared->Prop}
  (h:Q (newEnv scope s.heap.objs.size B (cellsFrom (s.heap.objs.size+1) scope.names j) F G I (some around) z)
   { s with heap:=pushCells (s.heap.push { cls:=.type "dict",data:=.dict #[] }) scope.names }) :
  wpAny M A (newFunctionEnv scope B j [] F G I (some around) z) Q E s:=by
 simp only[newFunctionEnv,Option.isSome_some,Wq];refine wpAny_bind (wpAny_alloc ?_);refine wpAny_bind (wpAny_layCells _ (fun n k c=>rfl) scope.names j _ _ ?_);rw[show({ s with heap:=s.heap.push { cls:=.type "dict",data:=.dict #[] } }:Shared).heap.objs.size=s.heap.objs.size+1 from Ww ..];rw[List.forIn_nil];exact wpAny_bind (wpAny_pure (wpAny_pure h))
theorem Y7{sc:Scope}:∀{names:List (Str×NameKind)} {x:Str} {k:NameKind},
  (names.map fun(n,k)=>if(k==NameKind.free&&sc.kind==.function&&sc.names.lookup n==some .cell) then(n,NameKind.cell) else(n,k)).lookup x=some k->
  ∃B,names.lookup x=some B/\(k=B\/(B=.free/\k=.cell))
 |[],_,_,h=>by simp at h
 | (n,z)::r,x,k,h=>by
  have F:=@Y7 sc r x k;have h':Vs x ((if(z==NameKind.free&&sc.kind==.function&&sc.names.lookup n==some .cell)=true then(n,NameKind.cell) else(n,z))::(r.map _))=some k:=h;cases j:x==n with
  | true=>
   simp only[UP,j];by_cases hc:(z==NameKind.free&&sc.kind==.function&&sc.names.lookup n==some .cell)=true
   ·rw[Wi hc]at h';simp only[UP,j]at h';cases h';simp only[Gf,beq_iff_eq]at hc;exact⟨z,Z,.inr ⟨hc.1.1,Z⟩⟩
   ·rw[Wh hc]at h';simp only[UP,j]at h';cases h';exact⟨_,Z,.inl Z⟩
  | false=>
   simp only[UP,j];by_cases hc:(z==NameKind.free&&sc.kind==.function&&sc.names.lookup n==some .cell)=true
   ·rw[Wi hc]at h';simp only[UP,j]at h';exact F h'
   ·rw[Wh hc]at h';simp only[UP,j]at h';exact F h'
structure fJ(N:List Str)(sc scope:Scope) (own:List (Str×Nat)):Prop where
 kind:scope.kind=.function
 uniq:∀y∈scope.names,scope.names.lookup y.1=some y.2
 ix:∀p∈own,N[p.2]?=some p.1
 free:∀y∈scope.names,y.2=.free->sc.names.lookup y.1=some .cell\/sc.names.lookup y.1=some .free
 own:∀y∈scope.names,y.2=.local\/y.2=.cell->y.1∈own.map (·.1)\/y.1∉N
def ZB(σ:St):List Nat->St
 |[]=>σ
 |v::vs=>(ZB σ vs).set v none
theorem YM(σ:St):∀vs:List Nat,(ZB σ vs).length=σ.length
 |[]=>rfl
 |v::vs=>by unfold ZB;rw[Qbl,YM σ vs]
theorem qw{σ:St}{i:Nat}{x:V}:∀{vs:List Nat},(ZB σ vs)[i]?=some (some x)->σ[i]?=some (some x)/\i∉vs
 |[],h=>⟨h,by simp⟩
 | v::vs,h=>by
  unfold ZB at h;by_cases hi:v=i
  ·subst hi;by_cases j:v<(ZB σ vs).length
   ·rw[Ur j]at h;cases h
   ·rw[Ud (by simpa using j)]at h;cases h
  ·rw[Um hi]at h;obtain⟨h1,h2⟩:=qw h;exact⟨h1,by simp only[GY,not_or];exact⟨fun e=>hi e.symm,h2⟩⟩
abbrev Cx.eR(X:Cx)(s:Shared)(H:Hp)(scope:Scope)(j:Env)(n:List Addr):Cx:={ X with eG:=s,H_0:=H,env:=j,outer:=X.stack,ex:=n,fn:=fun x=>scope.names.lookup x==some .cell,pn:=[],xe:=fun _ _=>False }
section
variable {X:Cx} {pins:List (Addr×Obj)} {σ:St} {H:Hp} {s:Shared}
theorem fz{scope:Scope} {own:List (Str×Nat)} {fp:List Addr} (I:Inv X pins σ H s) (ok:fJ X.N X.env.scope scope own) (hN:X.N.Nodup) (F:∀b∈fp,zh X pins H b/\b<s.heap.objs.size) :
  Inv (X.eR s H scope (compEnvC scope (cellsFrom (s.heap.objs.size+1) scope.names (Q0 X.env.cells scope.names [])) s.heap.objs.size X.env) fp) [] (ZB σ (own.map (·.2))) H { s with heap:=pushCells (s.heap.push { cls:=.type "dict",data:=.dict #[] }) scope.names }:=by
 have aa:∀y∈scope.names,y.2=.free->∃c,X.env.cells.lookup y.1=some c:=fun y O e=>by
  rcases ok.free y O e with k|k
  ·exact I.ok.has _ (.inl k)
  ·exact I.ok.has _ (.inr k)
 generalize j:compEnvC scope (cellsFrom (s.heap.objs.size+1) scope.names (Q0 X.env.cells scope.names [])) s.heap.objs.size X.env=cenv;have kp:∀b o,s.heap.get? b=some o->(pushCells (s.heap.push { cls:=.type "dict",data:=.dict #[] }) scope.names).get? b=some o:=fun b o e=>pushCells_keeps _ _ _ _ (Wt _ e);have hL:cenv.locals=s.heap.objs.size:=by rw[<-j];rfl
 have B:cenv.cells=cellsFrom (s.heap.objs.size+1) scope.names (Q0 X.env.cells scope.names []):=by rw[<-j];rfl
 have ab:cenv.scope=IC scope X.env.scope:=by rw[<-j];rfl
 rw[<-Ww s.heap { cls:=.type "dict",data:=.dict #[] }]at B
 have cm:∀{y c},(y,c)∈Q0 X.env.cells scope.names []->X.env.cells.lookup y=some c/\c<s.heap.objs.size:=fun {y c} G=>by
  rcases X2 G with G|⟨h1,rfl⟩
  ·cases G
  ·obtain⟨c,hc⟩:=aa _ h1 rfl;rw[hc];obtain⟨w,z⟩:=I.cell _ _ hc;exact⟨Z,z.lt⟩
 have mem:∀{y c},cenv.cells.lookup y=some c->(X.env.cells.lookup y=some c/\c<s.heap.objs.size)\/(s.heap.objs.size+1<=c/\pS (pushCells (s.heap.push { cls:=.type "dict",data:=.dict #[] }) scope.names) c none):=fun {y c} e=>by
  rw[B]at e;rcases Yo (Wy e) with G|⟨_,h2,h3⟩
  ·exact .inl (cm G)
  ·rw[Ww]at h2;exact .inr ⟨h2,h3⟩
 have look:∀{y},scope.names.lookup y=some .free->∃c,cenv.cells.lookup y=some c/\X.env.cells.lookup y=some c:=fun {y} hl=>by
  have O:(y,NameKind.free)∈scope.names:=Wy hl;obtain⟨c',J⟩:=JT (Jy (names:=scope.names) (n:=(s.heap.push { cls:=.type "dict",data:=.dict #[] }).objs.size) (Je (cells:=X.env.cells) (acc:=[]) O));rw[<-B]at J;refine⟨c',J,?_⟩;rw[B]at J;rcases Yo (Wy J) with G|⟨h1,_,_⟩
  ·exact(cm G).1
  ·have:=ok.uniq _ h1;rw[hl]at this;cases this
 have ag:(X.eR s H scope cenv fp).Ok:=by
  refine⟨I.ok.mod,by show cenv.scope.kind=_;rw[ab];exact ok.kind,by show cenv.globals=_;rw[<-j];exact I.ok.glob,by show cenv.builtins=_;rw[<-j];exact I.ok.blt,by show s.heap.objs.size<=cenv.locals;rw[hL];exact xM _,
   fun y z c e1 e2=>?_,fun y O=>?_,fun y c z e=>?_,I.ok.hd,I.ok.frames,.inl Z,fun b hb=>⟨?_,fun y c e z=>?_⟩,I.bs,xK I.ok.bsz I.sz,fun b o e hb=>?_,fun b hb z=>?_,I.stack,I.mD⟩
  ·have e1:cenv.cells.lookup y=some c:=e1;have e2:cenv.cells.lookup z=some c:=e2;rw[B]at e1 e2;refine qH (fun p hp=>?_) (fun y z c a b=>I.ok.inj y z c (cm a).1 (cm b).1) (Wy e1) (Wy e2);rw[Ww];exact Vr (cm (y:=p.1) (c:=p.2) hp).2
  ·show ∃ c,cenv.cells.lookup y=some c
   have key:∀k,cenv.kindOf y=some k->(k=.cell\/k=.free)->∃c,cenv.cells.lookup y=some c:=fun k hk ac=>by
    unfold Env.kindOf at hk;rw[ab]at hk;obtain⟨k',e,r⟩:=Y7 hk
    have:k'=.cell\/k'=.free:=by
     rcases r with rfl|⟨rfl,_⟩
     ·exact ac
     ·exact .inr rfl
    rcases this with rfl|rfl
    ·obtain⟨c,G⟩:=qI (n:=(s.heap.push { cls:=.type "dict",data:=.dict #[] }).objs.size) (acc:=Q0 X.env.cells scope.names []) (Wy e);obtain⟨c',J⟩:=JT G;exact⟨c',by rw[B];exact J⟩
    ·obtain⟨c,h1,_⟩:=look e;exact⟨c,h1⟩
   rcases O with O|O
   ·exact key _ O (.inl Z)
   ·exact key _ O (.inr Z)
  ·have z:(scope.names.lookup y==some NameKind.cell)=true:=z;have z:scope.names.lookup y=some .cell:=by simpa using z
   have e:cenv.cells.lookup y=some c:=e;rw[B]at e;rcases Yo (Wy e) with G|⟨_,h2,_⟩
   ·rcases X2 G with G | ⟨h1,_⟩
    ·cases G
    ·have q:=ok.uniq _ h1;rw[z]at q;cases q
   ·rw[Ww]at h2;exact VS h2
  ·show b≠cenv.locals;rw[hL];exact x3 (F b hb).2
  ·have e:cenv.cells.lookup y=some c:=e;rcases mem e with ⟨h1,_⟩ | ⟨h1,_⟩
   ·exact(F b hb).1.2.2.2.2.1 y c h1 z
   ·have h2:s.heap.objs.size+1<=b:=by rw[<-z];exact h1
    exact Wm (xW (F b hb).2 (VS h2)) (Uq _)
  ·rcases (F b hb).1.2.2.2.1 with z | z
   ·exact I.ok.noex b o e z
   ·exact Wm (xW (Wu e) (xK I.ok.bsz z)) (Uq _)
  ·rcases List.mem_cons.mp (I.i5 b z) with z | z
   ·exact(F b hb).1.2.1 z
   ·exact(F b hb).1.2.2.1 z
 refine⟨ag,Z,I.bare,Un.kept kp,⟨fun _=>none,?_,fun i y av e1 e2 M=>?_⟩,fun y c e=>?_,?_,fun y c e=>?_,fun p hp=>?_,I.bp.kept kp,by rw[YM];exact I.len⟩
 ·show Heap.Ns _ cenv.locals _;rw[hL];exact Heap.Ns.keeps (Heap.Ns.new ..) fun b o e=>pushCells_keeps _ _ _ _ e
 ·obtain⟨e2,ah⟩:=qw e2
  have U:scope.names.lookup y=some .free/\(cenv.kindOf y=some .cell\/cenv.kindOf y=some .free):=by
   have key:∀k,cenv.scope.names.lookup y=some k->k=.local\/k=.cell\/k=.free->scope.names.lookup y=some .free/\(cenv.kindOf y=some .cell\/cenv.kindOf y=some .free):=fun k hk ac=>by
    have ad:=hk;rw[ab]at hk;obtain⟨k',e,r⟩:=Y7 hk
    have no:¬(k'=.local\/k'=.cell):=fun hh=>by
     rcases ok.own _ (Wy e) hh with J|J
     ·obtain⟨p,hp,ai⟩:=List.mem_map.mp J;have M:=ok.ix p hp;have:p.1=y:=ai;rw[this]at M;exact ah (List.mem_map.mpr ⟨p,hp,yc hN M e1⟩)
     ·exact J (xZ e1)
    rcases r with rfl|⟨rfl,rfl⟩
    ·rcases ac with rfl | rfl | rfl
     ·exact Wm (.inl Z) no
     ·exact Wm (.inr Z) no
     ·exact⟨e,.inr ad⟩
    ·exact⟨e,.inl ad⟩
   have M:vO cenv.scope y:=M;rcases M with M|M|M
   ·exact key _ M (.inl Z)
   ·exact key _ M (.inr (.inl Z))
   ·exact key _ M (.inr (.inr Z))
  obtain⟨m,hn,hl⟩:=I.loc;have af:vO X.env.scope y:=(ok.free _ (Wy U.1) Z).elim (fun k=>.inr (.inl k)) (fun k=>.inr (.inr k));obtain⟨w,r,q⟩:=hl i y av e1 e2 af;refine⟨w,r,.inr ⟨U.2,?_⟩⟩;obtain⟨c,h1,h2⟩:=look U.1;rcases q with⟨k,_⟩|⟨_,c',J,z⟩
  ·have k:X.env.scope.names.lookup y=some .local:=k;rcases ok.free _ (Wy U.1) rfl with k' | k'<;>rw[show X.env.scope.names.lookup y=_ from k']at k<;>cases k
  ·rw[h2]at J;cases J;exact⟨c,h1,z.keeps kp⟩
 ·have e:cenv.cells.lookup y=some c:=e;rcases mem e with ⟨h1,_⟩ | ⟨_,z⟩
  ·obtain⟨w,z⟩:=I.cell y c h1;exact⟨w,z.keeps kp⟩
  ·exact⟨_,z⟩
 ·show H cenv.locals=none;rw[hL];exact I.bp.fresh (xM _)
 ·have e:cenv.cells.lookup y=some c:=e;rcases mem e with ⟨h1,_⟩ | ⟨h1,_⟩
  ·exact I.freeC y c h1
  ·exact I.bp.fresh (VS h1)
 ·exact Wm (show p∈([]:List (Addr×Obj))++[] from hp) We
theorem AU{E:Value->Shared->Prop}{D:Addr}{xs:List V}{y:V}{v:Value}{Q:Value->Shared->Prop}(I:Inv X pins σ H s) (z:H D=some (.lst xs)) (hz:xs.length<sizeLine) (r:QR y v)
  (h:∀s',Inv X pins σ (upd H D (.lst (xs++[y]))) s'->Q .none s'):wpAny (model X.prog X.w) X.A (call (.builtin "list.append") [.ref D,v]) Q E s:=by
 obtain⟨F,a8,n,B,e⟩:=I.bp D _ z;have hl:=B.length;refine append_at (hsz:=by rw[xQ];omega) e fun h' G j=>?_;refine h { s with heap:=h' } (I.write (t':=s.toks) (by rw[z];trivial) (.inl rfl) (fun b u J q=>(G.2 b J).trans q) ⟨_,j⟩ ⟨by rw[xF];exact hz,a8++[v],n+1,B.append (.cons r .nil),?_⟩);rw[j];simp
def Dm(X:Cx)(j:List Expr)(t:TT):Prop:=
 ∀(pins:List (Addr×Obj)) (s:Shared) (σ:St) (H:Hp) (Q:Bool->Hp->Prop),Inv X pins σ H s->t σ H Q->
  wpAny (model X.prog X.w) X.A (forIn j true fun c r=>if r=true then do let ok <- isTrue c X.env (eval c X.env);pure (ForInStep.yield ok) else pure (ForInStep.yield r)) (TP X pins σ Q) X.xe s
def HF:TT:=fun _ H Q=>Q true H
theorem Jm:Dm X [] HF:=fun _ _ _ H _ I h=>wpAny_tests_nil ⟨H,I,h⟩
theorem zm{c:Expr}{t:TT}(h:PT X c t):Dm X [c] t:=fun pins s σ H Q I hw=>wpAny_tests_one (h pins s σ H Q I hw)
end
theorem nB{α:Type}{t:Sem α}{Q j:α->Shared->Prop}{M:Model}{A:Around}{E:Value->Shared->Prop}{s:Shared} (h:wpAny M A t Q (fun _ _=>False) s) (n:∀a s,Q a s->j a s):wpAny M A t j E s:=wpAny_mono h n fun _ _ z=>False.elim z
theorem xq{prog:Program}{w:World}{A:Around}{R:Result->Shared->Prop}{s:Shared}{elt j z:Expr}{B:List Expr}{scope:Scope}{pos:Pos}{it acc:Value}{env:Env}(I:Nat->Shared->Prop)
  (turn:∀ n s,I n s->wpAny (model prog w) A (pyNext it) (fun r G=>match r with
   |none=>R (.ok .next) G
   | some v=>wpAny (model prog w) A (letOwnedTupleGo j it v) (fun _ F=>wpAny (model prog w) A (assign j env v) (fun _ O=>
     wpAny (model prog w) A (forIn B true fun c r=>if r=true then do let ok <- isTrue c env (eval c env);pure (ForInStep.yield ok) else pure (ForInStep.yield r)) (fun ok J=>
      if ok=true then wpAny (model prog w) A (eval elt env) (fun x U=>
       wpAny (model prog w) A (call (.builtin "list.append") [acc,x]) (fun _ FV=>∃m,m<n/\I m FV) (notedBy (model prog w) A env fun e s'=>R (.error e) s') U) (notedBy (model prog w) A env fun e s'=>R (.error e) s') J
      else ∃m,m<n/\I m J) (notedBy (model prog w) A env fun e s'=>R (.error e) s') O) (notedBy (model prog w) A env fun e s'=>R (.error e) s') F) (notedBy (model prog w) A env fun e s'=>R (.error e) s') G) (notedBy (model prog w) A env fun e s'=>R (.error e) s') s)
  (n:Nat) (h:I n s) :
  codeAny (model prog w) A (.compLoop (.ListComp elt [⟨j,z,B,0⟩] scope pos) 0 it acc env) R s:=by
 refine codeAny_loop Z I (fun n s hI=>?_) n h;show wpAny _ A ((compTurn (.ListComp elt [⟨j,z,B,0⟩] scope pos) 0 it acc env).onRaise (fun x=>do noteFrame x env;theTreesLotGoes x)) _ _ s;refine wpAny_noted ?_;rw[compTurn_list];refine wpAny_bind (wpAny_standAt (wpAny_bind (wpAny_mono (turn n s hI) (fun r G vf=>?_) fun _ _ h'=>h')));cases r with
 |none=>exact wpAny_pure vf
 | some v=>
  refine wpAny_bind (wpAny_mono vf (fun _ F M=>?_) fun _ _ h'=>h');refine wpAny_bind (wpAny_mono M (fun _ O Ky=>wpAny_bind (wpAny_mono Ky (fun ok J Ej=>?_) fun _ _ h'=>h')) fun _ _ h'=>h');cases ok with
  |false=>exact wpAny_pure ⟨Z,Ej⟩
  | true=>
   exact wpAny_bind (wpAny_bind (wpAny_mono Ej (fun x U Hu=>wpAny_bind (wpAny_mono Hu (fun _ FV IG=>wpAny_pure (wpAny_pure ⟨Z,IG⟩)) fun _ _ h'=>h')) fun _ _ h'=>h'))
section
variable {X:Cx}
def F'(G:TI)(g:TG)(tt:TT)(te:TE)(vs:List Nat):TE:=fun σ H Q=>G σ H fun J H1=>∀D,H1 D=none->∃W:Nat->Nat->Hp->Prop,(∃m,W 0 m (upd H1 D (.lst [])))/\∀i m H,W i m H->
 (J.stop i H/\Q (.ref D) H)\/(J.go i H/\∃ j:Hp->Prop,(∀ H',j H'->∃ z,z<m/\W (i+1) z H')/\∀ x H',J.yld i H x H'->g x (ZB σ vs) H' fun n H2=>ZB n vs=ZB σ vs/\tt n H2 fun b B=>
  if b=true then te n B fun y F=>∃acc,F D=some (.lst acc)/\acc.length<sizeLine/\j (upd F D (.lst (acc++[y]))) else j B)
theorem mv {pins:List (Addr×Obj)} {s:Shared} {σ:St} {H:Hp} {Q:VK} {elt tg G:Expr} {O:List Expr} {scope:Scope} {own:List (Str×Nat)} {pos pos':Pos} {wi:TI} {g:TG} {tt:TT} {te:TE} {use:Option (Value->Sem Unit)} {Qf:Value->Shared->Prop}
  (hc:X.calm=true) (hN:X.N.Nodup) (I:Inv X pins σ H s) (hi:PI X tg G wi) (ok:fJ X.N X.env.scope scope own)
  (hg:∀(s:Shared) (H:Hp) (C:Addr) (cl:List (Str×Addr)) (B:List Addr),PG (X.eR s H scope (compEnvC scope cl C X.env) B) tg g) (ht:∀(s:Shared) (H:Hp) (C:Addr) (cl:List (Str×Addr)) (B:List Addr),Dm (X.eR s H scope (compEnvC scope cl C X.env) B) O tt)
  (he:∀(s:Shared) (H:Hp) (C:Addr) (cl:List (Str×Addr)) (B:List Addr),PE (X.eR s H scope (compEnvC scope cl C X.env) B) elt te) (hs:∀x,foldedSetIterable G X.env x=pure x)
  (h:F' wi g tt te (own.map (·.2)) σ H Q)
  (aq:∀D C s' m H',Inv X pins σ H' s'->Q (.ref D) H'->s'.heap.Ns C m->zh X pins H' C->compPost (model X.prog X.w) X.A X.xe use Qf (.ref D) C (.ok .next) s') :
  wpAny (model X.prog X.w) X.A (comprehension (.ListComp elt [⟨tg,G,O,0⟩] scope pos) scope X.env pos' (newList []) false (eval G X.env) use) Qf X.xe s:=by
 have ab:∀y∈scope.names,y.2=.free->∃c,X.env.cells.lookup y.1=some c:=fun y hy e=>by
  rcases ok.free y hy e with k|k
  ·exact I.ok.has _ (.inl k)
  ·exact I.ok.has _ (.inr k)
 refine wpAny_comprehension_free (use:=use) Z hs (i9 ab) ok.kind (fun y hy e=>by rw[ok.uniq y hy,e])
  (bx (hi pins s σ H _ I h) fun xv s1 hx=>bx hx fun aD s2 h2=>?_)
 obtain⟨it,B,tn,J,H2,e,I2,T,ad,f2,q⟩:=h2;subst e;refine wpAny_newObj_type (fE ?_) (by show 0<=sizeLine;decide);generalize hD:s2.heap.objs.size=D;have au:H2 D=none:=I2.bp.fresh (Qak hD);obtain⟨W,⟨m0,w0⟩,turn⟩:=q D au;generalize af:({ s2 with heap:=s2.heap.push { cls:=.type "list",data:=.seq ([]:List Value).toArray } }:Shared)=s3
 have I3:Inv X pins σ (upd H2 D (.lst [])) s3:=by rw[<-af];refine I2.laid (t':=s2.toks) (fun b o e=>Wt _ e) (Qak hD) ⟨x4 _,[],0,.nil,?_⟩;rw[<-hD];exact Wv _ rfl
 have h3:s3.heap=s2.heap.push { cls:=.type "list",data:=.seq ([]:List Value).toArray }:=by rw[<-af]
 have sz:∀b∈B,b<s2.heap.objs.size:=fun b F=>by
  obtain⟨o,e,_⟩:=T.obj _ _ ad b F;exact Wu e
 have f3:∀b∈B,zh X pins (upd H2 D (.lst [])) b/\b<s3.heap.objs.size:=fun b F=>by
  have ag:=sz b F;refine⟨⟨?_,(f2 b F).2⟩,by rw[h3,Ww];exact Vr ag⟩;rw[Qh (by rw[<-hD];exact x3 ag)];exact(f2 b F).1
 have av:tn 0 s3.heap:=T.keep _ _ _ ad fun b _ o e=>by rw[h3];exact Wt _ e
 have I4:=fz I3 ok hN f3;have pg:=hg s3 (upd H2 D (.lst [])) s3.heap.objs.size (cellsFrom (s3.heap.objs.size+1) scope.names (Q0 X.env.cells scope.names [])) B;have pt:=ht s3 (upd H2 D (.lst [])) s3.heap.objs.size (cellsFrom (s3.heap.objs.size+1) scope.names (Q0 X.env.cells scope.names [])) B;have pe:=he s3 (upd H2 D (.lst [])) s3.heap.objs.size (cellsFrom (s3.heap.objs.size+1) scope.names (Q0 X.env.cells scope.names [])) B;show codeAny _ _ (.compStart (.ListComp elt [⟨tg,G,O,0⟩] scope pos) 0 (.ref it) (.ref D) (compEnvC scope (cellsFrom (s3.heap.objs.size+1) scope.names (Q0 X.env.cells scope.names [])) s3.heap.objs.size X.env)) (compPost (model X.prog X.w) X.A X.xe use Qf (.ref D) s3.heap.objs.size) { s3 with heap:=pushCells (s3.heap.push { cls:=.type "dict",data:=.dict #[] }) scope.names };have ah:∀b∈B,(upd H2 D (.lst [])) b=none:=fun b F=>(f3 b F).1.1;generalize aw:compEnvC scope (cellsFrom (s3.heap.objs.size+1) scope.names (Q0 X.env.cells scope.names [])) s3.heap.objs.size X.env=ce at I4 pg pt pe ⊢;have cL:ce.locals=s3.heap.objs.size:=by subst aw;rfl
 generalize aE:upd H2 D (.lst [])=H3 at I3 I4 pg pt pe w0 ah f3;generalize ax:({ s3 with heap:=pushCells (s3.heap.push { cls:=.type "dict",data:=.dict #[] }) scope.names }:Shared)=s4 at I4 ⊢;have ai:tn 0 s4.heap:=T.keep _ _ _ av fun b _ o e=>by rw[<-ax];exact pushCells_keeps _ _ _ _ (Wt _ e)
 have M:∀{dw:St} {H':Hp} {s':Shared},Inv (X.eR s3 H3 scope ce B) [] dw H' s'->(∀b∈B,H' b=none)->∀b∈B,zh (X.eR s3 H3 scope ce B) [] H' b:=fun {dw H' s'} I' hn b F=>
  ⟨hn b F,(I'.ok.exf b F).1,I'.ok.exfs b F,.inl F,fun x c e=>(I'.ok.exf b F).2 x c e,fun p hp=>Wm (show p∈([]:List (Addr×Obj))++[] from hp) We⟩
 have U:codeAny (model X.prog X.w) X.A (.compLoop (.ListComp elt [⟨tg,G,O,0⟩] scope pos) 0 (.ref it) (.ref D) ce) (compPost (model X.prog X.w) X.A X.xe use Qf (.ref D) s3.heap.objs.size) s4:=by
  refine xq (fun n s'=>∃i H',Inv (X.eR s3 H3 scope ce B) [] (ZB σ (own.map (·.2))) H' s'/\tn i s'.heap/\(∀b∈B,H' b=none)/\W i n H') ?_ m0 ⟨0,H3,I4,ai,ah,w0⟩;rintro n s5 ⟨i,H5,I5,aj,n5,w5⟩;rcases turn i n H5 w5 with⟨stop,qq⟩|⟨go,Nx,ay,step⟩
  ·have td:=T.done (X.eR s3 H3 scope ce B) Z Z Z hc i [] s5 _ H5 (fun _ _=>False) I5 (M I5 n5) aj stop;refine nB td fun r s6 ⟨hr,I6⟩=>?_;subst hr;have I7:Inv X pins σ H5 s6:=I3.DK (ch:=B) I6.os I6.base I6.bp I6.bare fun b F=>⟨(f3 b F).1.2.2.2.1,(f3 b F).1.2.1,(f3 b F).1.2.2.2.2.1,(f3 b F).1.2.2.2.2.2⟩
   have nC:H5 s3.heap.objs.size=none:=by have z:H5 ce.locals=none:=I6.free;rw[cL]at z;exact z
   obtain⟨m,hn,_⟩:=I6.loc;have hn:s6.heap.Ns ce.locals m:=hn;rw[cL]at hn;exact aq D s3.heap.objs.size s6 m H5 I7 qq hn (I3.gF (xM _) nC)
  ·have ti:=T.item (X.eR s3 H3 scope ce B) Z Z Z hc i [] s5 _ H5 (fun _ _=>False) I5 (M I5 n5) aj go;refine nB ti fun r s6 ⟨u,hr,h6⟩=>?_;subst hr;refine nB h6 fun _ s7 ⟨x,H7,I7,r7,y7,ac,n7⟩=>?_;have az:=I7.pinned (M I7 n7) (T.obj _ _ ac);refine nB (pg _ s7 _ H7 x u _ az r7 (step x H7 y7)) fun _ s8 ⟨Hi,H8,I8,ak,q8⟩=>?_;refine nB (pt _ s8 Hi H8 _ I8 q8) fun b s9 ⟨H9,I9,q9⟩=>?_
   have fin:∀{s':Shared} {H':Hp},Inv (X.eR s3 H3 scope ce B) ([]++zY B s7.heap) Hi H' s'->Nx H'->∃m,m<n/\∃i H',Inv (X.eR s3 H3 scope ce B) [] (ZB σ (own.map (·.2))) H' s'/\tn i s'.heap/\(∀b∈B,H' b=none)/\W i m H':=fun {s' H'} I' nx=>by
    obtain⟨m',hm,w'⟩:=ay H' nx
    have aa:∀b∈B,∀o,s7.heap.get? b=some o->s'.heap.get? b=some o/\H' b=none:=fun b F o e=>
     let z:=I'.pin (b,o) (GM _ (GM _ (JS F e)))
     ⟨z.1,z.2.1⟩
    have hl:(ZB σ (own.map (·.2))).length=Hi.length:=by rw[<-ak,YM]
    refine⟨m',hm,i+1,H',(I'.dz (pins:=[])).weak hl (fun j v e=>?_),T.keep _ _ _ ac fun b F o e=>(aa b F o e).1,fun b F=>?_,w'⟩
    ·rw[<-ak]at e;exact(qw e).1
    ·obtain⟨o,e,_⟩:=T.obj _ _ ac b F;exact(aa b F o e).2
   cases b with
   | false=>
    simp only[G6,Wr]at q9 ⊢;exact fin I9 q9
   | true=>
    simp only[Wq]at q9 ⊢;refine nB (pe _ s9 Hi H9 _ I9 q9) fun z aF ⟨yv,aG,aA,aB,acc,an,ao,nx⟩=>?_;exact AU (X:=X.eR s3 H3 scope ce B) aA an ao aB fun aH aC=>fin aC nx
 exact codeAny_compStart_list U (T.self X.A 0 _ _ _ ai U)
theorem qQ{elt tg j:Expr}{n:List Expr}{scope:Scope} {own:List (Str×Nat)} {pos:Pos} {B:TI} {g:TG} {tt:TT} {te:TE} (hc:X.calm=true) (F:X.N.Nodup) (hi:PI X tg j B) (ok:fJ X.N X.env.scope scope own)
  (G:∀(s:Shared) (H:Hp) (C:Addr) (cl:List (Str×Addr)) (z:List Addr),PG (X.eR s H scope (compEnvC scope cl C X.env) z) tg g) (J:∀(s:Shared) (H:Hp) (C:Addr) (cl:List (Str×Addr)) (z:List Addr),Dm (X.eR s H scope (compEnvC scope cl C X.env) z) n tt)
  (M:∀(s:Shared) (H:Hp) (C:Addr) (cl:List (Str×Addr)) (z:List Addr),PE (X.eR s H scope (compEnvC scope cl C X.env) z) elt te) (O:∀x,foldedSetIterable j X.env x=pure x:=by intro _;rfl) :
  PE X (.ListComp elt [⟨tg,j,n,0⟩] scope pos) (F' B g tt te (own.map (·.2))):=by
 intro pins s σ H Q I h;rw[eval_ListComp];refine mv hc F I hi ok G J M O h fun D C s' m H' U q hn f=>⟨m,hn,fun aa sb=>?_⟩;obtain⟨f0,f1,f2,f3,f4,f5⟩:=f;exact⟨.ref D,H',U.turned (t':=s'.toks) (fun b o hb e=>(sb.2 b hb).trans e) f0 f1 f3 f4 f5,Z,q⟩
theorem fD{i:Nat}{y:Str}{J:Pos}{elt tg j:Expr}{n:List Expr}{scope:Scope} {own:List (Str×Nat)} {pos B:Pos} {M:TI} {g:TG} {tt:TT} {te:TE} (hc:X.calm=true) (hN:X.N.Nodup) (hy:X.N[i]?=some y) (F:X.env.scope.names.lookup y=some .local)
  (O:swapsWith (.ListComp elt [⟨tg,j,n,0⟩] scope pos) (some (.Name y J)) B.line X.env=pure true) (hi:PI X tg j M) (ok:fJ X.N X.env.scope scope own)
  (hg:∀(s:Shared) (H:Hp) (C:Addr) (cl:List (Str×Addr)) (G:List Addr),PG (X.eR s H scope (compEnvC scope cl C X.env) G) tg g) (ht:∀(s:Shared) (H:Hp) (C:Addr) (cl:List (Str×Addr)) (G:List Addr),Dm (X.eR s H scope (compEnvC scope cl C X.env) G) n tt)
  (he:∀(s:Shared) (H:Hp) (C:Addr) (cl:List (Str×Addr)) (G:List Addr),PE (X.eR s H scope (compEnvC scope cl C X.env) G) elt te) (hs:∀x,foldedSetIterable j X.env x=pure x:=by intro _;rfl) :
  PS X (.Assign [.Name y J] (.ListComp elt [⟨tg,j,n,0⟩] scope pos) B) (vn (F' M g tt te (own.map (·.2))) (Zz i)):=by
 intro pins s σ H D I h;rw[exec_Assign_Name_used _ _ _ _ O];refine wpAny_bind (wpAny_standAt (wpAny_bind ?_));show wpAny _ X.A (do let _ <- comprehension (.ListComp elt [⟨tg,j,n,0⟩] scope pos) scope X.env (firstIterPos [⟨tg,j,n,0⟩] pos) (newList []) false (eval j X.env) (some (assign (.Name y J) X.env))) _ _ s;have h:F' M g tt te (own.map (·.2)) σ H (fun x H1=>Zz i x σ H1 D.nx):=h;refine wpAny_bind (bx (mv (Qf:=fun _ s'=>SP X pins D .next s') hc hN I hi ok hg ht he hs h fun ab C s' m H' I' q hn f=>?_) fun _ s' hq=>wpAny_pure (wpAny_pure hq));show wpAny _ _ (assign (.Name y J) X.env (.ref ab)) _ _ _;refine wpAny_assign_Name (yT (v:=V.ref ab) I' hN hy (.inl F) Z (fun s2 I2 ⟨a,sb,ha⟩=>?_) (.inr F));obtain⟨f0,f1,f2,f3,f4,f5⟩:=f
 have U:C≠a:=by
  rcases ha with z|z
  ·rw[z];exact f1
  ·exact fun e=>f4 y a z e.symm
 refine⟨m,hn.sameBut sb U,fun h3 aa=>?_⟩;exact⟨_,H',I2.turned (t':=s2.toks) (fun b o hb e=>(aa.2 b hb).trans e) f0 f1 f3 f4 f5,q⟩
theorem ml{elt:Expr}{z:List Comprehension}{scope:Scope}{pos j:Pos}{y:Str}{l:Nat}{env:Env}(hk:env.scope.kind=.function)(B:env.scope.names.lookup y=some .local) (hl:(j.line==pos.line)=true)
  (F:(scope.names.any fun(n,k)=>n==y&&(k==.local||k==.cell))=false):swapsWith (.ListComp elt z scope pos) (some (.Name y j)) l env=pure true:=by
 have ky:env.kindOf y=some .local:=B;have G:env.blockKind=.function:=by unfold Env.blockKind;rw[hk];rfl
 unfold swapsWith;simp only[G,ky,F,Expr.pos,hl];rfl
end
theorem qd{K:xz}{a:Addr}{xs:List V}{g:TG}{tt:TT}{te:TE}{vs:List Nat}{σ:St}{H1:Hp}{D:Addr}{I:Hp->Prop}(j:Nat->Hp->Prop) (h0:j 0 (upd H1 D (.lst []))) (hl:∀i H,i<=xs.length->j i H->a' K H a xs)
  (M:∀ i x H,xs[i]?=some x->j i H->g x (ZB σ vs) H fun n H2=>ZB n vs=ZB σ vs/\tt n H2 fun b z=>
   if b=true then te n z fun y B=>∃acc,B D=some (.lst acc)/\acc.length<sizeLine/\j (i+1) (upd B D (.lst (acc++[y]))) else j (i+1) z) (hd:∀H,j xs.length H->I H) :
  ∃W:Nat->Nat->Hp->Prop,(∃m,W 0 m (upd H1 D (.lst [])))/\∀i m H,W i m H->
   ((tE K a).stop i H/\I H)\/((tE K a).go i H/\∃ G:Hp->Prop,(∀ H',G H'->∃ J,J<m/\W (i+1) J H')/\∀ x H',(tE K a).yld i H x H'->g x (ZB σ vs) H' fun n H2=>ZB n vs=ZB σ vs/\tt n H2 fun b z=>
    if b=true then te n z fun y B=>∃acc,B D=some (.lst acc)/\acc.length<sizeLine/\G (upd B D (.lst (acc++[y]))) else G z):=by
 refine⟨fun i m H=>m=xs.length-i/\i<=xs.length/\j i H,⟨xs.length,by simp,x4 _,h0⟩,?_⟩;rintro i m H ⟨rfl,hi,p⟩;have q:=hl i H hi p;by_cases F:i<xs.length
 ·refine .inr ⟨⟨xs,xs[i],q,by simp[F]⟩,j (i+1),fun H' O=>⟨xs.length-(i+1),by omega,Z,F,O⟩,fun x H' y=>?_⟩;obtain⟨e,y⟩:=y;subst e;exact M i x _ (y xs q) p
 ·have e:i=xs.length:=by omega
  subst e;exact .inl ⟨⟨xs,q,xM _⟩,hd H p⟩
def EE(N:List Str)(sc scope:Scope) (own:List (Str×Nat)):Bool:=
 (match scope.kind with | .function=>true | _=>false)&&(scope.names.all fun y=>decide (scope.names.lookup y.1=some y.2))&&(own.all fun p=>decide (N[p.2]?=some p.1))&&
  (scope.names.all fun y=>match y.2 with
   |.free=>(match sc.names.lookup y.1 with|some .cell=>true|some .free=>true|_=>false)
   |.local=>decide (y.1∈own.map (·.1))||decide (y.1∉N)
   |.cell=>decide (y.1∈own.map (·.1))||decide (y.1∉N)
   |_=>true)
theorem ZI{N:List Str}{sc scope:Scope} {own:List (Str×Nat)} (h:EE N sc scope own=true):fJ N sc scope own:=by
 unfold EE at h;simp only[Gf,V3,Wp]at h;obtain⟨⟨⟨h1,h2⟩,z⟩,n⟩:=h;refine⟨?_,h2,z,fun y j e=>?_,fun y j e=>?_⟩
 ·split at h1
  ·assumption
  ·cases h1
 ·have q:=n y j;simp only[e]at q;split at q<;>first|exact .inl (by assumption)|exact .inr (by assumption)|cases q
 ·have q:=n y j;rcases e with e|e<;>(simp only[e,Qag,Wp]at q;exact q)
section
variable {prog:Program} {w:World} {A:Around} {R:Result->Shared->Prop} {s:Shared} {elt t0 i0 t1 i1:Expr} {Lk K5:List Expr} {scope:Scope} {pos:Pos} {it acc:Value} {env:Env}
end
section
variable {X:Cx}
end
section
variable {κ:Type} [DecidableEq κ]
def Xs (kvs:List (κ×V)) (k:κ):Option V:=(kvs.find? fun kv=>decide (kv.1=k)).map (·.2)
def XS (kvs:List (κ×V)) (k:κ) (v:V):List (κ×V):=
 if(kvs.any fun kv=>decide (kv.1=k))=true then kvs.map (fun kv=>if kv.1=k then(kv.1,v) else kv) else kvs++[(k,v)]
def wN (kvs:List (κ×V)) (k:κ):List (κ×V):=kvs.filter fun kv=>decide (kv.1≠k)
theorem J1{p:κ×V} {r:List (κ×V)} {k:κ} (e:p.1=k):Xs (p::r) k=some p.2:=by simp[Xs,UF,e]
theorem J2{p:κ×V} {r:List (κ×V)} {k:κ} (e:¬p.1=k):Xs (p::r) k=Xs r k:=by simp[Xs,UF,e]
theorem YN(k:κ):∀kvs:List (κ×V),(kvs.any fun kv=>decide (kv.1=k))=(Xs kvs k).isSome
 |[]=>rfl
 | p::r=>by
  rw[VC];by_cases e:p.1=k
  ·simp only[J1 e,Wk e,Bool.true_or,Option.isSome_some]
  ·rw[J2 e,Wl e,Qbu];exact YN k r
theorem Y8 (kvs:List (κ×V)) (k:κ) (v:V):(XS kvs k v).length<=kvs.length+1:=by
 unfold XS;split
 ·rw[xB];omega
 ·rw[xF,xO,UX];omega
theorem dF {kvs:List (κ×V)} {k:κ} (v:V) (h:Xs kvs k=none):XS kvs k v=kvs++[(k,v)]:=by unfold XS;rw[YN,h];exact Wh Wa
theorem YL.cQ{o:Option V}{u:Option Value}(r:YL o u):o.isSome=u.isSome:=by
 cases o with
 | none=>cases u with
  |none=>rfl
  |some _=>exact(show False from r).elim
 | some _=>cases u with
  |none=>exact(show False from r).elim
  |some _=>rfl
theorem YL.getD{o:Option V}{u:Option Value}{d:V}{d':Value}(r:YL o u)(rd:QR d d'):QR (o.getD d) (u.getD d'):=by
 cases o with
 | none=>cases u with
  |none=>exact rd
  |some _=>exact(show False from r).elim
 | some _=>cases u with
  |none=>exact(show False from r).elim
  |some _=>exact r
theorem KV.val {kvs:List (κ×V)} {vs:List (κ×Value)} (r:KV kvs vs) (k:κ):YL (Xs kvs k) (valueAt vs k):=by
 unfold KV at r;induction r with
 |nil=>exact True.intro
 | @cons p q ps j h t B=>
  obtain⟨h1,h2⟩:=h;by_cases e:p.1=k
  ·have n:q.1=k:=h1.symm.trans e;have b:valueAt (q::j) k=some q.2:=by simp[valueAt,UF,n]
   rw[J1 e,b];exact h2
  ·have n:¬ q.1=k:=fun z=>e (h1.trans z);have b:valueAt (q::j) k=valueAt j k:=by simp[valueAt,UF,n]
   rw[J2 e,b];exact B
theorem KV.any {kvs:List (κ×V)} {vs:List (κ×Value)} (r:KV kvs vs) (k:κ):(kvs.any fun kv=>decide (kv.1=k))=vs.any fun kv=>decide (kv.1=k):=by
 unfold KV at r;induction r with
 |nil=>rfl
 |cons h t j=>rw[VC,VC,j,h.1]
theorem KV.Be {kvs:List (κ×V)} {vs:List (κ×Value)} (r:KV kvs vs) (k:κ) {y:V} {u:Value} (j:QR y u) :
  KV (kvs.map fun kv=>if kv.1=k then(kv.1,y) else kv) (vs.map fun kv=>if kv.1=k then(kv.1,u) else kv):=by
 unfold KV at r ⊢;induction r with
 |nil=>exact .nil
 | @cons p q ps B h t n=>
  rw[xT,xT];refine .cons ?_ n;obtain⟨h1,h2⟩:=h;by_cases e:p.1=k
  ·rw[Wi e,Wi (h1.symm.trans e)];exact⟨h1,j⟩
  ·rw[Wh e,Wh (fun z=>e (h1.trans z))];exact⟨h1,h2⟩
theorem KV.put {kvs:List (κ×V)} {vs:List (κ×Value)} (r:KV kvs vs) (k:κ) {y:V} {u:Value} (j:QR y u):KV (XS kvs k y) (stored vs k u):=by
 unfold XS stored;rw[r.any k];by_cases e:(vs.any fun kv=>decide (kv.1=k))=true
 ·rw[Wi e,Wi e];exact r.Be k j
 ·rw[Wh e,Wh e];exact Paired.snoc r ⟨Z,j⟩
theorem KV.drop {kvs:List (κ×V)} {vs:List (κ×Value)} (r:KV kvs vs) (k:κ):KV (wN kvs k) (without vs k):=by
 unfold KV at r ⊢;unfold wN without;induction r with
 |nil=>exact .nil
 | @cons p q ps B h t j=>
  obtain⟨h1,h2⟩:=h;rw[Qa1,Qa1];by_cases e:p.1=k
  ·have a:¬ decide (p.1≠k)=true:=by simp[e]
   have b:¬decide (q.1≠k)=true:=by simp[h1.symm.trans e]
   rw[Wh a,Wh b];exact j
  ·have n:¬ q.1=k:=fun z=>e (h1.trans z);have a:decide (p.1≠k)=true:=by simp[e]
   have b:decide (q.1≠k)=true:=by simp[n]
   rw[Wi a,Wi b];exact .cons ⟨h1,h2⟩ j
theorem KV.keys {kvs:List (κ×V)} {vs:List (κ×Value)} (r:KV kvs vs):kvs.map (·.1)=vs.map (·.1):=by
 unfold KV at r;induction r with
 |nil=>rfl
 |cons h t j=>rw[xT,xT,j,h.1]
theorem KV.length {kvs:List (κ×V)} {vs:List (κ×Value)} (r:KV kvs vs):kvs.length=vs.length:=Paired.length r
end
theorem jh{P:Program}{w:World}{k:Key}{u:Value} (r:QR (kV k) u):(Zp P w).is k u=true:=by
 cases k with
 |inl i=>obtain⟨t,e⟩:=(show ∃t,u=Value.int i t from r);subst e;exact gj P w i t
 |inr x=>obtain⟨t,e⟩:=(show ∃t,u=Value.str x t from r);subst e;exact fL P w x t
theorem ji{P:Program}{w:World}:∀{ks:List Key} {us:List Value},QH (ks.map kV) us->ItemsAre (Zp P w) ks us
 |[],_,r=>by rw[Vh]at r;cases r;exact .nil
 | k::ks,_,r=>by
  rw[xT]at r;cases r with
  |cons h t=>exact .cons (jh h) (ji t)
abbrev KT(H:Hp):List (List Key×V)->List (List Key×Addr×Value)->Prop:=Paired fun p q=>p.1=q.1/\H q.2.1=some (.tup (p.1.map kV))/\QR p.2 q.2.2
theorem KT.val{H:Hp} {kvs:List (List Key×V)} {xs:List (List Key×Addr×Value)} (r:KT H kvs xs) (k:List Key):YL (Xs kvs k) ((atKey xs k).map (·.2)):=by
 induction r with
 |nil=>exact True.intro
 | @cons p q ps j h t B=>
  obtain⟨h1,_,h2⟩:=h;by_cases e:p.1=k
  ·have n:q.1=k:=h1.symm.trans e;have b:atKey (q::j) k=some q.2:=by simp[atKey,UF,n]
   rw[J1 e,b];exact h2
  ·have n:¬ q.1=k:=fun z=>e (h1.trans z);have b:atKey (q::j) k=atKey j k:=by simp[atKey,UF,n]
   rw[J2 e,b];exact B
theorem KT.Be{H:Hp} {kvs:List (List Key×V)} {xs:List (List Key×Addr×Value)} (r:KT H kvs xs) (k:List Key) {y:V} {u:Value} (j:QR y u) :
  KT H (kvs.map fun kv=>if kv.1=k then(kv.1,y) else kv) (xs.map (putAt k u)):=by
 induction r with
 |nil=>exact .nil
 | @cons p q ps F h t n=>
  rw[xT,xT];refine .cons ?_ n;obtain⟨h1,h2,B⟩:=h;unfold putAt;by_cases e:p.1=k
  ·rw[Wi e,Wi (h1.symm.trans e)];exact⟨h1,h2,j⟩
  ·rw[Wh e,Wh (fun z=>e (h1.trans z))];exact⟨h1,h2,B⟩
theorem KT.put{H:Hp} {kvs:List (List Key×V)} {xs:List (List Key×Addr×Value)} (r:KT H kvs xs) (k:List Key) {b:Addr} {y:V} {u:Value} (n:H b=some (.tup (k.map kV))) (j:QR y u) :
  KT H (XS kvs k y) (storedH xs k b u):=by
 have e:(kvs.any fun kv=>decide (kv.1=k))=(atKey xs k).isSome:=by rw[YN,(r.val k).cQ,Qav]
 unfold XS storedH;rw[e];by_cases q:(atKey xs k).isSome=true
 ·rw[Wi q,Wi q];exact r.Be k j
 ·rw[Wh q,Wh q];exact Paired.snoc r ⟨Z,n,j⟩
theorem KT.keeps{H H':Hp} {kvs:List (List Key×V)} {xs:List (List Key×Addr×Value)} (r:KT H kvs xs) (j:∀b ys,H b=some (.tup ys)->H' b=some (.tup ys)):KT H' kvs xs:=
 Paired.BC r fun _ _ z=>⟨z.1,j _ _ z.2.1,z.2.2⟩
section
variable {P:Program} {w:World} {H:Hp} {h:Heap} {a:Addr}
theorem Aa{u:HO}(ok:dh P w H h)(e:Rd H a u):Zh P w H h a u:=e.ok ok
theorem jo {kvs:List (Key×V)} (ok:dh P w H h) (e:Rd H a (.dK kvs)):kvs.length<=sizeLine/\(a==sysModules)=false/\∃vs,KV kvs vs/\h.DictOf (Zp P w) a vs:=
 show Zh P w H h a (.dK kvs) from Aa ok e
theorem wO {kvs:List (Key×V)} (ok:dh P w H h) (e:H a=some (.dK kvs)):kvs.length<=sizeLine/\(a==sysModules)=false/\∃vs,KV kvs vs/\h.DictOf (Zp P w) a vs:=jo ok (.inl e)
theorem yf{ks:List Key}(ok:dh P w H h) (e:H a=some (.tup (ks.map kV))):(tupleKind (Zp P w)).is h ks a:=by obtain⟨_,a8,r,o,h1,h2,n,j⟩:=(show Zh P w H h a (.tup (ks.map kV)) from ok a _ e);exact⟨o,a8.toArray,n,h1,h2,j,by simpa using ji r⟩
theorem gP {kvs:List (List Key×V)} (ok:dh P w H h) (e:Rd H a (.dT kvs)):kvs.length<=sizeLine/\(a==sysModules)=false/\
  ∃xs,KT H kvs xs/\h.DictOfH (tupleKind (Zp P w)) a xs:=by
 obtain⟨z,y,xs,r,o,es,ep,h1,h2,B,F,G⟩:=(show Zh P w H h a (.dT kvs) from Aa ok e);refine⟨z,y,xs,r,o,es,ep,h1,h2,B,F,fun x j=>?_,G⟩
 have all:∀{l:List (List Key×V)} {m:List (List Key×Addr×Value)},KT H l m->∀x∈m,(tupleKind (Zp P w)).is h x.1 x.2.1:=by
  intro l m q;induction q with
  |nil=>intro x j;exact nomatch j
  | @cons p q ps J n t I=>
   intro x j;rcases List.mem_cons.mp j with e|j
   ·subst e;exact yf ok (by rw[<-n.1];exact n.2.1)
   ·exact I x j
 exact all r x j
theorem Fc {kvs:List (List Key×V)} (ok:dh P w H h) (e:H a=some (.dT kvs)):kvs.length<=sizeLine/\(a==sysModules)=false/\
  ∃xs,KT H kvs xs/\h.DictOfH (tupleKind (Zp P w)) a xs:=gP ok (.inl e)
end
def Z2(H:Hp)(a:Addr)(y:V)(r:Option V):Prop:=
 (∃kvs k,Rd H a (.dK kvs)/\y=kV k/\r=Xs kvs k)\/∃kvs k b,Rd H a (.dT kvs)/\y=.ref b/\H b=some (.tup (k.map kV))/\r=Xs kvs k
def yL(H:Hp)(a:Addr)(y v:V)(H':Hp):Prop:=
 (∃kvs k,H a=some (.dK kvs)/\y=kV k/\kvs.length<sizeLine/\H'=upd H a (.dK (XS kvs k v)))\/
 ∃kvs k b,H a=some (.dT kvs)/\y=.ref b/\H b=some (.tup (k.map kV))/\kvs.length<sizeLine/\H'=upd H a (.dT (XS kvs k v))
theorem Z2.k{H:Hp}{a:Addr} {kvs:List (Key×V)} {k:Key} (e:H a=some (.dK kvs)):Z2 H a (kV k) (Xs kvs k):=.inl ⟨kvs,k,.inl e,Z,Z⟩
theorem Z2.t{H:Hp}{a b:Addr} {kvs:List (List Key×V)} {k:List Key} (e:H a=some (.dT kvs)) (j:H b=some (.tup (k.map kV))):Z2 H a (.ref b) (Xs kvs k):=.inr ⟨kvs,k,b,.inl e,Z,j,Z⟩
theorem yL.k{H:Hp}{a:Addr} {kvs:List (Key×V)} {k:Key} {v:V} (e:H a=some (.dK kvs)) (hl:kvs.length<sizeLine):yL H a (kV k) v (upd H a (.dK (XS kvs k v))):=.inl ⟨kvs,k,e,Z,hl,Z⟩
theorem yL.t{H:Hp}{a b:Addr} {kvs:List (List Key×V)} {k:List Key} {v:V} (e:H a=some (.dT kvs)) (j:H b=some (.tup (k.map kV))) (hl:kvs.length<sizeLine) :
  yL H a (.ref b) v (upd H a (.dT (XS kvs k v))):=.inr ⟨kvs,k,b,e,Z,j,hl,Z⟩
section
variable {X:Cx} {pins:List (Addr×Obj)} {σ:St} {H:Hp} {s:Shared} {a:Addr} {y v:V} {u r:Value} {o:Option V} {A:Around} {E:Value->Shared->Prop}
theorem Inv.big(I:Inv X pins σ H s):sysModules<s.heap.objs.size:=by have h:mainGlobals<s.heap.objs.size:=(I.mod.glob.keeps I.bk).lt;exact Qal Wa h
theorem nQ{Q:Value->Shared->Prop}(O:A.units+1<cLine)(I:Inv X pins σ H s) (g:Z2 H a y (some v)) (M:QR y u) (h:∀B s',Inv X pins σ H s'->QR v B->Q B s') :
  wpAny (model X.prog X.w) A (getItem (.ref a) u) Q E s:=by
 rcases g with⟨kvs,k,e,F,l⟩|⟨kvs,k,b,e,F,U,l⟩
 ·subst F;obtain⟨z,hd,vs,j,G⟩:=jo I.bp e;obtain⟨B,hw,n⟩:=YL.some_of (v:=v) (o:=valueAt vs k) (by rw[l];exact j.val k);exact wpAny_getItem_of (jh M) G.mapOf hw (h B _ (I.tok _) n)
 ·subst F;cases(show u=Value.ref b from M);obtain⟨z,hd,xs,j,G⟩:=gP I.bp e;obtain⟨B,hw,n⟩:=YL.some_of (v:=v) (o:=(atKey xs k).map (·.2)) (by rw[l];exact j.val k);obtain⟨p,hp,J⟩:=Option.map_eq_some_iff.mp hw;refine wpAny_getItem_heap (tupleKind_room_in1 O) (yf I.bp U) G hp ?_;rw[J];exact h B _ (I.tok _) n
theorem IF{Q:Value->Shared->Prop}(G:A.units+1<cLine)(I:Inv X pins σ H s)(g:Z2 H a y o)(F:QR y u) (h:∀s',Inv X pins σ H s'->Q (.bool o.isSome) s') :
  wpAny (model X.prog X.w) A (compareOp .In u (.ref a)) Q E s:=by
 rcases g with⟨kvs,k,e,n,l⟩|⟨kvs,k,b,e,n,J,l⟩
 ·subst n;obtain⟨z,hd,vs,j,B⟩:=jo I.bp e;refine wpAny_in_of (jh F) hd B.mapOf ?_;rw[<-(j.val k).cQ,<-l];exact h _ (I.tok _)
 ·subst n;cases(show u=Value.ref b from F);obtain⟨z,hd,xs,j,B⟩:=gP I.bp e;refine wpAny_in_heap (tupleKind_room_in1 G) (yf I.bp J) hd B ?_;have q:=(j.val k).cQ;rw[Qav]at q;rw[<-q,<-l];exact h _ (I.tok _)
theorem u0{Q:Value->Shared->Prop}(G:A.units+1<cLine)(I:Inv X pins σ H s)(g:Z2 H a y o)(F:QR y u) (h:∀s',Inv X pins σ H s'->Q (.bool (!o.isSome)) s') :
  wpAny (model X.prog X.w) A (compareOp .NotIn u (.ref a)) Q E s:=by
 rcases g with⟨kvs,k,e,n,l⟩|⟨kvs,k,b,e,n,J,l⟩
 ·subst n;obtain⟨z,hd,vs,j,B⟩:=jo I.bp e;refine wpAny_notIn_of (jh F) hd B.mapOf ?_;rw[<-(j.val k).cQ,<-l];exact h _ (I.tok _)
 ·subst n;cases(show u=Value.ref b from F);obtain⟨z,hd,xs,j,B⟩:=gP I.bp e;refine wpAny_notIn_heap (tupleKind_room_in1 G) (yf I.bp J) hd B ?_;have q:=(j.val k).cQ;rw[Qav]at q;rw[<-q,<-l];exact h _ (I.tok _)
theorem xo{h':Heap}{t':Nat}{j:HO}(I:Inv X pins σ H s) (B:DR (H a)) (F:Heap.SameBut a s.heap h') (G:∃q,h'.get? a=some q) (n:Zh X.prog X.w (upd H a j) h' a j) :
  Inv X pins σ (upd H a j) { s with heap:=h',toks:=t' }:=
 I.write (x:=a) (e:=a) B (.inl Z) (fun b q J z=>(F.2 b J).trans z) G n
theorem sk{P:Program}{w:World}{H':Hp}{h':Heap} {kvs:List (Key×V)} {vs:List (Key×Value)} (z:kvs.length<=sizeLine) (hd:(a==sysModules)=false) (j:KV kvs vs) (n:h'.DictOf (Zp P w) a vs) :
  Zh P w H' h' a (.dK kvs):=⟨z,hd,vs,j,n⟩
theorem nv{H':Hp}{Q:Unit->Shared->Prop}(hu:A.units+1<cLine)(I:Inv X pins σ H s)(g:yL H a y v H')(O:QR y u)(U:QR v r) (h:∀s',Inv X pins σ H' s'->Q () s') :
  wpAny (model X.prog X.w) A (setItem (.ref a) u r) Q E s:=by
 rcases g with⟨kvs,k,e,F,l,G⟩|⟨kvs,k,b,e,F,eb,l,G⟩
 ·subst F G;obtain⟨z,hd,vs,j,J⟩:=wO I.bp e;have hz:vs.length<=sizeLine:=by rw[<-j.length];exact z
  have hl:(XS kvs k v).length<=sizeLine:=by have:=Y8 kvs k v;omega
  refine wpAny_setItem_pairs (hsz:=hz) (jh O) J fun h' n M=>h _ ?_;have he:∃q,h'.get? a=some q:=let ⟨q,_,_,B,_⟩:=n;⟨q,B⟩
  exact xo I (by rw[e];exact True.intro) M he (sk hl hd (j.put k U) n)
 ·subst F G;cases (show u=Value.ref b from O);obtain⟨z,hd,xs,j,J⟩:=Fc I.bp e;have hz:xs.length<=sizeLine:=by rw[<-Paired.length j];exact z
  have hl:(XS kvs k v).length<=sizeLine:=by have:=Y8 kvs k v;omega
  refine wpAny_setItem_heap (hsz:=hz) (tupleKind_room_in1 hu) (yf I.bp eb) J fun h' n M=>h _ ?_;obtain⟨q,es,ep,B,h2,h3,h4,_,h5⟩:=n;refine xo I (by rw[e];exact True.intro) M ⟨q,B⟩ ⟨hl,hd,_,(j.put k eb U).keeps fun c ys ec=>?_,q,es,ep,B,h2,h3,h4,h5⟩;rw[Qh (YG ec e (fun z=>nomatch z))];exact ec
end
section
variable {X:Cx} {pins:List (Addr×Obj)} {σ:St} {H:Hp} {s:Shared} {a:Addr} {kvs:List (Key×V)} {k:Key} {u:Value} {A:Around} {E:Value->Shared->Prop}
theorem D0{Q:Value->Shared->Prop}(I:Inv X pins σ H s) (e:Rd H a (.dK kvs)) (h:∀t s',Inv X pins σ H s'->Q (.int kvs.length t) s'):wpAny (model X.prog X.w) A (call (.builtin "len") [.ref a]) Q E s:=by obtain⟨z,hd,vs,j,n⟩:=jo I.bp e;refine call_len_dict hd n (by rw[<-j.length];rw[sizeLine_eq]at z;omega) ?_;rw[<-j.length];exact h _ _ (I.tok _)
end
def vF(i:Expr):Prop:=∀j n,subscripted i false j n=operate [j,n] (getItem j n)
theorem jA{prog:Program}{w:World}{A:Around}{E:Value->Shared->Prop}{s:Shared}{env:Env}{value j:Expr}{pos:Pos}{T id:String}{Q:Value->Shared->Prop}
  (hl:typeLookup (.type T) "__getitem__" = pure (some (.builtin id))) (I:vF j)
  (h:wpAny (model prog w) A (eval value env) (fun o B=>wpAny (model prog w) A (eval j env) (fun i n=>n.TypeIs o T/\wpAny (model prog w) A (getItem o i) Q E n) E B) E s) :
  wpAny (model prog w) A (eval (.Subscript value j pos) env) Q E s:=by
 refine Subscript_ (wpAny_mono h (fun o B J=>wpAny_mono J (fun i n z=>?_) fun _ _ x=>x) fun _ _ x=>x);obtain⟨F,z⟩:=z;unfold subscriptTail;refine wpAny_bind ?_;rw[getitemInPython_of_ne F.not_modules];refine wpAny_bind (wpAny_specialOf F hl ?_)
 have fin:wpAny (model prog w) A (subscripted j false o i) (fun r G=>wpAny (model prog w) A (letTemporaryGo value o r >>= fun _=>pure r) Q E G) E n:=by rw[I o i];exact wpAny_operating (wpAny_mono z (fun r G M=>wpAny_bind (wpAny_letTemporaryGo (wpAny_pure M))) fun _ _ x=>x)
 first
  |exact wpAny_pure (wpAny_bind fin)
  |exact wpAny_bind (wpAny_pure (wpAny_bind fin))
  |exact wpAny_bind fin
theorem gh{X:Cx} {pins:List (Addr×Obj)} {σ:St} {H:Hp} {s:Shared} {a:Addr} {y:V} {o:Option V} (I:Inv X pins σ H s) (g:Z2 H a y o):s.TypeIs (.ref a) "dict" := by
 rcases g with⟨kvs,k,e,_,_⟩|⟨kvs,k,b,e,_,_,_⟩
 ·obtain⟨_,_,vs,_,j⟩:=jo I.bp e;exact j.typeIs
 ·obtain⟨_,_,xs,_,j⟩:=gP I.bp e;exact j.typeIs
def Fy(td ty:TE):TE:=fun σ H Q=>td σ H fun x H1=>ty σ H1 fun y H2=>∃a v,x=.ref a/\Z2 H2 a y (some v)/\Q v H2
def Ih(ty td:TE):TE:=fun σ H Q=>ty σ H fun y H1=>td σ H1 fun x H2=>∃a o,x=.ref a/\Z2 H2 a y o/\Q (.bl o.isSome) H2
def u9(ty td:TE):TE:=fun σ H Q=>ty σ H fun y H1=>td σ H1 fun x H2=>∃a o,x=.ref a/\Z2 H2 a y o/\Q (.bl (!o.isSome)) H2
def FP(td ty tv:TE):TS:=fun D σ H=>tv σ H fun v H1=>td σ H1 fun x H2=>ty σ H2 fun y n=>∃a j,x=.ref a/\yL n a y v j/\D.nx σ j
section
variable {X:Cx} {o i e value:Expr} {pos pos' dD:Pos} {td ty tv:TE}
theorem Yu(z:X.A.units+1<cLine)(B:PE X o td)(hi:PE X i ty)(F:vF i):PE X (.Subscript o i pos) (Fy td ty):=by intro pins s σ H Q I h;refine jA PySem.F.slot_dict_getitem.lookup F (bx (B pins s σ H _ I h) fun u G ⟨x,H1,J,M,O⟩=>bx (hi pins G σ H1 _ J O) fun iv s2 ⟨y,H2,n,U,a,v,ex,g,q2⟩=>?_);subst ex;obtain rfl:u=Value.ref a:=M;exact⟨gh n g,nQ z n g U fun w' s3 I3 j=>⟨v,H2,I3,j,q2⟩⟩
theorem AY(j:X.A.units+1<cLine)(hi:PE X i ty)(n:PE X o td):PC X .In i o (Ih ty td):=by intro pins s σ H Q I h;refine bx (hi pins s σ H _ I h) fun iv z ⟨y,H1,B,F,G⟩=>bx (n pins z σ H1 _ B G) fun u s2 ⟨x,H2,J,M,a,O,ex,g,U⟩=>?_;subst ex;obtain rfl:u=Value.ref a:=M;exact IF j J g F fun s3 I3=>⟨.bl O.isSome,H2,I3,Z,U⟩
theorem qA(j:X.A.units+1<cLine)(hi:PE X i ty)(n:PE X o td):PC X .NotIn i o (u9 ty td):=by intro pins s σ H Q I h;refine bx (hi pins s σ H _ I h) fun iv z ⟨y,H1,B,F,G⟩=>bx (n pins z σ H1 _ B G) fun u s2 ⟨x,H2,J,M,a,O,ex,g,U⟩=>?_;subst ex;obtain rfl:u=Value.ref a:=M;exact u0 j J g F fun s3 I3=>⟨.bl (!O.isSome),H2,I3,Z,U⟩
theorem zn(j:X.A.units+1<cLine)(n:PE X o td)(hi:PE X i ty)(z:PE X value tv) (B:swapsWith value (some (.Subscript o i pos')) pos.line X.env=pure false) :
  PS X (.Assign [.Subscript o i pos'] value pos) (FP td ty tv):=by
 intro pins s σ H D I h;refine wpAny_Assign_Subscript (bx (z pins s σ H _ I h) fun r F ⟨v,H1,G,J,M⟩=>bx (n pins F σ H1 _ G M) fun u O ⟨x,H2,U,rx,q2⟩=>bx (hi pins O σ H2 _ U q2) fun iv s3 ⟨y,H3,I3,ry,a,H4,ex,g,q3⟩=>?_) B;subst ex;obtain rfl:u=Value.ref a:=rx;exact nv j I3 g ry J fun s4 I4=>⟨σ,H4,I4,q3⟩
end
theorem gu{P:Program}{w:World}{H:Hp}(h:Heap)(j:sysModules<h.objs.size):Zh P w H (h.push { cls:=.type "dict",data:=.dict #[] }) h.objs.size (.dK []):=
 ⟨x4 _,beq_eq_false_iff_ne.mpr (Ne.symm (x3 j)),[],.nil,Heap.DictOf.new h⟩
theorem pW{P:Program}{w:World}{H:Hp}(h:Heap)(j:sysModules<h.objs.size):Zh P w H (h.push { cls:=.type "dict",data:=.dict #[] }) h.objs.size (.dT []):=
 ⟨x4 _,beq_eq_false_iff_ne.mpr (Ne.symm (x3 j)),[],.nil,_,#[],0,Wv _ Z,⟨Z,Z,Z⟩,Z,Z,List.nodup_nil⟩
def BX:TE:=fun _ H Q=>∀p,H p=none->Q (.ref p) (upd H p (.dK []))
def BB:TE:=fun _ H Q=>∀p,H p=none->Q (.ref p) (upd H p (.dT []))
section
variable {X:Cx} {pos:Pos}
theorem pH:PE X (.Dict [] [] pos) BX:=fun pins s σ H Q I h=>
 wpAny_Dict_empty ⟨.ref s.heap.objs.size,_,I.laid (a:=s.heap.objs.size) (o:=.dK []) (t':=s.toks) (fun _ _ q=>Wt _ q) (xM _) (gu s.heap I.big),Z,h _ (I.bp.fresh (xM _))⟩
theorem fj:PE X (.Dict [] [] pos) BB:=fun pins s σ H Q I h=>
 wpAny_Dict_empty ⟨.ref s.heap.objs.size,_,I.laid (a:=s.heap.objs.size) (o:=.dT []) (t':=s.toks) (fun _ _ q=>Wt _ q) (xM _) (pW s.heap I.big),Z,h _ (I.bp.fresh (xM _))⟩
end
def il:List (TE×TE)->St->Hp->(List (V×V)->Hp->Prop)->Prop
 |[],_,H,Q=>Q [] H
 |(tk,tv)::r,σ,H,Q=>tk σ H fun x H1=>tv σ H1 fun y H2=>il r σ H2 fun ps j=>Q ((x,y)::ps) j
abbrev VV:List (V×V)->List (Value×Value)->Prop:=Paired fun p q=>QR p.1 q.1/\QR p.2 q.2
def Hf(X:Cx)(pos:Pos) (keys:List (Option Expr)) (j:List Expr) (n:List (TE×TE)):Prop:=
 ∀(pins:List (Addr×Obj)) (s:Shared) (σ:St) (H:Hp) (Q:List (V×V)->Hp->Prop),Inv X pins σ H s->il n σ H Q->
  wpAny (model X.prog X.w) X.A (evalPairs (pairTrees keys j X.env pos)) (fun vs s'=>∃ps H',Inv X pins σ H' s'/\VV ps vs/\Q ps H') X.xe s
theorem vo{X:Cx}{pos:Pos}:Hf X pos [] [] []:=fun pins s σ H Q I h=>pairTrees_nil_walk ⟨[],H,I,.nil,h⟩
theorem rD{X:Cx}{pos:Pos}{k v:Expr} {ks:List (Option Expr)} {vs:List Expr} {tk tv:TE} {j:List (TE×TE)} (hk:PE X k tk) (z:PE X v tv) (hr:Hf X pos ks vs j) :
  Hf X pos (some k::ks) (v::vs) ((tk,tv)::j):=fun pins s σ H Q I h=>
 pairTrees_cons_walk (bx (hk pins s σ H _ I h) fun u B ⟨x,H1,F,G,J⟩=>bx (z pins B σ H1 _ F J) fun w2 M ⟨y,H2,O,U,q2⟩=>
  bx (hr pins M σ H2 _ O q2) fun ws s3 ⟨ps,H3,I3,n,q3⟩=>⟨(x,y)::ps,H3,I3,.cons ⟨G,U⟩ n,q3⟩)
def qC (kvs j:List (Key×V)):List (Key×V):=j.foldl (fun acc kv=>XS acc kv.1 kv.2) kvs
theorem KV.merge:∀{j:List (Key×V)} {rs:List (Key×Value)} {kvs:List (Key×V)} {vs:List (Key×Value)},KV j rs->KV kvs vs->KV (qC kvs j) (merged vs rs):=by
 intro j rs kvs vs r;unfold KV at r;induction r generalizing kvs vs with
 |nil=>intro q;exact q
 | @cons p q ps B h t n=>
  intro z
  have e:KV (XS kvs p.1 p.2) (stored vs q.1 q.2):=by have:=z.put p.1 h.2;rw[<-h.1];exact this
  exact n e
theorem JH:∀(j kvs:List (Key×V)),(qC kvs j).length<=kvs.length+j.length
 |[],kvs=>by show kvs.length<=kvs.length+0;omega
 | p::r,kvs=>by
  have h1:=JH r (XS kvs p.1 p.2);have h2:=Y8 kvs p.1 p.2;show(qC (XS kvs p.1 p.2) r).length<=_;rw[xO];omega
theorem yw{P:Program}{w:World}:∀{kvs:List (Key×V)} {ws:List (Value×Value)},VV (kvs.map fun kv=>(kV kv.1,kv.2)) ws->∃rs,Carries (Zp P w) ws rs/\KV kvs rs
 |[],_,r=>by rw[Vh]at r;cases r;exact⟨[],True.intro,.nil⟩
 | p::kvs,_,r=>by
  rw[xT]at r;cases r with
  | @cons a b as bs h t=>
   obtain⟨rs,c,q⟩:=yw (P:=P) (w:=w) t;obtain⟨n,j⟩:=b;exact⟨(p.1,j)::rs,⟨jh h.1,Z,c⟩,.cons ⟨Z,h.2⟩ q⟩
def E7 (j:List (TE×TE)):TE:=fun σ H Q=>∀p,H p=none->il j σ (upd H p (.dK [])) fun ps H2=>H2 p=some (.dK [])/\∃kvs:List (Key×V),ps=kvs.map (fun kv=>(kV kv.1,kv.2))/\kvs.length<=15/\Q (.ref p) (upd H2 p (.dK (qC [] kvs)))
theorem vr{X:Cx}{pos:Pos} {keys:List (Option Expr)} {j:List Expr} {n:List (TE×TE)} (h:Hf X pos keys j n) (B:keys.all (·.isSome)=true) (hl:keys.length=j.length) (h0:keys≠[])
  (G:keys.length<=15):PE X (.Dict keys j pos) (E7 n):=by
 intro pins s σ H Q I q;have O:=I.bp.fresh (xM s.heap.objs.size);have U:=I.laid (a:=s.heap.objs.size) (o:=.dK []) (h':=s.heap.push { cls:=.type "dict",data:=.dict #[] }) (t':=s.toks) (fun _ _ q=>Wt _ q) (xM _) (gu s.heap I.big);refine wpAny_Dict_walk (knd:=Zp X.prog X.w) B hl h0 G (bx (h pins _ σ _ _ U (q _ O)) fun ws s2 ⟨ps,H2,M,J,e,kvs,ep,lk,q2⟩=>?_);subst ep;obtain⟨rs,c,rk⟩:=yw (P:=X.prog) (w:=X.w) J;obtain⟨z,hd,aa,r0,dd⟩:=wO M.bp e;cases r0;refine⟨rs,c,dd,fun h' F hs=>⟨.ref s.heap.objs.size,_,?_,Z,q2⟩⟩
 have hz:(qC [] kvs).length<=sizeLine:=by have h1:=JH kvs [];rw[UX]at h1;rw[sizeLine_eq];omega
 have he:∃q,h'.get? s.heap.objs.size=some q:=let ⟨q,_,_,hq,_⟩:=F;⟨q,hq⟩
 exact xo M (by rw[e];exact True.intro) hs he (sk hz hd (rk.merge .nil) F)
section
variable {X:Cx} {pins:List (Addr×Obj)} {σ:St} {H:Hp} {s:Shared} {a:Addr} {y d:V} {u r:Value} {o:Option V} {A:Around} {E:Value->Shared->Prop}
end
section
variable {X:Cx} {o e f:Expr} {apos d8:Pos} {td ty tx:TE}
end
section
variable {X:Cx} {pins:List (Addr×Obj)} {σ:St} {H:Hp} {s:Shared} {a:Addr} {kvs:List (Key×V)} {A:Around} {E:Value->Shared->Prop}
end
section
variable {X:Cx} {pins:List (Addr×Obj)} {σ:St} {H:Hp} {s:Shared} {a:Addr} {y:V} {u:Value} {A:Around} {E:Value->Shared->Prop}
end
section
variable {prog:Program} {w:World} {A:Around} {E:Value->Shared->Prop}
end
section
variable {X:Cx}
end
theorem yy:bootBuiltins "reversed" = some (.type "reversed"):=by decide +kernel
section
variable {X:Cx} {pins:List (Addr×Obj)} {σ:St} {H:Hp} {s:Shared} {h':Heap}
theorem Inv.uI{t':Nat}{ch:List Addr}(I:Inv X pins σ H s)(k:∀b o,b∉ch->s.heap.get? b=some o->h'.get? b=some o)(hf:∀b∈ch,zh X pins H b):Inv X pins σ H { s with heap:=h',toks:=t' }:=by
 have j:∀b u,H b=some u->b∉ch:=fun b u e z=>by
  have q:=(hf b z).1;rw[q]at e;cases e
 refine I.step (g':=s.gens) (d':=s.drawn) (ch:=ch) (fun b B=>⟨(hf b B).2.2.2.1,(hf b B).2.1,(hf b B).2.2.2.2.1,(hf b B).2.2.2.2.2⟩) (fun b o _ _ hc e _=>k b o hc e) (fun b o _ _ hc e _=>⟨o.slots,k b o hc e⟩)
  (fun _ _ _ _ n=>n) (fun b o hc e=>⟨o,k b o hc e⟩) (fun _ _ e=>e) (fun _ _ _ e=>e) (fun b ps e=>⟨#[],by rw[e];simp⟩) (fun m F=>?_) (fun b u e=>?_) I.bare
 ·obtain⟨o,es,ep,G,r⟩:=F;exact⟨o,es,ep,k _ o (fun z=>(hf _ z).2.1 Z) G,r⟩
 ·refine (I.bp b u e).gG (fun c v hc q=>k c v ?_ q) (fun _ q=>q) fun _ _ q=>q;rcases hc with z | z
  ·rw[z];exact j b u e
  ·exact j c _ z
theorem Inv.dO{t':Nat}{ch:List Addr}{T:Addr}{G:HO}(I:Inv X pins σ H s)(k:∀b o,b∉ch->s.heap.get? b=some o->h'.get? b=some o)(hf:∀b∈ch,zh X pins H b)(M:s.heap.objs.size<=T)
  (J:Zh X.prog X.w (upd H T G) h' T G):Inv X pins σ (upd H T G) { s with heap:=h',toks:=t' }:=by
 have B:H T=none:=I.bp.fresh M
 have F:∀b u,H b=some u->b∉ch:=fun b u e z=>by
  have q:=(hf b z).1;rw[q]at e;cases e
 refine I.step (g':=s.gens) (d':=s.drawn) (ch:=ch) (fun b j=>⟨(hf b j).2.2.2.1,(hf b j).2.1,(hf b j).2.2.2.2.1,(hf b j).2.2.2.2.2⟩) (fun b o _ _ hc e _=>k b o hc e) (fun b o _ _ hc e _=>⟨o.slots,k b o hc e⟩)
  (fun b o _ e n=>?_) (fun b o hc e=>⟨o,k b o hc e⟩) (fun b xs e=>?_) (fun b o u e=>?_) (fun b ps e=>⟨#[],?_⟩) (fun m O=>?_) (fun b u e=>?_) I.bare
 ·rw[Qh (x3 (xW (Wu e) M))];exact n
 ·rw[Qh (Qg e B)];exact e
 ·rw[Qh (Qg e B)];exact e
 ·rw[Qh (Qg e B),e];simp
 ·obtain⟨o,es,ep,U,r⟩:=O;exact⟨o,es,ep,k _ o (fun z=>(hf _ z).2.1 Z) U,r⟩
 ·by_cases j:b=T
  ·subst j;rw[Qe]at e;cases e;exact J
  ·rw[Qh j] at e;refine (I.bp b u e).gG (fun c v hc q=>k c v ?_ q) (fun c q=>by rw[Qh (Qg q B)];exact q) fun c xs q=>by rw[Qh (Qg q B)];exact q
   rcases hc with z|z
   ·rw[z];exact F b u e
   ·exact F c _ z
end
section
variable {X:Cx}
theorem zZ{tg:Expr} {pins:List (Addr×Obj)} {σ:St} {H:Hp} {s:Shared} {R:It->Hp->Prop} {J:It} {j:Nat->Heap->Prop} {tk:Nat} (I:Inv X pins σ H s) (o:Obj)
  (T:zg X.prog X.w X.K tg J [s.heap.objs.size] s.heap.objs.size j) (st:j 0 (s.heap.push o)) (q:R J H):Kp X pins σ tg R (.ref s.heap.objs.size) { s with heap:=s.heap.push o,toks:=tk }:=by
 refine⟨s.heap.objs.size,[s.heap.objs.size],j,J,H,Z,I.kept fun b z e=>Wt _ e,T,st,fun b n=>?_,q⟩;have e:b=s.heap.objs.size:=by simpa using n
 subst e;exact I.gF (xM _) (I.bp.fresh (xM _))
end
def Ac(lo c:Int)(n:Nat):It:=⟨fun i _=>i<n,fun i H x H'=>H'=H/\x=.int (lo+(i:Nat)*c),fun i _=>n<=i⟩
theorem fK{P:Program}{w:World}{K:xz}{tg:Expr}(it:Addr)(lo c:Int)(n:Nat):zg P w K tg (Ac lo c n) [it] it (fun i h=>IsRangeIter h it (lo+(i:Nat)*c) ((n:Int)-(i:Nat)) c) where
 mem:=by simp
 obj:=fun i h st b j=>by
  have e:b=it:=by simpa using j
  subst e;exact⟨_,st,fun v z=>nomatch z⟩
 keep:=fun i h h' st k=>k it We _ st
 item:=by intro X F hw G hc i pins s σ H E I hf st J;subst F hw G;obtain⟨M,f1,f2,O,U,f5⟩:=hf it We;have W:=Walks.range (prog:=X.prog) (w:=X.w) (I.ok.hd hc) it lo c n;refine W.item i s _ _ J st fun v h' tk hv B kk=>?_;obtain⟨t,rfl⟩:=hv;have I1:Inv X pins σ H { s with heap:=h',toks:=tk }:=I.turned (fun b o j e=>kk b o (by simpa using j) e) M f1 O U f5;exact⟨_,rfl,yh (s:={ s with heap:=h',toks:=tk }) (n := "range_iterator") B rfl rfl Wa ⟨.int (lo+(i:Nat)*c),H,I1,⟨t,rfl⟩,⟨rfl,rfl⟩,B,fun b j=>(hf b j).1⟩⟩
 done:=by intro X F hw G hc i pins s σ H E I hf st J;subst F hw G;obtain⟨M,f1,f2,O,U,f5⟩:=hf it We;exact wpAny_pyNext_range_end (I.ok.hd hc) st (by have:n<=i:=J;omega) fun h' eb=>⟨Z,I.turned (t':=s.toks) (fun b o j e=>eb b o j e) M f1 O U f5⟩
 self:=fun A i s Q E st h=>wpAny_pyIter_rangeiter st h
def C'(i j c:Int)(n:Nat):Prop:=c≠0/\c.natAbs<1073741824/\Builtin.Range.small i j c=true/\Builtin.Range.rangeSize i j c=n
def D'(ta:TA):TI:=fun σ H R=>ta σ H fun vs H1=>∃(i j c:Int)(n:Nat),vs=[.int i,.int j,.int c]/\C' i j c n/\R (Ac i c n) H1
section
variable {X:Cx} {tg:Expr}
theorem Jo{a b c:Expr}{ta:TA}{p pos:Pos}(M:Gl X "range")(O:X.mg "range" = none)(U:PA X [a,b,c] ta)
  (hs:starEach [a,b,c] X.env=(false,eval a X.env)::starEach [b,c] X.env:=by rfl) (F:(backTo pos (starEach [b,c] X.env)).any (·.1)=false:=by rfl) :
  PI X tg (.Call (.Name "range" p) [a,b,c] [] pos) (D' ta):=by
 intro pins s σ H R I h;refine Call_ (X6 I M O boot_range (PyProof.Rows.callWith_type1 (bx (U pos pins s σ H _ I h) fun us B ⟨vs,H1,I1,r1,q1⟩=>?_) hs F));obtain⟨i,j,k,n,e,⟨c0,c1,c2,c3⟩,q⟩:=q1;subst e;cases r1 with
 | cons r z=>
  cases z with
  | cons r' z=>
   cases z with
   | cons G z=>
    cases z;obtain⟨t,rfl⟩:=r;obtain⟨t',rfl⟩:=r';obtain⟨J,rfl⟩:=G;refine call_range_3 c0 ?_ (.inl (PyProof.noPylong_small c1));refine wpAny_pyIter_range (IsRange.new ..) c2 ?_;have I2:Inv X pins σ H1 { B with heap:=B.heap.push { cls:=.type "range",data:=.fields #[.int i t,.int j t',.int k J] } }:=I1.kept (t':=B.toks) fun b o e=>Wt _ e;refine zZ (tk:=B.toks) I2 _ (fK _ i k n) ?_ q;have e1:i+((0:Nat):Int)*k=i:=by simp
    have e2:(n:Int)-((0:Nat):Int)=Builtin.Range.rangeSize i j k:=by rw[c3];simp
    show IsRangeIter _ _ (i+((0:Nat):Int)*k) ((n:Int)-((0:Nat):Int)) k;rw[e1,e2];exact Wv _ rfl
end
theorem JV{lo c:Int}{n:Nat}{g:TG}{tb:TS}{D:JD}{σ:St}{H:Hp}(j:Nat->St->Hp->Prop)(h0:j 0 σ H)
  (I:∀i σ H,i<n->j i σ H->g (.int (lo+(i:Nat)*c)) σ H fun B H2=>tb { D with nx:=j (i+1),ct:=j (i+1),bk:=D.nx } B H2) (hd:∀σ H,j n σ H->D.nx σ H) :
  ∃W:Nat->Nat->St->Hp->Prop,(∃m,W 0 m σ H)/\∀i m σ H,W i m σ H->
   ((Ac lo c n).stop i H/\D.nx σ H)\/((Ac lo c n).go i H/\∃N:St->Hp->Prop,(∀F H',N F H'->∃G,G<m/\W (i+1) G F H')/\∀x H',(Ac lo c n).yld i H x H'->g x σ H' fun B H2=>tb { D with nx:=N,ct:=N,bk:=D.nx } B H2):=by
 refine⟨fun i m σ H=>m=n-i/\i<=n/\j i σ H,⟨n,by simp,x4 _,h0⟩,?_⟩;rintro i m σ H ⟨rfl,hi,p⟩;by_cases z:i<n
 ·refine .inr ⟨z,j (i+1),fun F H' J=>⟨n-(i+1),by omega,Z,z,J⟩,fun x H' y=>?_⟩;obtain⟨e,y⟩:=y;subst e y;exact I i σ _ z p
 ·have e:i=n:=by omega
  subst e;exact .inl ⟨xM _,hd σ H p⟩
def Dj(K:xz)(a:Addr)(n:Nat):It:=
 ⟨fun i H=>i<n/\∃(xs:List V)(x:V),a' K H a xs/\xs[n-1-i]?=some x,fun i H x H'=>H'=H/\∀xs,a' K H a xs->xs[n-1-i]?=some x,fun i _=>n<=i⟩
theorem pV{P:Program}{w:World}{K:xz}{tg:Expr}(a it:Addr)(n:Nat):zg P w K tg (Dj K a n) [it] it (fun i h=>i<=n/\h.IsRevIter it a ((n:Int)-1-(i:Nat))) where
 mem:=by simp
 obj:=fun i h st b B=>by
  have e:b=it:=by simpa using B
  subst e;obtain⟨_,o,e,c,d⟩:=st;exact⟨o,e,fun v z=>by rw[d]at z;cases z⟩
 keep:=fun i h h' st k=>⟨st.1,st.2.at fun o e=>k it We o e⟩
 item:=by
  intro X J hw M hc i pins s σ H E I hf st O;subst J hw M;obtain⟨G,xs,x,hq,hx⟩:=O;obtain⟨a8,rv,p,hz⟩:=I.list hq;obtain⟨u,hu,ru⟩:=rv.get hx;obtain⟨U,f1,f2,f3,f4,f5⟩:=hf it We;obtain⟨_,j⟩:=st;have e1:(n:Int)-1-((i:Nat):Int)=((n-1-i:Nat):Int):=by omega
  rw[e1]at j;refine wpAny_pyNext_rev_item j p.isList (x:=u) (by simpa using hu) fun h' F sb=>?_;have e2:((n-1-i:Nat):Int)-1=(n:Int)-1-((i+1:Nat):Int):=by omega
  rw[e2]at F;have I1:Inv X pins σ H { s with heap:=h' }:=I.turned (t':=s.toks) (fun b o B e=>(sb.2 b B).trans e) U f1 f3 f4 f5;obtain⟨o,e,c,d⟩:=id F;exact⟨u,rfl,yh (s:={ s with heap:=h' }) e c d Wa ⟨x,H,I1,ru,⟨rfl,fun ys hy=>by rw[I.cM hy hq];exact hx⟩,⟨G,F⟩,fun b B=>(hf b B).1⟩⟩
 done:=by
  intro X J hw M hc i pins s σ H E I hf st O;subst J hw M;obtain⟨U,f1,f2,f3,f4,f5⟩:=hf it We;obtain⟨G,j⟩:=st;have aa:n<=i:=O;have e1:(n:Int)-1-((i:Nat):Int) = -1:=by omega
  rw[e1]at j;exact wpAny_pyNext_rev_end (I.ok.hd hc) j fun h' eb=>⟨Z,I.turned (t':=s.toks) (fun b o B e=>eb b o B e) U f1 f3 f4 f5⟩
 self:=fun A i s Q E st h=>wpAny_pyIter_revIter st.2 h
inductive wH(K:xz)(R:It->Hp->Prop)(vs:List V)(H1:Hp):Prop
 |mk (a:Addr) (xs:List V):vs=[.ref a]->a' K H1 a xs->R (Dj K a xs.length) H1->wH K R vs H1
def IJ(K:xz)(ta:TA):TI:=fun σ H R=>ta σ H (wH K R)
section
variable {X:Cx} {tg:Expr}
theorem fX{e:Expr}{ta:TA}{p pos:Pos}(n:Gl X "reversed")(z:X.mg "reversed" = none)(B:PA X [e] ta) (F:starEach [e] X.env=[(false,eval e X.env)]:=by rfl):PI X tg (.Call (.Name "reversed" p) [e] [] pos) (IJ X.K ta):=by
 intro pins s σ H R I h;refine Call_ (X6 I n z yy (PyProof.Rows.callWith_type1 (bx (B pos pins s σ H _ I h) fun us G ⟨vs,H1,j,J,M⟩=>?_) F Z));obtain⟨a,xs,e,O,q⟩:=M;subst e;cases J with
 | cons r U=>
  cases U;cases r;obtain⟨a8,rv,p',hz⟩:=j.list O;have hl:=rv.length;have e1:((a8.toArray.size:Nat):Int)-1=(xs.length:Int)-1-((0:Nat):Int):=by simp only[xQ];omega
  refine call_reversed_list p'.isList (wpAny_pyIter_revIter (l:=a) (i:=((a8.toArray.size:Nat):Int)-1) ⟨_,Wv _ Z,Z,Z⟩ ?_);refine zZ (tk:=G.toks) j _ (pV a _ xs.length) ⟨x4 _,?_⟩ q;rw[<-e1];exact⟨_,Wv _ Z,Z,Z⟩
end
def Fp(x:Str):It:=⟨fun i _=>i<x.cps.size,fun i H v H'=>H'=H/\∃c,x.cps[i]?=some c/\v=.str ⟨#[c]⟩,fun i _=>x.cps.size<=i⟩
theorem gw{P:Program}{w:World}{K:xz}{tg:Expr}(it:Addr)(x:Str)(t:Tok)(ty:String)(j:ty = "str_ascii_iterator" \/ ty = "str_iterator") :
  zg P w K tg (Fp x) [it] it (fun i h=>h.IsStrIter it ty x t i) where
 mem:=by simp
 obj:=fun i h st b n=>by
  have e:b=it:=by simpa using n
  subst e;obtain⟨o,e,c,d⟩:=st;exact⟨o,e,fun v z=>by rw[d]at z;cases z⟩
 keep:=fun i h h' st k=>let ⟨o,ho,r⟩:=st;⟨o,k it We o ho,r⟩
 item:=by
  intro X O hw U hc i pins s σ H E I hf st hg;subst O hw U;obtain⟨F,f1,f2,G,J,M⟩:=hf it We
  have W:Walks X.prog X.w X.A it [it] [it] x.cps.size (SignAt x) (fun i h=>h.IsStrIter it ty x t i):=by
   rcases j with e|e
   ·rw[e];exact Walks.strAscii (I.ok.hd hc) it x t
   ·rw[e];exact Walks.strWide (I.ok.hd hc) it x t
  have aa:["enumerate","zip","dict_itemiterator","dict_reverseitemiterator","odict_iterator","itertools.zip_longest","itertools.pairwise"].contains ty=false:=by
   rcases j with e|e
   ·rw[e];decide
   ·rw[e];decide
  refine W.item i s _ _ hg st fun v h' tk hv B kk=>?_;obtain⟨c,u,ab,rfl⟩:=hv;have I1:Inv X pins σ H { s with heap:=h',toks:=tk }:=I.turned (fun b o n e=>kk b o (by simpa using n) e) F f1 G J M;obtain⟨oi,e,cc,dd⟩:=id B;exact⟨_,rfl,yh (s:={ s with heap:=h',toks:=tk }) e cc dd aa ⟨.str ⟨#[c]⟩,H,I1,⟨u,rfl⟩,⟨rfl,c,ab,rfl⟩,B,fun b n=>(hf b n).1⟩⟩
 done:=by
  intro X O hw U hc i pins s σ H E I hf st hg;subst O hw U;obtain⟨F,f1,f2,G,J,M⟩:=hf it We;have hx:x.cps[i]?=none:=VX hg;rcases j with e|e
  ·rw[e]at st;exact wpAny_pyNext_ascii_end (I.ok.hd hc) st hx fun h' eb=>⟨Z,I.turned (t':=s.toks) (fun b o n e=>eb b o n e) F f1 G J M⟩
  ·rw[e]at st;exact wpAny_pyNext_wide_end (I.ok.hd hc) st hx fun h' eb=>⟨Z,I.turned (t':=s.toks) (fun b o n e=>eb b o n e) F f1 G J M⟩
 self:=fun A i s Q E st h=>by
  rcases j with e|e
  ·rw[e]at st;exact wpAny_pyIter_striter_ascii st h
  ·rw[e]at st;exact wpAny_pyIter_striter_wide st h
def HL(te:TE):TI:=fun σ H R=>te σ H fun v H1=>∃x,v=.str x/\R (Fp x) H1
theorem BD{X:Cx}{tg e:Expr}{te:TE}(B:PE X e te):PI X tg e (HL te):=by
 intro pins s σ H R I h;refine bx (B pins s σ H _ I h) fun v j ⟨y,H1,n,F,x,ex,q⟩=>?_;subst ex;obtain⟨t,rfl⟩:=F;cases z:x.cps.all (· < 128)
 ·exact wpAny_pyIter_wide z (zZ (tk:=j.toks) n _ (gw _ x t "str_iterator" (.inr Z)) ⟨_,Wv _ Z,Z,Z⟩ q)
 ·exact wpAny_pyIter_ascii z (zZ (tk:=j.toks) n _ (gw _ x t "str_ascii_iterator" (.inl Z)) ⟨_,Wv _ Z,Z,Z⟩ q)
section
variable {prog:Program} {w:World} {A:Around} {E:Value->Shared->Prop} {s:Shared}
theorem nj{d:Addr}{o:Obj}{es:Array DictEntry}{ep:Nat}{Q:Value->Shared->Prop} (hd:(d==sysModules)=false) (n:s.heap.get? d=some o) (hc:o.ExactDict) (j:o.data=.dict es ep)
  (B:Q (.ref s.heap.objs.size) { s with heap:=s.heap.push { cls:=.type "dict_keyiterator",data:=.fields #[.ref d,.int 0 0,.int es.size 0,.int ep 0] } }) :
  wpAny (model prog w) A (pyIter (.ref d)) Q E s:=by
 have z:s.TypeIs (.ref d) "dict" := ⟨o,n,hc.1⟩;refine wpAny_pyIter_slot z F.slot_dict_iter (wpAny_call_entry F.slot_dict_iter z F.entry_dict_iter ?_ (F.args_dict_iter_1 _));unfold Builtin.«dict.__iter__»;refine wpAny_bind ?_;unfold Builtin.Dict.dictSlotNone;refine wpAny_bind (wpAny_notOrdered_dict z ?_);show wpAny _ _ (pure (Value.ref d)) _ _ s;refine wpAny_pure ?_;show wpAny _ _ (Builtin.Dict.showsAll d >>= _) _ _ s;unfold Builtin.Dict.showsAll;rw[Wh (by rw[hd];exact xX)];refine wpAny_bind (wpAny_pure ?_);refine wpAny_bind (wpAny_dictEntries n j ?_);refine wpAny_bind (wpAny_dictEpoch n j ?_);refine wpAny_bind (wpAny_newObj_type (wpAny_pure ⟨_,Z,"dict_keyiterator",_,⟨_,Wv _ Z,Z⟩,F.slot_dict_keyiterator_next.lookup,?_⟩));simpa [rawInt] using B
theorem yG{it d:Addr}{i n ep:Nat}{U:Obj}{es:Array DictEntry}{en:DictEntry}{Q:Option Value->Shared->Prop}(j:s.heap.IsKeyIter it d i n ep)(B:s.heap.get? d=some U)(G:U.data=.dict es ep)
  (hsz:es.size=n) (hx:es[i]?=some en) (hQ:∀h',h'.IsKeyIter it d (i+1) n ep->Heap.SameBut it s.heap h'->Q (some en.key) { s with heap:=h' }):wpAny (model prog w) A (pyNext (.ref it)) Q E s:=by
 obtain⟨o,M,hc,hd⟩:=id j;unfold pyNext
 refine wpAny_bind (wpAny_attempt (wpAny_callSpecial?_slot (name:=xC "__next__") j.typeIs F.slot_dict_keyiterator_next
  (wpAny_call_entry F.slot_dict_keyiterator_next j.typeIs F.entry_dict_keyiterator_next ?_ (F.args_dict_keyiterator_next_1 _))))
 refine wpAny_bind (wpAny_pure ?_);refine wpAny_bind ?_;refine wpAny_bind ?_;first|refine wpAny_bind (wpAny_typeNameOfWhole_keyiter j.typeIs (wpAny_pure ?_))|refine wpAny_bind (wpAny_typeNameOf_keyiter j.typeIs (wpAny_pure ?_))
 refine wpAny_bind (wpAny_fieldsOf M hd ?_);have I:Builtin.Dict_items.ownsTuple "dict_keyiterator" = false:=by decide
 simp only[I,G6,Wr];show wpAny _ _ (if(Value.ref d==Value.none)=true then _ else _) _ _ s;rw[Wh (show ¬((Value.ref d==Value.none)=true) from xX)];refine wpAny_bind (wpAny_pure ?_);refine wpAny_bind (wpAny_dictEntries B G ?_);rw[Wh (by rw[hsz];simp)];refine wpAny_bind (wpAny_pure ?_);refine wpAny_bind (wpAny_dictEpoch B G ?_);rw[Wh We];refine wpAny_pure ?_;obtain⟨J,O⟩:=Array.getElem?_eq_some_iff.mp hx;simp only[show ¬((i:Int)<0) from by omega,Wr,Ub,GV J];refine wpAny_bind ?_;first|refine wpAny_bind (wpAny_typeNameOfWhole_keyiter j.typeIs (wpAny_pure ?_))|refine wpAny_bind (wpAny_typeNameOf_keyiter j.typeIs (wpAny_pure ?_))
 refine wpAny_bind (wpAny_isOneOf_keyiter j.typeIs ?_);show wpAny _ _ (setField (.ref it) 1 (rawInt ((i:Int)+1)) >>= _) _ _ s;refine wpAny_bind (wpAny_setField M hd We ?_)
 have z:(s.heap.update it (Obj.mapFields (·.setIfInBounds 1 (rawInt ((i:Int)+1))))).IsKeyIter it d (i+1) n ep:=
  ⟨_,Heap.get?_update_self _ M (Obj.isFreed_of_fields (Obj.data_mapFields hd _)),(Obj.cls_mapFields ..).trans hc,by rw[Obj.data_mapFields hd];simp[rawInt]⟩
 refine wpAny_bind (wpAny_holding ?_);refine wpAny_bind (wpAny_isOneOf_keyiter (s:={ s with heap:=s.heap.update it (Obj.mapFields (·.setIfInBounds 1 (rawInt ((i:Int)+1)))) }) z.typeIs ?_);show wpAny _ _ (pure es[i].key) _ _ _;rw[O];exact wpAny_pure (wpAny_pure ⟨_,rfl,wpAny_pure (hQ _ z (Heap.SameBut.update ..))⟩)
theorem jY{it d:Addr}{i n ep:Nat}{M:Obj}{es:Array DictEntry}{Q:Option Value->Shared->Prop}(U:A.handled=none)(j:s.heap.IsKeyIter it d i n ep)(z:s.heap.get? d=some M)(B:M.data=.dict es ep)
  (hsz:es.size=n) (J:n<=i) (hQ:∀h',Heap.ExtBut it s.heap h'->Q none { s with heap:=h' }):wpAny (model prog w) A (pyNext (.ref it)) Q E s:=by
 obtain⟨o,O,hc,hd⟩:=id j;unfold pyNext
 refine wpAny_bind (wpAny_attempt (wpAny_callSpecial?_slot (name:=xC "__next__") j.typeIs F.slot_dict_keyiterator_next
  (wpAny_call_entry F.slot_dict_keyiterator_next j.typeIs F.entry_dict_keyiterator_next ?_ (F.args_dict_keyiterator_next_1 _))))
 refine wpAny_bind (wpAny_pure ?_);refine wpAny_bind ?_;refine wpAny_bind ?_;first|refine wpAny_bind (wpAny_typeNameOfWhole_keyiter j.typeIs (wpAny_pure ?_))|refine wpAny_bind (wpAny_typeNameOf_keyiter j.typeIs (wpAny_pure ?_))
 refine wpAny_bind (wpAny_fieldsOf O hd ?_);have G:Builtin.Dict_items.ownsTuple "dict_keyiterator" = false:=by decide
 simp only[G,G6,Wr];show wpAny _ _ (if(Value.ref d==Value.none)=true then _ else _) _ _ s;rw[Wh (show ¬((Value.ref d==Value.none)=true) from xX)];refine wpAny_bind (wpAny_pure ?_);refine wpAny_bind (wpAny_dictEntries z B ?_);rw[Wh (by rw[hsz];simp)];refine wpAny_bind (wpAny_pure ?_);refine wpAny_bind (wpAny_dictEpoch z B ?_);rw[Wh We];refine wpAny_pure ?_;have I:es.size<=i:=by rw[hsz];exact J
 simp only[show ¬((i:Int)<0) from by omega,Wr,Ub,VX I];refine wpAny_bind ?_;first|refine wpAny_bind (wpAny_typeNameOfWhole_keyiter j.typeIs (wpAny_pure ?_))|refine wpAny_bind (wpAny_typeNameOf_keyiter j.typeIs (wpAny_pure ?_))
 show wpAny _ _ (setField (.ref it) 0 .none >>= _) _ _ s;refine wpAny_bind (wpAny_setField O hd We ?_);show wpAny _ _ (newExc (.type "StopIteration") [] >>= _) _ _ _;refine wpAny_bind ?_;simp only[newExc,newTuple];refine wpAny_bind (wpAny_newObj_type ?_ (by size_fits));refine wpAny_bind (m:=firstArgMember _ _) (wpAny_of_eq (a:=Value.none) (by first|rfl|(simp only[firstArgMember];rfl)) ?_);refine wpAny_newObj_type ?_ (by size_fits);simp only[raiseNew];refine wpAny_bind (wpAny_handled ?_);rw[show A.in1.handled=none from U];refine wpAny_bind (wpAny_pure (wpAny_throw ?_));refine wpAny_bind (wpAny_isInstance (T := "StopIteration") (b:=true) ⟨_,Wv _ Z,Z⟩ isSubtype_stop ?_);exact wpAny_pure (hQ _ (((Heap.SameBut.update ..).extBut.push _).push _))
end
section
variable {X:Cx} {pins:List (Addr×Obj)} {σ:St} {H:Hp} {s:Shared} {d:Addr} {o:Obj}
end
section
variable {P:Program} {w:World} {K:xz} {tg:Expr} {d:Addr} {o:Obj} {es:Array DictEntry} {ep:Nat}
end
section
variable {X:Cx} {tg e:Expr} {td:TE} {apos d8:Pos}
end
def Ei(K:xz)(a:Addr):It:=
 ⟨fun i H=>∃(xs:List V)(x:V),a' K H a xs/\xs[i]?=some x,fun i H v H'=>∃T x,v=.ref T/\H T=none/\H'=upd H T (.tup [.int (i:Nat),x])/\∀xs,a' K H a xs->xs[i]?=some x,fun i H=>∃xs:List V,a' K H a xs/\xs.length<=i⟩
theorem mW{P:Program}{w:World}{K:xz}{M:List Expr}{kk:Nat}{dD:Pos}(a e it:Addr) :
  zg P w K (.Tuple M kk dD) (Ei K a) [e,it] e (fun i h=>(∃j,IsEnum h e it ((i:Nat):Int) j)/\h.IsListIter it a i/\e≠it) where
 mem:=by simp
 obj:=fun i h st b B=>by
  obtain⟨⟨j,F⟩,⟨o,ho,hc,hd⟩,_⟩:=st;have e':b=e\/b=it:=by simpa using B
  rcases e' with z|z
  ·rw[z];exact⟨_,F,fun v q=>nomatch q⟩
  ·rw[z];exact⟨o,ho,fun v q=>by rw[hd]at q;cases q⟩
 keep:=fun i h h' st k=>let ⟨⟨j,F⟩,hi,n⟩:=st;⟨⟨j,k e We _ F⟩,hi.at fun o q=>k it We o q,n⟩
 item:=by
  intro X hP hw hK hc i pins s σ H E I hf st hg;subst hP hw hK;obtain⟨⟨j,F⟩,G,n⟩:=st;obtain⟨xs,x,hq,hx⟩:=hg;obtain⟨a8,rv,p,hz⟩:=I.list hq;obtain⟨u,hu,ru⟩:=rv.get hx;have O:e<s.heap.objs.size:=Wu F;have aa:it<s.heap.objs.size:=by obtain⟨_,q,_⟩:=G;exact Wu q
  refine wpAny_pyNext_enum_item F G p.isList (x:=u) (by simpa using hu) n fun h' ho U hT hsz hk=>?_;refine⟨_,Z,wpAny_letOwnedTupleGo_enum (s:={ s with heap:=h',toks:=s.toks+1 }) ho fun J ab sb=>?_⟩;have ac:J.get? s.heap.objs.size=some { cls:=.type "tuple",data:=.seq #[.int i s.toks,u] }:=(sb.2 _ (G8 O)).trans hT
  have ad:Zh X.prog X.w (upd H s.heap.objs.size (.tup [.int (i:Nat),x])) J s.heap.objs.size (.tup [.int (i:Nat),x]):=
   ⟨by show 2<=sizeLine;decide,[.int i s.toks,u],.cons ⟨_,Z⟩ (.cons ru .nil),⟨_,ac,Z,_,Z⟩⟩
  have I1:Inv X pins σ (upd H s.heap.objs.size (.tup [.int (i:Nat),x])) { s with heap:=J,toks:=s.toks+1 }:=
   I.dO (ch:=[e,it]) (fun b ob B q=>(sb.2 b (fun z=>B (by simp[z]))).trans (hk b ob (fun z=>B (by simp[z])) (fun z=>B (by simp[z])) q)) hf (xM _) ad
  refine⟨.ref s.heap.objs.size,_,I1,Z,⟨_,x,Z,I.bp.fresh (xM _),Z,fun ys hy=>by rw[I.cM hy hq];exact hx⟩,⟨⟨u,?_⟩,U.at fun o q=>(sb.2 it (Ne.symm n)).trans q,n⟩,fun b B=>?_⟩
  ·have e1:((i+1:Nat):Int)=(i:Int)+1:=by omega
   rw[e1];exact ab
  ·have af:b<s.heap.objs.size:=by
    have e':b=e\/b=it:=by simpa using B
    rcases e' with z|z
    ·rw[z];exact O
    ·rw[z];exact aa
   rw[Qh (x3 af)];exact(hf b B).1
 done:=by intro X hP hw hK hc i pins s σ H E I hf st hg;subst hP hw hK;obtain⟨⟨j,F⟩,G,n⟩:=st;obtain⟨xs,hq,hx⟩:=hg;obtain⟨a8,rv,p,hz⟩:=I.list hq;obtain⟨f0,f1,f2,f3,f4,f5⟩:=hf it We;have hl:=rv.length;exact wpAny_pyNext_enum_end (I.ok.hd hc) F G p.isList (by simp;omega) fun h' eb=>⟨Z,I.turned (t':=s.toks) (fun b o B q=>eb b o B q) f0 f1 f3 f4 f5⟩
 self:=fun A i s Q E st h=>let ⟨⟨_,F⟩,_⟩:=st;wpAny_pyIter_enum F h
inductive rR(K:xz)(R:It->Hp->Prop)(vs:List V)(H1:Hp):Prop
 |mk (a:_) (xs:_):vs=[.ref a]->a' K H1 a xs->R (Ei K a) H1->rR K R vs H1
def DN(K:xz)(ta:TA):TI:=fun σ H R=>ta σ H (rR K R)
theorem Jq{X:Cx}{e:Expr}{ta:TA}{p pos dD:Pos}{n:List Expr}{kk:Nat}(M:Gl X "enumerate")(O:X.mg "enumerate" = none)(U:PA X [e] ta) (hs:starEach [e] X.env=[(false,eval e X.env)]:=by rfl) :
  PI X (.Tuple n kk dD) (.Call (.Name "enumerate" p) [e] [] pos) (DN X.K ta):=by
 intro pins s σ H R I h;refine Call_ (X6 I M O boot_enumerate (PyProof.Rows.callWith_type1 (bx (U pos pins s σ H _ I h) fun us j ⟨vs,H1,F,r1,q1⟩=>?_) hs Z));obtain⟨a,xs,ex,hq,q⟩:=q1;subst ex;cases r1 with
 | cons r rr=>
  cases rr;cases r;obtain⟨a8,rv,p',hz⟩:=F.list hq;refine call_enumerate_list p'.isList fun h' J G hsz hk=>wpAny_pyIter_enum J ?_;have I2:Inv X pins σ H1 { j with heap:=h' }:=F.kept (t':=j.toks) hk;refine⟨j.heap.objs.size+1,[j.heap.objs.size+1,j.heap.objs.size],_,_,H1,rfl,I2,mW a (j.heap.objs.size+1) j.heap.objs.size,⟨⟨.none,J⟩,G,Qa8 _⟩,fun b hb=>?_,q⟩;have e':b=j.heap.objs.size+1\/b=j.heap.objs.size:=by simpa using hb
  have B:j.heap.objs.size<=b:=by
   rcases e' with z|z
   ·rw[z];exact UR _ _
   ·rw[z];exact xM _
  exact F.gF B (F.bp.fresh B)
theorem ng:bootBuiltins "zip" = some (.type "zip"):=by decide +kernel
def Fs(K:xz)(a b:Addr):It:=
 ⟨fun i H=>∃(xs ys:List V)(x y:V),a' K H a xs/\a' K H b ys/\xs[i]?=some x/\ys[i]?=some y,
  fun i H v H'=>∃T x y,v=.ref T/\H T=none/\H'=upd H T (.tup [x,y])/\(∀xs,a' K H a xs->xs[i]?=some x)/\∀ys,a' K H b ys->ys[i]?=some y,
  fun i H=>∃xs ys:List V,a' K H a xs/\a' K H b ys/\(xs.length<=i\/ys.length<=i)⟩
theorem tY{P:Program}{w:World}{K:xz}{ab:List Expr}{kk:Nat}{dD:Pos}{a b z TI TO i1 G:Addr}(D:ZipApart z TI TO i1 G a b) :
  zg P w K (.Tuple ab kk dD) (Fs K a b) [z,TI,TO,i1,G] z (fun i h=>IsZip h z TI TO .none/\IsPair h TI (.ref i1) (.ref G)/\(∃x y,IsPair h TO x y)/\h.IsListIter i1 a i/\h.IsListIter G b i) where
 mem:=by simp
 obj:=fun i h st c hc=>by
  obtain⟨hz,j,⟨x,y,n⟩,⟨o1,e1,_,d1⟩,⟨o2,e2,_,d2⟩⟩:=st;have e':c=z\/c=TI\/c=TO\/c=i1\/c=G:=by simpa using hc
  rcases e' with q|q|q|q|q
  ·rw[q];exact⟨_,hz,fun v q=>nomatch q⟩
  ·rw[q];exact⟨_,j,fun v q=>nomatch q⟩
  ·rw[q];exact⟨_,n,fun v q=>nomatch q⟩
  ·rw[q];exact⟨o1,e1,fun v q=>by rw[d1]at q;cases q⟩
  ·rw[q];exact⟨o2,e2,fun v q=>by rw[d2]at q;cases q⟩
 keep:=fun i h h' st k=>by
  obtain⟨hz,j,⟨x,y,n⟩,h1,h2⟩:=st;exact⟨k z We _ hz,k TI We _ j,⟨x,y,k TO We _ n⟩,h1.at fun o q=>k i1 We o q,h2.at fun o q=>k G We o q⟩
 item:=by
  intro X hP hw hK hc i pins s σ H E I hf st hg;subst hP hw hK;obtain⟨hz,j,⟨x0,y0,n⟩,h1,h2⟩:=st;obtain⟨xs,ys,x,y,J,M,hx,hy⟩:=hg;obtain⟨a8,rv,p,_⟩:=I.list J;obtain⟨O,U,p2,_⟩:=I.list M;obtain⟨u,hu,ru⟩:=rv.get hx;obtain⟨u2,ag,ah⟩:=U.get hy;have ac:z<s.heap.objs.size:=Wu hz;refine wpAny_pyNext_zip_item D hz j n h1 h2 p.isList p2.isList (x:=u) (y:=u2) (by simpa using hu) (by simpa using ag) fun h' z' ai aj ak hT hsz hk=>?_;refine⟨_,Z,wpAny_letOwnedTupleGo_zip (s:={ s with heap:=h' }) z' fun aa an sb=>?_⟩;have ao:aa.get? s.heap.objs.size=some { cls:=.type "tuple",data:=.seq #[u,u2] }:=(sb.2 _ (G8 ac)).trans hT
  have aq:Zh X.prog X.w (upd H s.heap.objs.size (.tup [x,y])) aa s.heap.objs.size (.tup [x,y]):=
   ⟨by show 2<=sizeLine;decide,[u,u2],.cons ru (.cons ah .nil),⟨_,ao,Z,_,Z⟩⟩
  have I1:Inv X pins σ (upd H s.heap.objs.size (.tup [x,y])) { s with heap:=aa }:=
   I.dO (t':=s.toks) (ch:=[z,TI,TO,i1,G]) (fun c o F q=>(sb.2 c (fun B=>F (by simp[B]))).trans (hk c o (fun B=>F (by simp[B])) (fun B=>F (by simp[B])) (fun B=>F (by simp[B])) (fun B=>F (by simp[B])) q)) hf (xM _) aq
  refine⟨.ref s.heap.objs.size,_,I1,Z,⟨_,x,y,Z,I.bp.fresh (xM _),Z,fun l hl=>by rw[I.cM hl J];exact hx,fun l hl=>by rw[I.cM hl M];exact hy⟩,⟨an,?_,⟨u,u2,?_⟩,?_,?_⟩,fun c ad=>?_⟩
  ·exact(sb.2 _ D.TIz).trans (hk _ _ D.TIz D.TITO D.TIi1 D.TIi2 j)
  ·exact(sb.2 _ D.TOz).trans ai
  ·exact aj.at fun o q=>(sb.2 _ D.i1z).trans q
  ·exact ak.at fun o q=>(sb.2 _ D.i2z).trans q
  ·have au:c<s.heap.objs.size:=by
    have e':c=z\/c=TI\/c=TO\/c=i1\/c=G:=by simpa using ad
    rcases e' with q|q|q|q|q
    ·rw[q];exact ac
    ·rw[q];exact Wu j
    ·rw[q];exact Wu n
    ·rw[q];obtain⟨_,e1,_⟩:=h1;exact Wu e1
    ·rw[q];obtain⟨_,e2,_⟩:=h2;exact Wu e2
   rw[Qh (x3 au)];exact(hf c ad).1
 done:=by
  intro X hP hw hK hc i pins s σ H E I hf st hg;subst hP hw hK;obtain⟨hz,j,⟨x0,y0,n⟩,h1,h2⟩:=st;obtain⟨xs,ys,J,M,af⟩:=hg;obtain⟨a8,rv,p,_⟩:=I.list J;obtain⟨O,U,p2,_⟩:=I.list M;have l1:=rv.length;have l2:=U.length
  have he:a8.toArray[i]?=none\/O.toArray[i]?=none:=by
   rcases af with q|q
   ·exact .inl (by simp;omega)
   ·exact .inr (by simp;omega)
  exact wpAny_pyNext_zip_end (I.ok.hd hc) D hz j n h1 h2 p.isList p2.isList he fun h' hk=>⟨Z,I.uI (t':=s.toks) (ch:=[z,TI,TO,i1,G]) (fun c o F q=>
   hk c o (fun B=>F (by simp[B])) (fun B=>F (by simp[B])) (fun B=>F (by simp[B])) (fun B=>F (by simp[B])) q) hf⟩
 self:=fun A i s Q E st h=>wpAny_pyIter_zip st.1 h
def Kz(K:xz)(ta:TA):TI:=fun σ H R=>ta σ H fun vs H1=>∃a b xs ys,vs=[.ref a,.ref b]/\a' K H1 a xs/\a' K H1 b ys/\R (Fs K a b) H1
theorem uk{X:Cx}{e n:Expr}{ta:TA}{p pos dD:Pos}{B:List Expr}{kk:Nat}(hg:Gl X "zip")(hm:X.mg "zip" = none)(ha:PA X [e,n] ta)
  (hs:starEach [e,n] X.env=(false,eval e X.env)::starEach [n] X.env:=by rfl) (J:(backTo pos (starEach [n] X.env)).any (·.1)=false:=by rfl) :
  PI X (.Tuple B kk dD) (.Call (.Name "zip" p) [e,n] [] pos) (Kz X.K ta):=by
 intro pins s σ H R I h;refine Call_ (X6 I hg hm ng (PyProof.Rows.callWith_type1 (bx (ha pos pins s σ H _ I h) fun us j ⟨vs,H1,F,r1,q1⟩=>?_) hs J));obtain⟨a,b,xs,ys,ex,M,O,q⟩:=q1;subst ex;cases r1 with
 | cons r U=>
  cases U with
  | cons r' U=>
   cases U;cases r;cases r';obtain⟨a8,rv,p1,_⟩:=F.list M;obtain⟨ad,af,p2,_⟩:=F.list O;have la:a<j.heap.objs.size:=p1.lt;have lb:b<j.heap.objs.size:=p2.lt;refine call_zip_2 p1.isList p2.isList fun h' hz aa ab h1 h2 hsz hk=>wpAny_pyIter_zip hz ?_;have I2:Inv X pins σ H1 { j with heap:=h' }:=F.kept (t':=j.toks) hk;refine⟨j.heap.objs.size+4,[j.heap.objs.size+4,j.heap.objs.size+2,j.heap.objs.size+3,j.heap.objs.size,j.heap.objs.size+1],_,_,H1,rfl,I2,tY (PySem.W.ktu_apart j.heap.objs.size a b la lb),⟨hz,aa,⟨_,_,ab⟩,h1,h2⟩,fun c ac=>?_,q⟩;have e':c=j.heap.objs.size+4\/c=j.heap.objs.size+2\/c=j.heap.objs.size+3\/c=j.heap.objs.size\/c=j.heap.objs.size+1:=by simpa using ac
   have G:j.heap.objs.size<=c:=by
    rcases e' with z|z|z|z|z
    ·rw[z];exact UR _ _
    ·rw[z];exact UR _ _
    ·rw[z];exact UR _ _
    ·rw[z];exact xM _
    ·rw[z];exact UR _ _
   exact F.gF G (F.bp.fresh G)
end L2
section
namespace Bits
open PySem PyProof.Rows
end Bits
end
section
namespace TL
open PySem PySem.Builtin PySem.Builtin.Str PySem.StrLaws
abbrev tl(x:Str):List Nat:=x.cps.toList
theorem gC(s:String):tl (xC s)=s.toList.map Char.toNat:=PyProof.Rows.signs_ofString s
theorem lU{x y:Str} (h:y.cps.all (· < 256)=true):¬Builtin.Str.strKind x<Builtin.Str.strKind y:=by
 have e:Builtin.Str.strKind y=1:=by unfold PySem.Builtin.Str.strKind;rw[Wi h]
 rw[e];unfold PySem.Builtin.Str.strKind;split
 ·omega
 ·split<;>omega
end TL
end
namespace L2
open PySem PySem.Spec PyProof.Rows
section
variable {X:Cx} {pins:List (Addr×Obj)} {σ:St} {H:Hp} {s:Shared} {Q:VK}
end
section
variable {X:Cx}
end
section
variable {X:Cx} {o e:Expr} {to te:TE}
end
section
variable {X:Cx}
end
end L2
namespace Att
open PySem PySem.W PySem.Calls PyProof.Rows
section
variable {prog:Program} {w:World} {A:Around} {E:Value->Shared->Prop} {s:Shared} {K:Frag}
end
end Att
namespace L2
open PySem PySem.Spec PyProof.Rows
def inClass(s:Stmt)(j:Nat):Stmt:=match s with
 |.ClassDef _ _ _ n _ _ _ _ _ _ _=>n.getD j (.Pass ⟨0,0,0,0⟩)
 |_=>.Pass ⟨0,0,0,0⟩
def bY(s:Stmt):Arguments:=match s with
 |.FunctionDef _ a _ _ _ _ _ _ _ _=>a
 |_=>{ posonlyargs:=[],args:=[],vararg:=none,kwonlyargs:=[],kw_defaults:=[],kwarg:=none,defaults:=[] }
def bQ(s:Stmt):List Stmt:=match s with
 |.FunctionDef _ _ b _ _ _ _ _ _ _=>b
 |_=>[]
def a6(s:Stmt):Scope:=match s with
 |.FunctionDef _ _ _ _ _ _ sc _ _ _=>sc
 |_=>{ kind:=.function,names:=[],isGenerator:=false,isCoroutine:=false }
abbrev bB:oM:=fun _ _ _ _ _ _=>False
abbrev E0:XK:=fun _ _ _=>False
theorem Zc{X:Cx}:JZ bB X E0:=fun _ _ _ _ _ _ _ h=>h.elim
structure bF(K:xz)(x qual:Str)(st:Stmt)(f:Addr)(fd:FuncData):Prop where
 ex:∃(oc:Value) (od:Option Addr) (kV doc pm:Value) (an:Option Addr) (KN ct:Value) (K9:Array (Option Value)),
  fd=G9 x qual (bY st) (bQ st) (a6 st) .none kV doc pm an KN ct/\K.lookup f=some ⟨oc,od,.func fd,K9⟩/\Ve K KN qual=true
 kp:GR K (.ref f)=true
section
variable {P:Program} {w:World} {K:xz} {mg:Str->Option Value} {base:Heap}
theorem bF.ok{x j:Str}{st:Stmt}{f:Addr}{fd:FuncData}{N ps:List Str}{k:Nat}{sp:Sp}(F:bF K x j st f fd) (S:a7 N ps (a6 st)) (len:∀vs H Q E,sp vs H Q E->vs.length=ps.length)
  (z:∀(n:Value)(A:Around)(outer:List Env)(s:Shared)(H:Hp)(vs:List V)(Q:VK)(E:XK),ZJ k (A.deeper (envOfC j (a6 st) s.heap.objs.size f n))->sp vs H Q E->
   ∃t,l7 (kf bB P w K mg base N j (a6 st) f n A outer s H E).E6 (bQ st) t/\t { nx:=fun _ H'=>Q .bP H',rt:=Q } (YO N vs) H):QC P w K mg base bB (k+1) f fd ps sp:=by
 obtain⟨O,U,kV,I,pm,an,n,ct,J,rfl,M,B⟩:=F.ex;refine EI M B S len fun A outer s H vs Q E hr G=>?_;obtain⟨t,h,q⟩:=z n A outer s H vs Q E hr G;exact⟨t,h.E6,q⟩
theorem bF.binds{x j:Str}{st:Stmt}{f:Addr}{fd:FuncData}{ps:List Str}(F:bF K x j st f fd)
  (h:∀(kV n B:Value)(G:Option Addr)(z ct:Value)(us:List Value),us.length=ps.length->bindArgs (G9 x j (bY st) (bQ st) (a6 st) .none kV n B G z ct) ⟨us,[]⟩=pure (ps.zip us)):Xr K fd ps []:=by
 obtain⟨M,O,kV,n,B,G,z,ct,I,rfl,U,J⟩:=F.ex;exact .all (h kV n B G z ct)
theorem yk{x j:Str}{st:Stmt}{f:Addr}{I:Value}{J F:Option Addr} {B:Array (Option Value)} {kV z G n ct:Value} (l:K.lookup f=some ⟨I,J,.func (G9 x j (bY st) (bQ st) (a6 st) .none kV z G F n ct),B⟩)
  (c:Ve K n j=true) (k:GR K (.ref f)=true):bF K x j st f (G9 x j (bY st) (bQ st) (a6 st) .none kV z G F n ct):=⟨⟨I,J,kV,z,G,F,n,ct,B,Z,l,c⟩,k⟩
end
theorem Jc{A:Around}{k:Nat}(hr:ZJ k A):A.units+1<cLine:=xV (Nat.add_le_add_left (by decide:1<=64) _) hr.units
section
variable {X:Cx}
theorem pv(i:Nat){x:Str}{pos:Pos}(n:X.N[i]?=some x:=by rfl) (z:vO X.env.scope x:=by first|exact G1 rfl|exact UJ (G1 Z)|exact UJ (UJ Z)) (hd:(x==("__debug__" : Str))=false:=by decide)
  (j:(x==("__classdict__" : Str))=false:=by decide):PE X (.Name x pos) (ZH i):=jU n z hd j
theorem nJ:qv X (.builtin "len") (fun xs H Q=>∃a kvs,xs=[V.ref a]/\H a=some (.dK kvs)/\Q (.int kvs.length) H):=by intro pins s σ H xs us Q I r h;obtain⟨a,kvs,rfl,j,q⟩:=h;obtain⟨u,rfl,n⟩:=vals1 r;cases n;exact D0 I (.inl j) fun t s' z=>⟨.int kvs.length,H,z,⟨t,Z⟩,q⟩
end
theorem Jb{A B:Prop}(h:B):if false=true then A else B:=by rw[Wh xX];exact h
theorem ZG{A B:Prop}(h:A):if true=true then A else B:=by rw[Wi Z];exact h
theorem Qz{c A B:Prop} [Decidable c] (h1:c->A) (h2:¬c->B):if c then A else B:=by
 by_cases h:c
 ·rw[Wi h];exact h1 h
 ·rw[Wh h];exact h2 h
def Qn(H H':Hp):Prop:=∀b o,H b=some o->H' b=some o
theorem Qn.refl(H:Hp):Qn H H:=fun _ _ h=>h
theorem Qn.trans{H H1 H2:Hp}(a:Qn H H1)(b:Qn H1 H2):Qn H H2:=fun c o h=>b c o (a c o h)
theorem Qn.free{H H':Hp}(e:Qn H H'){l:Addr}(h:H' l=Option.none):H l=Option.none:=by
 cases q:H l with
 |none=>rfl
 | some o=>
  rw[e l o q]at h;cases h
theorem Qn.seq{K:xz}{H H':Hp}{a:Addr}{xs:List V}(e:Qn H H')(h:a' K H a xs):a' K H' a xs:=by
 rcases h with(h|⟨o,h⟩)|h
 ·exact .inl (.inl (e _ _ h))
 ·exact .inl (.inr ⟨o,e _ _ h⟩)
 ·exact .inr h
section
variable {κ:Type} [DecidableEq κ]
theorem lO:∀{l:List κ} {k:κ},l.Nodup->¬k∈l->(l++[k]).Nodup
 |[],k,_,_=>by simp
 | a::r,k,h,hk=>by
  obtain⟨h1,h2⟩:=List.nodup_cons.mp h;show(a::(r++[k])).Nodup;refine List.nodup_cons.mpr ⟨fun m=>?_,lO h2 fun m=>hk (List.mem_cons.mpr (UJ m))⟩;rcases List.mem_append.mp m with q|q
  ·exact h1 q
  ·exact hk (List.mem_cons.mpr (G1 (List.mem_singleton.mp q).symm))
end
theorem at_of{xs:List V}{z:Int}{j:Nat}{v:V} (e:z=(j:Int)) (h:xs[j]?=some v):By xs z=some v:=by rw[e];exact Qm h
theorem DB{α:Type}{l:List α}(n:l.Nodup){i j:Nat}{x:α}(a:l[i]?=some x)(b:l[j]?=some x):i=j:=by obtain⟨h1,z⟩:=List.getElem?_eq_some_iff.mp a;obtain⟨h2,B⟩:=List.getElem?_eq_some_iff.mp b;exact(V2 n).mp (z.trans B.symm)
theorem Qn.made{H H1:Hp}{x dx C:Addr}(nx:H x=Option.none)(nd:H dx=Option.none) (k:∀b o,(upd (upd H dx (.own x)) x (.ins C dx [])) b=some o->b≠x->H1 b=some o):Qn H H1:=fun b o e=>
 k b o (by rw[Qh (Qg e nx),Qh (Qg e nd)];exact e) (Qg e nx)
end L2
section
namespace L2
open PySem PySem.Spec PyProof.Rows
open PySem.W (WData Codec OpenSpec Well WellAll ReadsW ReadsAllW)
mutual
inductive Dw(K:xz)(H:Hp):V->WData->Prop
 |bP:Dw K H .bP .none
 |bl (b:Bool):Dw K H (.bl b) (.bool b)
 |int (i:Int):Dw K H (.int i) (.int i)
 |str (x:Str):Dw K H (.str x) (.str x)
 |byt (b:Array UInt8):Dw K H (.byt b) (.bytes b.toList)
 |lst {a:Addr} {xs:List V} {ds:List WData}:a' K H a xs->YI K H xs ds->Dw K H (.ref a) (.list ds)
 |tup {a:Addr} {xs:List V} {ds:List WData}:bV K H a xs->YI K H xs ds->Dw K H (.ref a) (.tuple ds)
inductive YI(K:xz)(H:Hp):List V->List WData->Prop
 |nil:YI K H [] []
 |cons {v:V} {vs:List V} {d:WData} {ds:List WData}:Dw K H v d->YI K H vs ds->YI K H (v::vs) (d::ds)
end
theorem mr{K:xz}{H:Hp}:∀ns:List Int,YI K H (ns.map V.int) (ns.map WData.int)
 |[]=>.nil
 |n::r=>.cons (.int n) (mr r)
theorem mC{K:xz}{H:Hp}:∀(ns:List Int)(xs:List V),YI K H xs (ns.map WData.int)->xs=ns.map V.int
 | [],xs,h=>by
  cases h;rfl
 | n::r,xs,h=>by
  cases h with
  | cons h1 h2=>
   cases h1;rw[mC r _ h2]<;>rfl
section
variable {P:Program} {w:World} {K:xz} {H:Hp} {h:Heap} {R:PySem.W.WRecords} {cl:Str->Option Addr}
theorem Cu{a:Addr}{xs:List V}(bp:dh P w H h)(z:K.In h)(q:a' K H a xs):∃(a8:List Value)(o:Obj)(n:Nat),QH xs a8/\h.get? a=some o/\o.cls=.type "list" /\ o.data=.seq a8.toArray n:=by
 rcases q with q|⟨o,a8,n,e,hc,_,hd,_,j⟩
 ·obtain⟨_,a8,n,j,e⟩:=(show Zh P w H h a (.lst xs) from q.ok bp);exact⟨a8,_,n,j,e,Z,Z⟩
 ·exact⟨a8.toList,o,n,j,z _ _ e,hc,by simp[hd]⟩
theorem AD{a:Addr}{xs:List V}(bp:dh P w H h)(z:K.In h)(q:bV K H a xs):∃(a8:List Value)(o:Obj)(n:Nat),QH xs a8/\h.get? a=some o/\o.cls=.type "tuple" /\ o.data=.seq a8.toArray n:=by
 rcases q with q|⟨o,a8,n,e,hc,hd,_,j⟩
 ·obtain⟨_,a8,j,o,e,hc,n,hd⟩:=(show Zh P w H h a (.tup xs) from q.ok bp);exact⟨a8,o,n,j,e,hc,hd⟩
 ·exact⟨a8.toList,o,n,j,z _ _ e,hc,by simp[hd]⟩
mutual
theorem Dw.reads(bp:dh P w H h)(j:K.In h):∀(d:WData)(v:V)(u:Value),Dw K H v d->QR v u->∃as,ReadsW R cl h u d as
 | .none,_,_,x,r=>by
  cases x;cases r;exact⟨_,ReadsW.none⟩
 | .bool b,_,_,x,r=>by
  cases x;cases r;exact⟨_,ReadsW.bool b⟩
 | .int i,_,_,x,r=>by
  cases x;obtain⟨t,rfl⟩:=r;exact⟨_,ReadsW.int i t⟩
 | .str s,_,_,x,r=>by
  cases x;obtain⟨t,rfl⟩:=r;exact⟨_,ReadsW.str s t⟩
 | .bytes b,_,_,x,r=>by
  cases x;obtain⟨t,rfl⟩:=r;exact⟨_,ReadsW.bytes _ t⟩
 | .list ds,_,_,x,r=>by
  cases x with
  | lst z B=>
   cases r;obtain⟨a8,o,n,F,G,hc,hd⟩:=Cu bp j z;obtain⟨as,hr⟩:=Dw.readsAll bp j ds _ a8 B F;exact⟨_,ReadsW.list G hc hd hr⟩
 | .tuple ds,_,_,x,r=>by
  cases x with
  | tup z B=>
   cases r;obtain⟨a8,o,n,F,G,hc,hd⟩:=AD bp j z;obtain⟨as,hr⟩:=Dw.readsAll bp j ds _ a8 B F;exact⟨_,ReadsW.tuple G hc hd hr⟩
 |.float _,_,_,x,_=>by cases x
 |.dict _,_,_,x,_=>by cases x
 |.bytearray _,_,_,x,_=>by cases x
 |.set _,_,_,x,_=>by cases x
 |.frozenset _,_,_,x,_=>by cases x
 |.obj _ _,_,_,x,_=>by cases x
theorem Dw.readsAll(bp:dh P w H h)(j:K.In h):∀(ds:List WData)(vs:List V)(us:List Value),YI K H vs ds->QH vs us->∃as,ReadsAllW R cl h us ds as
 | [],_,_,x,r=>by
  cases x;cases r;exact⟨_,ReadsAllW.nil⟩
 | d::ds,_,_,x,r=>by
  cases x with
  | cons h1 h2=>
   cases r with
   | cons n z=>
    obtain⟨as,B⟩:=Dw.reads bp j d _ _ h1 n;obtain⟨bs,F⟩:=Dw.readsAll bp j ds _ _ h2 z;exact⟨_,ReadsAllW.cons B F⟩
end
end
mutual
def mm:WData->Bool
 |.none=>true
 |.bool _=>true
 |.int _=>true
 |.str _=>true
 |.bytes _=>true
 |.list xs=>qZ xs
 |.tuple xs=>qZ xs
 |_=>false
def qZ:List WData->Bool
 |[]=>true
 |x::r=>mm x&&qZ r
end
theorem gW{α:Type}{f:α->WData} (h:∀a,mm (f a)=true):∀l:List α,qZ (l.map f)=true
 |[]=>rfl
 | x::r=>by
  show(mm (f x)&&qZ (r.map f))=true;rw[h x,gW h r]<;>rfl
theorem Y2:∀(c:Codec)(a:c.denote),mm (c.enc a)=true
 |.unit,_=>rfl
 |.bool,_=>rfl
 |.int _ _,_=>rfl
 |.nat _ _,_=>rfl
 |.u8,_=>rfl
 |.bytes _ _,_=>rfl
 |.text _ _ _ _,_=>rfl
 |.list _ _ c,a=>gW (fun x=>Y2 c x) a
 | .pair c d,a=>by
  show(mm (c.enc a.1)&&(mm (d.enc a.2)&&true))=true;rw[Y2 c a.1,Y2 d a.2]<;>rfl
 | .triple c d e,a=>by
  show(mm (c.enc a.1)&&(mm (d.enc a.2.1)&&(mm (e.enc a.2.2)&&true)))=true;rw[Y2 c a.1,Y2 d a.2.1,Y2 e a.2.2]<;>rfl
 |.option c,none=>rfl
 |.option c,some x=>Y2 c x
theorem y9:∀(j:List Codec)(a:Codec.denoteAll j),qZ (Codec.encAll j a)=true
 |[],_=>rfl
 | c::j,a=>by
  show(mm (c.enc a.1)&&qZ (Codec.encAll j a.2))=true;rw[Y2 c a.1,y9 j a.2]<;>rfl
theorem JJ:∀{xs:List WData} {d:WData},d∈xs->d.weight<=WData.weightAll xs
 |[],d,h=>Wm h We
 | x::r,d,h=>by
  show d.weight<=x.weight+1+WData.weightAll r;rcases List.mem_cons.mp h with e|m
  ·rw[e];omega
  ·have z:=JJ m;omega
def toV:Value->V
 |.none=>.bP
 |.bool b=>.bl b
 |.int i _=>.int i
 |.str x _=>.str x
 |.bytes b _=>.byt b
 |.ref a=>.ref a
 |_=>.bP
def oY(A:List Addr):Value->Prop
 |.none=>True
 |.bool _=>True
 |.int _ _=>True
 |.str _ _=>True
 |.bytes _ _=>True
 |.ref a=>a∈A
 |_=>False
theorem oY.mono{A B:List Addr}(h:∀a∈A,a∈B):∀{u:Value},oY A u->oY B u:=fun {u} x=>by
 cases u with
 |ref a=>exact h a x
 |none=>trivial
 |bool b=>trivial
 |int i t=>trivial
 |str s t=>trivial
 |bytes b t=>trivial
 |_=>exact False.elim x
theorem tJ{A:List Addr}{u:Value}(x:oY A u):QR (toV u) u:=by
 cases u with
 |ref a=>rfl
 |none=>rfl
 |bool b=>rfl
 |int i t=>exact⟨t,Z⟩
 |str s t=>exact⟨t,Z⟩
 |bytes b t=>exact⟨t,Z⟩
 |_=>exact False.elim x
theorem Yb{A:List Addr}:∀{vs:List Value},(∀u∈vs,oY A u)->QH (vs.map toV) vs
 |[],_=>.nil
 |u::r,h=>.cons (tJ (h u (Gj ..))) (Yb fun x j=>h x (xR _ j))
def YJ(h:Heap)(A:List Addr)(a:Addr):Prop:=∃vs:List Value,vs.length<=sizeLine/\(∀u∈vs,oY A u)/\
 (h.get? a=some { cls:=.type "list",data:=.seq vs.toArray }\/h.get? a=some { cls:=.type "tuple",data:=.seq vs.toArray })
theorem YJ.mono{h:Heap}{A B:List Addr}{a:Addr}(k:∀a∈A,a∈B)(x:YJ h A a):YJ h B a:=by obtain⟨vs,h1,h2,j⟩:=x;exact⟨vs,h1,fun u n=>(h2 u n).mono k,j⟩
theorem XT{P:Params}{h:Heap}:∀{vs:List Value} {ds:List WData},WellAll P h vs ds->vs.length=ds.length
 |_,_,.nil=>rfl
 | _,_,.cons _ b=>by
  show _+1=_+1;rw[XT b]
theorem yM{P:Params}{h:Heap}{v:Value}{ds:List WData} (x:Well P h v (.list ds)):∃(a:Addr)(vs:List Value),v=.ref a/\h.get? a=some { cls:=.type "list",data:=.seq vs.toArray }/\WellAll P h vs ds:=by
 cases x with
 |list n j=>exact⟨_,_,Z,n,j⟩
theorem zD{P:Params}{h:Heap}{v:Value}{ds:List WData} (x:Well P h v (.tuple ds)):∃(a:Addr)(vs:List Value),v=.ref a/\h.get? a=some { cls:=.type "tuple",data:=.seq vs.toArray }/\WellAll P h vs ds:=by
 cases x with
 |tuple n j=>exact⟨_,_,Z,n,j⟩
theorem yN{P:Params}{h:Heap}{us:List Value}{d:WData}{ds:List WData} (x:WellAll P h us (d::ds)):∃(v:Value)(vs:List Value),us=v::vs/\Well P h v d/\WellAll P h vs ds:=by
 cases x with
 |cons a b=>exact⟨_,_,Z,a,b⟩
theorem lE{n:Nat}(h:n<=1048576):n<=sizeLine:=xK h Wa
section
variable {P:Params} {h:Heap}
mutual
theorem tW:∀(d:WData)(v:Value),Well P h v d->mm d=true->d.weight<=1048576->∃A:List Addr,oY A v/\∀a∈A,YJ h A a
 | .none,_,x,_,_=>by
  cases x;exact⟨[],trivial,fun a m=>Wm m We⟩
 | .bool b,_,x,_,_=>by
  cases x;exact⟨[],trivial,fun a m=>Wm m We⟩
 | .int i,_,x,_,_=>by
  cases x;exact⟨[],trivial,fun a m=>Wm m We⟩
 | .str s,_,x,_,_=>by
  cases x;exact⟨[],trivial,fun a m=>Wm m We⟩
 | .bytes b,_,x,_,_=>by
  cases x;exact⟨[],trivial,fun a m=>Wm m We⟩
 | .list ds,_,x,p,z=>by
  obtain⟨a,vs,rfl,F,j⟩:=yM x;have B:WData.weightAll ds<=1048576:=z;obtain⟨A,h1,h2⟩:=qo ds _ j p fun d hd=>xK (JJ hd) B;have k:∀b∈A,b∈a::A:=fun b n=>xR _ n;refine⟨a::A,Gj ..,fun b n=>?_⟩;rcases List.mem_cons.mp n with e|m
  ·rw[e];exact⟨vs,lE (by rw[XT j];exact xK (Qah ds) B),fun u G=>(h1 u G).mono k,.inl F⟩
  ·exact(h2 b m).mono k
 | .tuple ds,_,x,p,z=>by
  obtain⟨a,vs,rfl,F,j⟩:=zD x;have B:WData.weightAll ds<=1048576:=z;obtain⟨A,h1,h2⟩:=qo ds _ j p fun d hd=>xK (JJ hd) B;have k:∀b∈A,b∈a::A:=fun b n=>xR _ n;refine⟨a::A,Gj ..,fun b n=>?_⟩;rcases List.mem_cons.mp n with e|m
  ·rw[e];exact⟨vs,lE (by rw[XT j];exact xK (Qah ds) B),fun u G=>(h1 u G).mono k,.inr F⟩
  ·exact(h2 b m).mono k
 |.float _,_,_,p,_=>GG (show false=true from p)
 |.dict _,_,_,p,_=>GG (show false=true from p)
 |.bytearray _,_,_,p,_=>GG (show false=true from p)
 |.set _,_,_,p,_=>GG (show false=true from p)
 |.frozenset _,_,_,p,_=>GG (show false=true from p)
 |.obj _ _,_,_,p,_=>GG (show false=true from p)
theorem qo:∀(ds:List WData)(vs:List Value),WellAll P h vs ds->qZ ds=true->(∀d∈ds,d.weight<=1048576)->∃A:List Addr,(∀u∈vs,oY A u)/\∀a∈A,YJ h A a
 | [],_,x,_,_=>by
  cases x;exact⟨[],fun u m=>Wm m We,fun a m=>Wm m We⟩
 | d::ds,_,x,p,z=>by
  obtain⟨v,vs,rfl,x1,G⟩:=yN x;have q:mm d=true/\qZ ds=true:=Bool.and_eq_true_iff.mp p;obtain⟨A,I,J⟩:=tW d v x1 q.1 (z d (Gj ..));obtain⟨B,M,O⟩:=qo ds vs G q.2 fun e U=>z e (xR _ U);have n:∀b∈A,b∈A++B:=fun b j=>List.mem_append.mpr (.inl j);have F:∀b∈B,b∈A++B:=fun b j=>List.mem_append.mpr (.inr j);refine⟨A++B,fun u hu=>?_,fun b j=>?_⟩
  ·rcases List.mem_cons.mp hu with e | m
   ·rw[e];exact I.mono n
   ·exact(M u m).mono F
  ·rcases List.mem_append.mp j with m | m
   ·exact(J b m).mono n
   ·exact(O b m).mono F
end
end
def vz(o:Obj):Option HO:=match o.data with
 |.seq vs _=>if(o.cls==Value.type "list")=true then some (.frz o (.lst (vs.toList.map toV))) else some (.frz o (.tup (vs.toList.map toV)))
 |_=>none
def YA(K:xz)(h:Heap)(A:List Addr):Hp:=fun b=>if b∈A then(if(K.lookup b).isNone=true then(h.get? b).bind vz else none) else none
def fA(H:Hp):Prop:=∀b,H b=none\/∃o u,H b=some (.frz o u)
theorem fv(vs:List Value):vz { cls:=.type "list",data:=.seq vs.toArray }=some (.frz { cls:=.type "list",data:=.seq vs.toArray } (.lst (vs.map toV))):=by show(if(Value.type "list" == Value.type "list")=true then some (HO.frz { cls:=.type "list",data:=.seq vs.toArray } (.lst (vs.toArray.toList.map toV))) else some (HO.frz { cls:=.type "list",data:=.seq vs.toArray } (.tup (vs.toArray.toList.map toV))))=_;rw[Wi (beq_self_eq_true _)]
theorem ft(vs:List Value):vz { cls:=.type "tuple",data:=.seq vs.toArray }=some (.frz { cls:=.type "tuple",data:=.seq vs.toArray } (.tup (vs.map toV))):=by show(if(Value.type "tuple" == Value.type "list")=true then some (HO.frz { cls:=.type "tuple",data:=.seq vs.toArray } (.lst (vs.toArray.toList.map toV))) else some (HO.frz { cls:=.type "tuple",data:=.seq vs.toArray } (.tup (vs.toArray.toList.map toV))))=_;rw[Wh Wa]
section
variable {P:Program} {w:World} {K:xz} {h:Heap} {A:List Addr}
theorem zB{b:Addr}{o:Obj}(j:b∈A)(hk:K.lookup b=none)(e:h.get? b=some o):YA K h A b=vz o:=by unfold YA;rw[Wi j,hk,Wi (show(none:Option Obj).isNone=true from Z),e]<;>rfl
theorem vM{b:Addr}{u:HO}(q:YA K h A b=some u):b∈A/\K.lookup b=none:=by
 unfold YA at q;by_cases j:b∈A
 ·rw[Wi j] at q;cases hk:K.lookup b with
  |none=>exact⟨j,Z⟩
  | some o=>
   rw[hk,Wh We]at q;cases q
 ·rw[Wh j]at q;cases q
theorem zA(ar : ∀a∈A, YJ h A a){b : Addr}{u : HO}(q : YA K h A b=some u) : K.lookup b=none /\ ∃vs : List Value, vs.length<=sizeLine/\(∀u∈vs, oY A u) /\
    ((h.get? b = some { cls := .type "list", data := .seq vs.toArray } /\ u = .frz { cls := .type "list", data := .seq vs.toArray } (.lst (vs.map toV))) \/
     (h.get? b=some { cls := .type "tuple", data := .seq vs.toArray } /\ u = .frz { cls := .type "tuple", data := .seq vs.toArray } (.tup (vs.map toV)))) := by
  obtain ⟨j, hk⟩ := vM q; obtain ⟨vs, h1, h2, n⟩ := ar b j; refine⟨hk, vs, h1, h2, ?_⟩; rcases n with e|e
  · rw [zB j hk e, fv]at q; exact .inl ⟨e, (Wo q).symm⟩
  · rw [zB j hk e, ft]at q; exact .inr ⟨e, (Wo q).symm⟩
theorem nD(ar:∀a∈A,YJ h A a):fA (YA K h A):=fun b=>by
 cases q:YA K h A b with
 |none=>exact .inl rfl
 | some u=>
  obtain⟨_,vs,_,_,⟨_,e⟩|⟨_,e⟩⟩:=zA ar q
  ·exact .inr ⟨_,_,by rw[e]⟩
  ·exact .inr ⟨_,_,by rw[e]⟩
theorem vI(ar:∀a∈A,YJ h A a):dh P w (YA K h A) h:=fun b u q=>by
 obtain⟨_,vs,h1,h2,⟨e,rfl⟩|⟨e,rfl⟩⟩:=zA ar q
 ·exact⟨e,by rw[xB];exact h1,vs,_,Yb h2,e⟩
 ·exact⟨e,by rw[xB];exact h1,vs,Yb h2,_,e,Z,_,Z⟩
theorem zk{c j:Value}{vs us:List Value} (e:(some { cls:=c,data:=.seq vs.toArray }:Option Obj)=some { cls:=j,data:=.seq us.toArray }):c=j/\vs=us:=by
 have n:=Wo e;have z:c=j:=Wn Obj.cls n;have B:Data.seq vs.toArray=Data.seq us.toArray:=Wn Obj.data n;injection B with F
 refine⟨z,?_⟩;have G:=Wn Qb0 F;simpa using G
theorem Kc(z:K.In h)(ar:∀a∈A,YJ h A a){a:Addr}{vs:List Value}(j:a∈A) (e:h.get? a=some { cls:=.type "list",data:=.seq vs.toArray }):(∀u∈vs,oY A u)/\a' K (YA K h A) a (vs.map toV):=by
 obtain⟨us,h1,h2,B⟩:=ar a j
 have F:us=vs:=by
  rcases B with q|q
  ·rw[e]at q;exact(zk q).2.symm
  ·rw[e]at q;exact Wm (Value.type.inj (zk q).1) Wa
 subst F;refine⟨h2,?_⟩;cases hk:K.lookup a with
 |none=>exact .inl (.inr ⟨_,by rw[zB j hk e,fv]⟩)
 | some o=>
  have n:=z a o hk;rw[e]at n;obtain rfl:=Wo n;exact .inr ⟨_,us.toArray,_,hk,Z,Z,Z,by rw[xQ];exact h1,by simpa using Yb h2⟩
theorem Kb(z:K.In h)(ar:∀a∈A,YJ h A a){a:Addr}{vs:List Value}(j:a∈A) (e:h.get? a=some { cls:=.type "tuple",data:=.seq vs.toArray }):(∀u∈vs,oY A u)/\bV K (YA K h A) a (vs.map toV):=by
 obtain⟨us,h1,h2,B⟩:=ar a j
 have F:us=vs:=by
  rcases B with q|q
  ·rw[e]at q;exact Wm (Value.type.inj (zk q).1) Wa
  ·rw[e]at q;exact(zk q).2.symm
 subst F;refine⟨h2,?_⟩;cases hk:K.lookup a with
 |none=>exact .inl (.inr ⟨_,by rw[zB j hk e,ft]⟩)
 | some o=>
  have n:=z a o hk;rw[e]at n;obtain rfl:=Wo n;exact .inr ⟨_,us.toArray,_,hk,Z,Z,by rw[xQ];exact h1,by simpa using Yb h2⟩
mutual
theorem Cp{I:Params}(n:K.In h)(ar:∀a∈A,YJ h A a):∀(d:WData)(v:Value),Well I h v d->mm d=true->oY A v->Dw K (YA K h A) (toV v) d
 | .none,_,x,_,_=>by
  cases x;exact .bP
 | .bool b,_,x,_,_=>by
  cases x;exact .bl b
 | .int i,_,x,_,_=>by
  cases x;exact .int i
 | .str s,_,x,_,_=>by
  cases x;exact .str s
 | .bytes b,_,x,_,_=>by
  cases x;have z:=Dw.byt (K:=K) (H:=YA K h A) b.toArray;exact z
 | .list ds,_,x,p,B=>by
  obtain⟨a,vs,rfl,F,j⟩:=yM x;obtain⟨h2,G⟩:=Kc n ar B F;exact .lst G (xn n ar ds _ j p h2)
 | .tuple ds,_,x,p,B=>by
  obtain⟨a,vs,rfl,F,j⟩:=zD x;obtain⟨h2,G⟩:=Kb n ar B F;exact .tup G (xn n ar ds _ j p h2)
 |.float _,_,_,p,_=>GG (show false=true from p)
 |.dict _,_,_,p,_=>GG (show false=true from p)
 |.bytearray _,_,_,p,_=>GG (show false=true from p)
 |.set _,_,_,p,_=>GG (show false=true from p)
 |.frozenset _,_,_,p,_=>GG (show false=true from p)
 |.obj _ _,_,_,p,_=>GG (show false=true from p)
theorem xn{n:Params}(j:K.In h)(ar:∀a∈A,YJ h A a):∀(ds:List WData)(vs:List Value),WellAll n h vs ds->qZ ds=true->(∀u∈vs,oY A u)->YI K (YA K h A) (vs.map toV) ds
 | [],_,x,_,_=>by
  cases x;exact .nil
 | d::ds,_,x,p,hu=>by
  obtain⟨v,vs,rfl,x1,z⟩:=yN x;have q:mm d=true/\qZ ds=true:=Bool.and_eq_true_iff.mp p;exact .cons (Cp j ar d v x1 q.1 (hu _ (Gj ..))) (xn j ar ds vs z q.2 fun u m=>hu u (xR _ m))
end
end
theorem oQ{P:Program}{w:World}{K:xz}{mg mb:Str->Option Value}{CX:oM}{k:Nat}{fa:Addr}{fd:FuncData}{ps:List Str}{sp:Sp}{j:Shared}{B:List Value}{ds:List WData}{R:PySem.W.WRecords}{cl:Str->Option Addr}{d0:WData}
  (KX:K.In j.heap) (U:j.heap.Ns mainGlobals mg) (hb:j.heap.Ns builtinsNs mb) (ag:∀x:Str,x ≠ "__name__" -> mb x=bootBuiltins x) (aa:j.heap.NoLimit) (hg:j.gens=#[])
  (M:WellAll w.params j.heap B ds) (ab:qZ ds=true) (ah:∀d∈ds,d.weight<=1048576) (hr:ZJ k callerA)
  (F:∀base:Heap,K.In base->base.Ns mainGlobals mg->QC P w K mg base CX k fa fd ps sp) (O:∀(s:Shared)(us:List Value),us.length=ps.length->BindsTo s fd ⟨us,[]⟩ (ps.zip us)) (ac:ds.length=ps.length)
  (ai:∀(H:Hp)(xs:List V),fA H->YI K H xs ds->sp xs H (fun v H'=>Dw K H' v d0) fun _ _ _=>False)
  (aj:∀H e s',CX [] H j (fun _ _ _=>False) e s'->False) :
  codeAny (model P w) callerA (.call (.ref fa) ⟨B,[]⟩) (fun r s'=>∃u as,r=.ok (.ret u)/\ReadsW R cl s'.heap u d0 as/\OldK j.heap s'.heap/\s'.os=j.os/\AllBare s'.gens) j:=by
 obtain⟨A,ho,ar⟩:=qo ds B M ab ah;have hO:fA (YA K j.heap A):=nD ar;have bp:dh P w (YA K j.heap A) j.heap:=vI ar;have hS:=xn KX ar ds B M ab ho;have hV:=Yb ho;have hK:∀b u,YA K j.heap A b=some u->K.lookup b=none:=fun b u q=>(zA ar q).1
 have ad:∀{b:Addr} {o:Obj} {es:Array DictEntry} {ep:Nat},j.heap.get? b=some o->o.data=.dict es ep->YA K j.heap A b=none:=fun {b o es ep} e d=>by
  cases q:YA K j.heap A b with
  |none=>rfl
  | some u=>
   obtain⟨_,vs,_,_,⟨e2,_⟩|⟨e2,_⟩⟩:=zA ar q
   ·rw[e2]at e;cases e;have d':Data.seq vs.toArray _=Data.dict es ep:=d;cases d'
   ·rw[e2]at e;cases e;have d':Data.seq vs.toArray _=Data.dict es ep:=d;cases d'
 generalize YA K j.heap A=H at hO bp hS hK ad;have G:∀{b:Addr} {o:Obj},j.heap.get? b=some o->H b=none->(j9 j.heap H).get? b=some o:=fun e n=>sY e n;have I:∀{b:Addr} {m:Str->Option Value},j.heap.Ns b m->(j9 j.heap H).Ns b m:=fun {b m} ⟨o,es,ep,e,d,r⟩=>⟨o,es,ep,G e (ad e d),d,r⟩
 have nK:∀b o,K.lookup b=some o->H b=none:=fun b o e=>by
  cases q:H b with
  |none=>rfl
  | some u=>
   rw[hK b u q]at e;cases e
 have af:K.In (j9 j.heap H):=fun b o e=>G (KX b o e) (nK b o e);have hM:Mod K mg (j9 j.heap H):=⟨af,I U,⟨mb,I hb,ag⟩,let ⟨mc,h1,h2⟩:=aa;⟨mc,I h1,h2⟩⟩;have e0:kr P w K mg (j9 j.heap H) callerA [] j H:=⟨Z,hM,fun b o e=>wu e,Qak (pa _ _),trivial,fun b hb=>Wm (show b∈([]:List Addr) from hb) We,bp,.of_eq hg⟩;have hl:B.length=ps.length:=by rw[XT M];exact ac
 refine codeAny_mono ((F _ af (I U)).run callerA [] j H ⟨B,[]⟩ B (B.map toV) _ _ hr e0 (O j B hl) hV (ai H _ hO hS)) fun r s' x=>?_;cases r with
 |error e=>exact(aj H e s' x).elim
 | ok fl=>
  cases fl with
  |next=>exact False.elim x
  |brk=>exact False.elim x
  |cont=>exact False.elim x
  | ret u=>
   obtain⟨v,H',os,bare,un,J,r',q⟩:=x
   have kept:∀b o,j.heap.get? b=some o->s'.heap.get? b=some o:=fun b o e=>by
    cases q2:H b with
    |none=>exact un.keep b o e q2 (by intro z;exact Wm (show b∈([]:List Addr) from z) We) We
    | some u2=>
     rcases hO b with z|⟨ob,u3,z⟩
     ·rw[q2]at z;cases z
     ·have z2:=un.dJ b ob _ z;obtain⟨e1,_⟩:=bp b _ z;obtain⟨e2,_⟩:=J b _ z2;rw[e]at e1;cases e1;exact e2
   have ak:K.In s'.heap:=fun b o e=>kept b o (KX b o e);obtain⟨as,an⟩:=Dw.reads (R:=R) (cl:=cl) J ak d0 v u q r';exact⟨u,as,Z,an,OldK.of_keep kept,os,bare⟩
theorem ye{ds:List WData}(h:WData.layableAll ds=true):∀d∈ds,d.weight<=1048576:=fun d hd=>
 (PySem.W.layableW_iff.mp (List.all_eq_true.mp h d hd)).2.2
theorem yn:∀(j:List Codec)(a:Codec.denoteAll j),(Codec.encAll j a).length=j.length
 |[],_=>rfl
 | c::j,a=>by
  show(Codec.encAll j a.2).length+1=j.length+1;rw[yn j a.2]
theorem mT{r:OpenSpec}{k:Nat}{q:Program}{loose:List Str} {XP:(Str->Option Value)->Heap->Prop} {YP:World->Heap->Prop} {d:DefRec} {K:Params->xz} {CX:World->oM} {ps:List Str} {sp:World->Sp}
  (j:r.wellSaid=true) (af:d.params.defaults=[]) (n:r.args.length=ps.length) (hr:ZJ k callerA)
  (hY:∀(w:World)(h:Heap),YP w h->(K w.params).In h)
  (F:∀(w:World)(mg:Str->Option Value)(M:Addr)(h:Heap),YP w h->(K w.params).In h->h.Ns mainGlobals mg->mg d.name=some (.ref M)->
   ∃fd:FuncData,(∀(s:Shared)(us:List Value),us.length=ps.length->BindsTo s fd ⟨us,[]⟩ (ps.zip us))/\
    ∀base:Heap,(K w.params).In base->base.Ns mainGlobals mg->QC r.prog w (K w.params) mg base (CX w) k M fd ps (sp w))
  (O:∀(w:World)(H:Hp)(xs:List V)(a:Codec.denoteAll r.args),fA H->Codec.withinAll r.args a=true->Codec.app r.args r.asked a=true->YI (K w.params) H xs (Codec.encAll r.args a)->
   sp w xs H (fun v H'=>Dw (K w.params) H' v (r.ret.enc (Codec.app r.args r.f a))) fun _ _ _=>False)
  (U:∀(w:World)(H:Hp)(s:Shared)(e:Value)(s':Shared),CX w [] H s (fun _ _ _=>False) e s'->False) :
  PySem.W.WalkOS q loose XP YP r d [] (fun f vs=>PySem.call f vs):=by
 intro w eG Ii mg mb G Y M o pm cd ag dV kV ho hd ah hD aa hg args ad as B I ai ab aj;obtain⟨a,e1,e2⟩:=PySem.W.os_pre_some B;obtain⟨e3,J⟩:=Codec.encAll_of_decAll r.args args a e1;subst e3;have KX:=hY w _ Y;obtain⟨fd,hb,hF⟩:=F w mg M _ Y KX G.T.g aa
 refine PySem.W.enter_call (codeAny_mono (oQ (R:=[]) (cl:=classAt eG.heap) (d0:=r.ret.enc (Codec.app r.args r.f a)) KX G.T.g G.T.b G.T.builtins G.T.nolimit hg ab (y9 _ _) (ye I) hr hF hb (by rw[yn];exact n)
  (fun H xs hO hS=>O w H xs a hO J e2 hS) fun H e s'=>U w H Ii e s') fun r' s' hq=>?_)
 obtain⟨u,ac,rfl,h1,h2,h3,h4⟩:=hq;exact⟨.inl ⟨u,_,ac,Z,fun _=>rfl,h1,(OpenSpec.post_iff j J _ _).mpr Z,fun z=>GG (show false=true from z)⟩,h2,h3,h4⟩
theorem kE{r:OpenSpec}{k:Nat}{q:Program}{loose:List Str} {XP:(Str->Option Value)->Heap->Prop} {YP:World->Heap->Prop} {d:DefRec} {K:Params->xz} {CX:oM} {ps:List Str} {sp:xz->Sp}
  (j:r.wellSaid=true) (z:d.params.defaults=[]) (n:r.args.length=ps.length) (hr:ZJ k callerA)
  (J:∀(w:World)(h:Heap),YP w h->(K w.params).In h)
  (F:∀(w:World)(mg:Str->Option Value)(I:Addr)(h:Heap),YP w h->(K w.params).In h->h.Ns mainGlobals mg->mg d.name=some (.ref I)->
   ∃fd:FuncData,(∀(s:Shared)(us:List Value),us.length=ps.length->BindsTo s fd ⟨us,[]⟩ (ps.zip us))/\
    ∀base:Heap,(K w.params).In base->base.Ns mainGlobals mg->QC r.prog w (K w.params) mg base CX k I fd ps (sp (K w.params)))
  (B:∀(K:xz)(H:Hp)(xs:List V)(a:Codec.denoteAll r.args),fA H->Codec.withinAll r.args a=true->Codec.app r.args r.asked a=true->YI K H xs (Codec.encAll r.args a)->
   sp K xs H (fun v H'=>Dw K H' v (r.ret.enc (Codec.app r.args r.f a))) fun _ _ _=>False)
  (G:∀(H:Hp)(s:Shared)(e:Value)(s':Shared),CX [] H s (fun _ _ _=>False) e s'->False) :
  PySem.W.WalkOS q loose XP YP r d [] (fun f vs=>PySem.call f vs):=
 mT (K:=K) (CX:=fun _=>CX) (sp:=fun w=>sp (K w.params)) j z n hr J F (fun w H xs a h1 h2 M O=>B (K w.params) H xs a h1 h2 M O) fun _ H s e s'=>G H s e s'
end L2
end
namespace L2
open PySem PySem.Spec PyProof.Rows
inductive ek(a b c:Prop):Prop
 |mk:a->b->c->ek a b c
inductive Dd(a b c d:Prop):Prop
 |mk:a->b->c->d->Dd a b c d
inductive KJ(a b c d e f:Prop):Prop
 |mk:a->b->c->d->e->f->KJ a b c d e f
inductive KI(a b c d e f g:Prop):Prop
 |mk:a->b->c->d->e->f->g->KI a b c d e f g
inductive IT(a b c d e f g h:Prop):Prop
 |mk:a->b->c->d->e->f->g->h->IT a b c d e f g h
inductive tL{α β:Type}(p:α->β->Prop):Prop
 |mk (a:α) (b:β):p a b->tL p
inductive C7{α β γ:Type}(p:α->β->γ->Prop):Prop
 |mk (a:α) (b:β) (c:γ):p a b c->C7 p
inductive Hm{α β γ δ ε:Type}(p:α->β->γ->δ->ε->Prop):Prop
 |mk (a:α) (b:β) (c:γ) (d:δ) (e:ε):p a b c d e->Hm p
theorem uU{K:xz}{a:Addr}{xs:List V}{g:TG}{tb:TS}{D:JD}{σ:St}{H:Hp}(j:Nat->St->Hp->Prop)(h0:j 0 σ H)(hl:∀i σ H,i<=xs.length->j i σ H->a' K H a xs)
  (G:∀i x σ H,i<xs.length->xs[xs.length-1-i]?=some x->j i σ H->g x σ H fun z H2=>tb { D with nx:=j (i+1),ct:=j (i+1),bk:=D.nx } z H2) (hd:∀σ H,j xs.length σ H->D.nx σ H) :
  ∃W:Nat->Nat->St->Hp->Prop,(∃m,W 0 m σ H)/\∀i m σ H,W i m σ H->
   ((Dj K a xs.length).stop i H/\D.nx σ H)\/((Dj K a xs.length).go i H/\∃N:St->Hp->Prop,(∀B H',N B H'->∃F,F<m/\W (i+1) F B H')/\∀x H',(Dj K a xs.length).yld i H x H'->g x σ H' fun z H2=>tb { D with nx:=N,ct:=N,bk:=D.nx } z H2):=by
 refine⟨fun i m σ H=>m=xs.length-i/\i<=xs.length/\j i σ H,⟨xs.length,by simp,x4 _,h0⟩,?_⟩;rintro i m σ H ⟨rfl,hi,p⟩;have q:=hl i σ H hi p;by_cases n:i<xs.length
 ·have I:xs[xs.length-1-i]?=some (xs[xs.length-1-i]'(by lia)):=by rw[xD]
  refine .inr ⟨⟨n,xs,_,q,I⟩,j (i+1),fun B H' J=>⟨xs.length-(i+1),by lia,Z,n,J⟩,fun x H' y=>?_⟩;obtain⟨e,y⟩:=y;subst e;exact G i x σ _ n (y xs q) p
 ·have e:i=xs.length:=by lia
  subst e;exact .inl ⟨xM _,hd σ H p⟩
theorem bF.bL{P:Program}{w:World}{K:xz}{mg:Str->Option Value}{base:Heap}{x j:Str}{st:Stmt}{f:Addr}{fd:FuncData}{N ps:List Str}{k:Nat}{sp:Sp}(F:bF K x j st f fd) (S:a7 N ps (a6 st))
  (h:∀(vs:List V)(H:Hp)(Q:VK)(E:XK),sp vs H Q E->vs.length=ps.length/\∀(n:Value)(A:Around)(outer:List Env)(s:Shared),ZJ k (A.deeper (envOfC j (a6 st) s.heap.objs.size f n))->
   ∃t,l7 (kf bB P w K mg base N j (a6 st) f n A outer s H E).E6 (bQ st) t/\t { nx:=fun _ H'=>Q .bP H',rt:=Q } (YO N vs) H):QC P w K mg base bB (k+1) f fd ps sp:=
 F.ok S (fun vs H Q E e=>(h vs H Q E e).1) fun n A outer s H vs Q E r e=>(h vs H Q E e).2 n A outer s r
theorem bz(i:Nat){X:Cx}{x:Str}{e:Expr}{te:TE}{pos pos':Pos}(j:X.N.Nodup)(n:PE X e te)(hi:X.N[i]?=some x:=by rfl)(z:Loc X.env.scope x:=by exact G1 Z) (B:swapsWith e (some (.Name x pos')) pos.line X.env=pure false:=by rfl) (hf:X.fn x=true\/X.env.scope.names.lookup x=some .local:=by first|exact .inl rfl|exact .inr Z) :
  PS X (.Assign [.Name x pos'] e pos) (vn te (Zz i)):=Bl j hi z n B hf
theorem b0(i:Nat){X:Cx}{x:Str}{pos:Pos}(j:X.N.Nodup)(hi:X.N[i]?=some x:=by rfl)(n:Loc X.env.scope x:=by exact G1 Z)(hf:X.fn x=true\/X.env.scope.names.lookup x=some .local:=by first|exact .inl rfl|exact .inr Z) :
  PG X (.Name x pos) (Zz i):=vY j hi n hf
end L2
namespace Gp
open PySem PySem.Spec PyProof.Rows L2
open PySem.W (Codec)
def top(i:Nat):Stmt:=PySem.Challenge.pw_glasspages_s03_read.main.body.getD i (.Pass ⟨0,0,0,0⟩)
abbrev BV:Stmt:=top 2
def bl(b:xA):List V:=b.map (fun c=>V.int (c.toNat:Int))
theorem Ql(b:xA):(bl b).length=b.length:=by simp[bl]
theorem Bm(b:xA)(p w:Nat):X7 (bl b) (some (p:Int)) (some ((p:Int)+(w:Int)))=bl ((b.drop p).take w):=by
 unfold X7;rw[show(p:Int)+(w:Int)=((p+w:Nat):Int) by lia,HT.dj,HT.dj,Ql];unfold bl;rw[<-V8,<-Vo];congr 1;by_cases h:p<=b.length
 ·rw[Qaf h];rw[V1,Ga];lia
 ·rw[GH (as:=b) (i:=min p b.length) L,GH (as:=b) (i:=p) L];simp
theorem iP(b:xA)(i:Nat)(h:i<b.length):Qbs (b.drop i)=(b[i]).toNat+256*Qbs (b.drop (i+1)):=by rw[GC h];rfl
structure Txt(K:xz)(mg:Str->Option Value):Prop where
 rev:mg "reversed" = none
 len:mg "len" = none
 range:mg "range" = none
 enum:mg "enumerate" = none
 lst:mg "list" = none
 any:mg "any" = none
 zip:mg "zip" = none
 str:mg "str" = none
 sum:mg "sum" = none
 ord:mg "ord" = none
 max:mg "max" = none
inductive JE(K:xz)(vs:List V)(H:Hp)(Q:VK)(E:XK):Prop
 |mk (a:Addr) (b:xA) (p w:Nat) (i j:Int):vs=[.ref a,.int i,.int j]->i=(p:Int)->j=(w:Int)->a' K H a (bl b)->(∀H',Qn H H'->Q (.int ((xG b p w:Nat):Int)) H')->JE K vs H Q E
section
variable {P:Program} {w:World} {K:xz} {mg:Str->Option Value} {base:Heap}
theorem _root_.L2.a7.mk'{N P:List Str}{sc:Scope}(a:sc.kind=.function:=by rfl)(b:sc.isCoroutine=false:=by rfl)(c:sc.isGenerator=false:=by rfl)(d:N.Nodup:=by decide +kernel)(e:N.take P.length=P:=by rfl)(f:∀x∈P,sc.names.lookup x=some .local\/sc.names.lookup x=some .cell:=by decide +kernel)(g:∀y∈sc.names,y.2≠.free:=by decide +kernel):a7 N P sc:=⟨a,b,c,d,e,f,g⟩
theorem mh:a7 ["octets","place","size","number","octet"] ["octets","place","size"] (a6 BV):=.mk'
theorem CK{f:Addr}{fd:FuncData}(F:bF K "number_at" "number_at" BV f fd)(T:Txt K mg):QC P w K mg base bB 1 f fd ["octets","place","size"] (JE K):=by
 apply F.bL mh;rintro _ H Q E ⟨a,b,p,w,i,j,rfl,rfl,rfl,I,k⟩;refine⟨Z,fun _ _ _ _ _=>?_⟩
 refine⟨_,Qb (bz 3 mh.nd Qi)
  (Qb (QL PassesOwn.never Z (fX Z T.rev (Qa (XF Ys (pv 0) (Xb (pv 1)) (Xb (QA QV (pv 1) (pv 2)))) Qc)) (b0 4 mh.nd)
   (Qd (bz 3 mh.nd (QA QV (QA ZN (pv 3) Qi) (pv 4)))))
  (Qd (Qj (pv 3)))),?_⟩
 refine⟨_,Z,_,Z,_,Z,_,Z,_,Z,_,_,Z,Z,_,Z,a,_,Z,I,fun l hl=>?_⟩;have e:=Bm b p w;rw[e]
 have J:Qn H (upd H l (.lst (bl ((b.drop p).take w)))):=fun c o h=>by
  rw[Qh (Qg h hl)];exact h
 generalize hc:(b.drop p).take w=c at *
 refine⟨l,_,Z,a'.of Qe,uU (K:=K) (a:=l) (xs:=bl c) (fun i σ H'=>∃B:Option V,ek (σ=[some (.ref a),some (.int p),some (.int w),some (.int ((Qbs (c.drop (c.length-i)):Nat):Int)),B]) (Qn H H') (H' l=some (.lst (bl c))))
  ⟨none,?_,J,Qe⟩ (fun i σ H' _ ⟨_,_,_,h⟩=>a'.of h) ?_ ?_⟩
 ·rw[Nat.sub_zero,List.drop_length];rfl
 ·rintro i x σ H' hi z ⟨B,rfl,G,n⟩;rw[Ql] at hi z
  obtain⟨rfl⟩:x=V.int ((c[c.length-1-i]'(by lia)).toNat:Int):=by unfold bl at z;rw[xJ,xD L]at z;exact(Wo z).symm
  refine⟨_,Z,_,_,Z,Z,.inr ⟨by decide,by decide⟩,_,Z,_,_,Z,Z,?_⟩;refine⟨some (V.int ((c[c.length-1-i]'(by lia)).toNat:Int)),?_,G,n⟩;have M:=iP c (c.length-1-i) L;grind
 ·rintro σ H' ⟨B,rfl,G,n⟩;rw[Ql,Nat.sub_self,G4];refine⟨_,Z,?_⟩;have:=k H' G;unfold xG at this;lia
end
end Gp
namespace Hd
open PySem PySem.W PyProof.Rows Gp
noncomputable def q:Program:=PySem.W.view PySem.Challenge.pw_glasspages_s03_read [115]
def ls:List Str:=(["LARGEST","number_at","octets_of","joined","CARTOON_SIGN","HEAD_BYTES_drawing","POINT_BYTES","LINE_BYTES","MARK_BYTES","Drawing","pairs_at","row_places","drawing_of","turn","is_between","is_on","parts","crosses","comes_behind","wrong_point","line_comes_behind","wrong_line","lacks_corner","edge_rows","open_frame","holds_point","crosses_earlier","entangled_line","is_within_frame","is_on_some_line","wrong_mark","is_step_below","is_higher","step_under","side","is_further_left","step_after","outline","crowding_mark","unmarked_pane","NO_POINT","loose_point","reached","unreached_point","parting_point","HEAD_BOUNDS_cartoon","head_fault","head_fault_cartoon","drawing_fault","cartoon_fault","NUMBER_RUNS","FOLLOWERS","MOST_LINES","number_sizes","WORKSHOP_SIGN","HEAD_BYTES_workshop","SHEET_BYTES","KIND_BYTES","GLASS_BYTES","PAINTING_BYTES","BANDS_BYTES","MOST_COATS","HEAD_BOUNDS_workshop","SHEET_BOUNDS","KIND_BOUNDS","out_of_bounds","part_places","cartoon_within","wrong_sheet","wrong_kind","is_right_coat","wrong_coat","wrong_painting","head_fault_workshop","parts_fault","workshop_fault","LINE_END","BLANK","ZERO","NINE","Scan","agreeing_count","words_behind","word_octets","take_word","take_number","take_numbers","take_coats","take_line","scan_of","count_octets","row_octets","cartoon_told","paintings_told","workshop_told","MOST_PAGE_BYTES","TOO_LONG","BROKEN_RULE","NO_PAGE","TOLD_RULES","refusal","counted"]:List String).map xC
noncomputable def Xt (s:Shared):Bool:=xlAt q [] s&&recOk [] s
def en(P:Params)(k:Str)(t:Nat)(v:Value):DictEntry:=⟨PyData.keyHash P k,.str k t,v⟩
def co(n q:Str)(t:Nat)(i j fl:Int)(k u:Nat):Obj:=⟨.type "code",none,.fields #[.str n t,.str q (t+1),.str "/claim/cut.py" (t+2),.int i 0,.int j 0,.int 0 0,.int 0 0,.int fl 0,.ref k,.bool true,.int 181 0,.ref (k+1),.none,.ref (k+2),.ref (k+3),.ref (k+4),.int u 0,.int i 0,.str "/claim/cut.py" (u+1)],#[]⟩
def c2(n q:Str)(t:Nat)(i j:Int)(a:Nat):Obj:=⟨.type "code",none,.fields #[.str n t,.str q (t+1),.str "/claim/cut.py" (t+2),.int i 0,.int j 0,.int 0 0,.int 0 0,.int 3 0,.ref (a-3),.bool true,.int 181 0,.ref (a-2),.none,.none,.none,.ref (a-1),.int (t+3:Nat) 0,.int i 0,.str "/claim/cut.py" (t+4)],#[]⟩
def c1(n:Str)(t:Nat)(i j:Int)(c u:Nat):Obj:=co n n t i j 3 (c-5) u
noncomputable def fo (n q:Str) (s:Stmt) (m:Value) (c:Nat):Obj:=⟨.type "function",none,.func (G9 n q (L2.bY s) (L2.bQ s) (L2.a6 s) .none .none .none m none (.ref c) .none),#[]⟩
noncomputable def f1 (n:Str) (s:Nat) (m:Value) (c:Nat):Obj:=fo n n (top s) m c
def m0:Value:=.str "glasspages.octets" 187
def m1:Value:=.str "glasspages.drawing" 232
def m2:Value:=.str "glasspages.geometry" 352
def m3:Value:=.str "glasspages.layout" 412
def m4:Value:=.str "glasspages.panes" 496
def m5:Value:=.str "glasspages.ways" 624
def m6:Value:=.str "glasspages.cartoon" 670
def m7:Value:=.str "glasspages.forms" 726
def m8:Value:=.str "glasspages.workshop" 884
def m9:Value:=.str "glasspages.reading" 1078
def vw:Value:=.str "glasspages.telling" 1235
def AX:Value:=.str "glasspages.pages" 1277
def tu(x:Array Value):Obj:=⟨.type "tuple",none,.seq x 0,#[]⟩
noncomputable def K (P:Params):Frag:=
(nat_lit 2,⟨.none,none,.dict #[] 0,#[]⟩)::
(nat_lit 3,⟨.type "dict",none,.dict #[en P "__name__" 165 (.str "glasspages.pages" 1277),en P "__doc__" 166 .none,en P "__package__" 167 .none,en P "__loader__" 168 (.builtin "__main__.__loader__#opaque"),en P "__spec__" 169 .none,en P "__annotations__" 170 (.ref 6),en P "__builtins__" 171 (.ref 4),en P "__file__" 173 (.str "/claim/cut.py" 172),en P "__cached__" 174 .none,en P "LARGEST" 201 (.ref 15),en P "number_at" 212 (.ref 22),en P "octets_of" 222 (.ref 29),en P "joined" 231 (.ref 36),en P "CARTOON_SIGN" 238 (.ref 37),en P "HEAD_BYTES_drawing" 240 (.int 20 239),en P "POINT_BYTES" 242 (.int 8 241),en P "LINE_BYTES" 244 (.int 4 243),en P "MARK_BYTES" 246 (.int 12 245),en P "Drawing" 320 (.ref 87),en P "pairs_at" 334 (.ref 98),en P "row_places" 343 (.ref 105),en P "drawing_of" 351 (.ref 112),en P "turn" 363 (.ref 119),en P "is_between" 372 (.ref 126),en P "is_on" 381 (.ref 133),en P "parts" 393 (.ref 140),en P "crosses" 403 (.ref 147),en P "comes_behind" 411 (.ref 154),en P "wrong_point" 422 (.ref 161),en P "line_comes_behind" 430 (.ref 168),en P "wrong_line" 439 (.ref 175),en P "lacks_corner" 445 (.ref 180),en P "edge_rows" 451 (.ref 185),en P "open_frame" 463 (.ref 192),en P "holds_point" 474 (.ref 199),en P "crosses_earlier" 486 (.ref 206),en P "entangled_line" 495 (.ref 213),en P "is_within_frame" 505 (.ref 220),en P "is_on_some_line" 514 (.ref 227),en P "wrong_mark" 523 (.ref 234),en P "is_step_below" 534 (.ref 241),en P "is_higher" 547 (.ref 248),en P "step_under" 559 (.ref 255),en P "side" 566 (.ref 262),en P "is_further_left" 580 (.ref 269),en P "step_after" 591 (.ref 276),en P "outline" 602 (.ref 283),en P "crowding_mark" 615 (.ref 290),en P "unmarked_pane" 623 (.ref 297),en P "NO_POINT" 628 (.int (-1) 627),en P "loose_point" 637 (.ref 304),en P "reached" 650 (.ref 311),en P "unreached_point" 659 (.ref 318),en P "parting_point" 669 (.ref 325),en P "HEAD_BOUNDS_cartoon" 696 (.ref 332),en P "head_fault" 705 (.ref 498),en P "head_fault_cartoon" 706 (.ref 339),en P "drawing_fault" 717 (.ref 346),en P "cartoon_fault" 725 (.ref 353),en P "NUMBER_RUNS" 790 (.ref 354),en P "FOLLOWERS" 864 (.ref 386),en P "MOST_LINES" 874 (.ref 404),en P "number_sizes" 883 (.ref 411),en P "WORKSHOP_SIGN" 890 (.ref 412),en P "HEAD_BYTES_workshop" 892 (.int 80 891),en P "SHEET_BYTES" 894 (.int 16 893),en P "KIND_BYTES" 896 (.int 8 895),en P "GLASS_BYTES" 898 (.int 64 897),en P "PAINTING_BYTES" 900 (.int 69 899),en P "BANDS_BYTES" 902 (.int 64 901),en P "MOST_COATS" 904 (.int 4 903),en P "HEAD_BOUNDS_workshop" 953 (.ref 429),en P "SHEET_BOUNDS" 966 (.ref 434),en P "KIND_BOUNDS" 973 (.ref 437),en P "out_of_bounds" 984 (.ref 444),en P "part_places" 996 (.ref 451),en P "cartoon_within" 1003 (.ref 458),en P "wrong_sheet" 1012 (.ref 465),en P "wrong_kind" 1021 (.ref 472),en P "is_right_coat" 1032 (.ref 479),en P "wrong_coat" 1042 (.ref 486),en P "wrong_painting" 1048 (.ref 491),en P "head_fault_workshop" 1057 (.ref 498),en P "parts_fault" 1069 (.ref 505),en P "workshop_fault" 1077 (.ref 512),en P "LINE_END" 1081 (.int 10 1080),en P "BLANK" 1083 (.int 32 1082),en P "ZERO" 1085 (.int 48 1084),en P "NINE" 1087 (.int 57 1086),en P "Scan" 1142 (.ref 550),en P "agreeing_count" 1151 (.ref 561),en P "words_behind" 1161 (.ref 568),en P "word_octets" 1167 (.ref 573),en P "take_word" 1179 (.ref 580),en P "take_number" 1190 (.ref 587),en P "take_numbers" 1202 (.ref 594),en P "take_coats" 1214 (.ref 601),en P "take_line" 1225 (.ref 608),en P "scan_of" 1234 (.ref 615),en P "count_octets" 1242 (.ref 620),en P "row_octets" 1248 (.ref 625),en P "cartoon_told" 1257 (.ref 632),en P "paintings_told" 1267 (.ref 639),en P "workshop_told" 1276 (.ref 646),en P "MOST_PAGE_BYTES" 1280 (.int 4194304 1279),en P "TOO_LONG" 1283 (.int (-6) 1282),en P "BROKEN_RULE" 1286 (.int (-5) 1285),en P "NO_PAGE" 1288 (.int 1 1287),en P "TOLD_RULES" 1290 (.int 16 1289),en P "refusal" 1298 (.ref 653),en P "counted" 1305 (.ref 660),en P "read" 1315 (.ref 667)] 112,#[]⟩)::
(nat_lit 15,⟨.type "dict",none,.dict #[⟨1,.int 1 189,.int 255 190⟩,⟨2,.int 2 191,.int 65535 192⟩,⟨4,.int 4 193,.int 4294967295 194⟩,⟨8,.int 8 195,.int 18446744073709551615 196⟩] 4,#[]⟩)::
(nat_lit 21,c1 "number_at" 202 3 3 21 210)::
(nat_lit 22,f1 "number_at" 2 m0 21)::
(nat_lit 28,c1 "octets_of" 213 8 2 28 220)::
(nat_lit 29,f1 "octets_of" 3 m0 28)::
(nat_lit 35,c1 "joined" 223 15 1 35 229)::
(nat_lit 36,f1 "joined" 4 m0 35)::
(nat_lit 37,tu #[.int 71 234,.int 76 235,.int 65 236,.int 49 237])::
(nat_lit 50,co "__init__" "Drawing.__init__" 259 28 6 3 45 268)::
(nat_lit 51,fo "__init__" "Drawing.__init__" (L2.inClass (top 11) 0) m1 50)::
(nat_lit 57,co "point_place" "Drawing.point_place" 271 35 2 3 52 276)::
(nat_lit 58,fo "point_place" "Drawing.point_place" (L2.inClass (top 11) 1) m1 57)::
(nat_lit 64,co "line_place" "Drawing.line_place" 279 38 2 3 59 284)::
(nat_lit 65,fo "line_place" "Drawing.line_place" (L2.inClass (top 11) 2) m1 64)::
(nat_lit 71,co "mark_place" "Drawing.mark_place" 287 41 2 3 66 292)::
(nat_lit 72,fo "mark_place" "Drawing.mark_place" (L2.inClass (top 11) 3) m1 71)::
(nat_lit 78,co "byte_count" "Drawing.byte_count" 295 44 1 3 73 299)::
(nat_lit 79,fo "byte_count" "Drawing.byte_count" (L2.inClass (top 11) 4) m1 78)::
(nat_lit 83,c2 "neighbours" "Drawing.neighbours" 302 47 1 83)::
(nat_lit 84,fo "neighbours" "Drawing.neighbours" (L2.inClass (top 11) 5) m1 83)::
(nat_lit 85,tu #[.str "height" 308,.str "lines" 309,.str "marks" 310,.str "points" 311,.str "width" 312])::
(nat_lit 86,⟨.type "dict",none,.dict #[en P "__module__" 254 (.str "glasspages.drawing" 232),en P "__firstlineno__" 258 (.int 26 257),en P "__init__" 270 (.ref 51),en P "point_place" 278 (.ref 58),en P "line_place" 286 (.ref 65),en P "mark_place" 294 (.ref 72),en P "byte_count" 301 (.ref 79),en P "neighbours" 307 (.ref 84),en P "__static_attributes__" 313 (.ref 85),en P "__dict__" 315 (.ref 88),en P "__weakref__" 317 (.ref 89),en P "__doc__" 318 .none] 4,#[]⟩)::
(nat_lit 87,⟨.type "type",none,.cls { name := "Drawing",bases:=[(.type "object")],mro:=[(.ref 87),(.type "object")],ns:=86,qualname := "Drawing" },#[none,none,(some (.str "Drawing" 247)),(some (.str "Drawing" 255)),(some (.builtin "object.__new__")),(some (.bool true))]⟩)::
(nat_lit 88,⟨.type "getset_descriptor",none,.fields #[.str "__dict__" 314,.ref 87,.builtin "function.__dict__",.builtin "function.__dict__#set"],#[]⟩)::
(nat_lit 89,⟨.type "getset_descriptor",none,.fields #[.str "__weakref__" 316,.ref 87,.builtin "ExceptionGroup.__weakref__",.none],#[]⟩)::
(nat_lit 97,c1 "pairs_at" 321 53 5 97 332)::
(nat_lit 98,f1 "pairs_at" 12 m1 97)::
(nat_lit 104,c1 "row_places" 335 59 1 104 341)::
(nat_lit 105,f1 "row_places" 13 m1 104)::
(nat_lit 111,c1 "drawing_of" 344 63 1 111 349)::
(nat_lit 112,f1 "drawing_of" 14 m1 111)::
(nat_lit 118,c1 "turn" 354 67 3 118 361)::
(nat_lit 119,f1 "turn" 16 m2 118)::
(nat_lit 125,c1 "is_between" 364 70 3 125 370)::
(nat_lit 126,f1 "is_between" 17 m2 125)::
(nat_lit 132,c1 "is_on" 373 74 3 132 379)::
(nat_lit 133,f1 "is_on" 18 m2 132)::
(nat_lit 139,c1 "parts" 382 78 4 139 391)::
(nat_lit 140,f1 "parts" 19 m2 139)::
(nat_lit 146,c1 "crosses" 394 84 4 146 401)::
(nat_lit 147,f1 "crosses" 20 m2 146)::
(nat_lit 153,c1 "comes_behind" 404 86 2 153 409)::
(nat_lit 154,f1 "comes_behind" 21 m2 153)::
(nat_lit 160,c1 "wrong_point" 414 91 1 160 420)::
(nat_lit 161,f1 "wrong_point" 23 m3 160)::
(nat_lit 167,c1 "line_comes_behind" 423 98 2 167 428)::
(nat_lit 168,f1 "line_comes_behind" 24 m3 167)::
(nat_lit 174,c1 "wrong_line" 431 102 1 174 437)::
(nat_lit 175,f1 "wrong_line" 25 m3 174)::
(nat_lit 179,c2 "lacks_corner" "lacks_corner" 440 109 1 179)::
(nat_lit 180,f1 "lacks_corner" 26 m3 179)::
(nat_lit 184,c2 "edge_rows" "edge_rows" 446 112 1 184)::
(nat_lit 185,f1 "edge_rows" 27 m3 184)::
(nat_lit 191,c1 "open_frame" 452 115 1 191 461)::
(nat_lit 192,f1 "open_frame" 28 m3 191)::
(nat_lit 198,c1 "holds_point" 464 126 2 198 472)::
(nat_lit 199,f1 "holds_point" 29 m3 198)::
(nat_lit 205,c1 "crosses_earlier" 475 133 2 205 484)::
(nat_lit 206,f1 "crosses_earlier" 30 m3 205)::
(nat_lit 212,c1 "entangled_line" 487 141 1 212 493)::
(nat_lit 213,f1 "entangled_line" 31 m3 212)::
(nat_lit 219,c1 "is_within_frame" 498 147 2 219 503)::
(nat_lit 220,f1 "is_within_frame" 33 m4 219)::
(nat_lit 226,c1 "is_on_some_line" 506 151 2 226 512)::
(nat_lit 227,f1 "is_on_some_line" 34 m4 226)::
(nat_lit 233,c1 "wrong_mark" 515 156 1 233 521)::
(nat_lit 234,f1 "wrong_mark" 35 m4 233)::
(nat_lit 240,c1 "is_step_below" 524 163 3 240 532)::
(nat_lit 241,f1 "is_step_below" 36 m4 240)::
(nat_lit 247,c1 "is_higher" 535 167 3 247 545)::
(nat_lit 248,f1 "is_higher" 37 m4 247)::
(nat_lit 254,c1 "step_under" 548 177 2 254 557)::
(nat_lit 255,f1 "step_under" 38 m4 254)::
(nat_lit 261,c1 "side" 560 185 1 261 564)::
(nat_lit 262,f1 "side" 39 m4 261)::
(nat_lit 268,c1 "is_further_left" 567 189 4 268 578)::
(nat_lit 269,f1 "is_further_left" 40 m4 268)::
(nat_lit 275,c1 "step_after" 581 197 3 275 589)::
(nat_lit 276,f1 "step_after" 41 m4 275)::
(nat_lit 282,c1 "outline" 592 203 3 282 600)::
(nat_lit 283,f1 "outline" 42 m4 282)::
(nat_lit 289,c1 "crowding_mark" 603 210 1 289 613)::
(nat_lit 290,f1 "crowding_mark" 43 m4 289)::
(nat_lit 296,c1 "unmarked_pane" 616 220 1 296 621)::
(nat_lit 297,f1 "unmarked_pane" 44 m4 296)::
(nat_lit 303,c1 "loose_point" 629 227 1 303 635)::
(nat_lit 304,f1 "loose_point" 47 m5 303)::
(nat_lit 310,c1 "reached" 638 232 3 310 648)::
(nat_lit 311,f1 "reached" 48 m5 310)::
(nat_lit 317,c1 "unreached_point" 651 242 1 317 657)::
(nat_lit 318,f1 "unreached_point" 49 m5 317)::
(nat_lit 324,c1 "parting_point" 660 248 1 324 667)::
(nat_lit 325,f1 "parting_point" 50 m5 324)::
(nat_lit 326,tu #[.int 4 672,.int 4 673,.int 16 674,.int 1048575 675])::
(nat_lit 327,tu #[.int 8 676,.int 4 677,.int 16 678,.int 1048575 679])::
(nat_lit 328,tu #[.int 12 680,.int 2 681,.int 4 682,.int 4096 683])::
(nat_lit 329,tu #[.int 14 684,.int 2 685,.int 4 686,.int 8192 687])::
(nat_lit 330,tu #[.int 16 688,.int 2 689,.int 1 690,.int 2048 691])::
(nat_lit 331,tu #[.int 18 692,.int 2 693,.int 0 694,.int 0 695])::
(nat_lit 332,tu #[.ref 326,.ref 327,.ref 328,.ref 329,.ref 330,.ref 331])::
(nat_lit 338,c1 "head_fault" 697 257 1 338 703)::
(nat_lit 339,f1 "head_fault" 53 m6 338)::
(nat_lit 345,c1 "drawing_fault" 707 270 1 345 715)::
(nat_lit 346,f1 "drawing_fault" 55 m6 345)::
(nat_lit 352,c1 "cartoon_fault" 718 277 1 352 723)::
(nat_lit 353,f1 "cartoon_fault" 56 m6 352)::
(nat_lit 354,⟨.type "dict",none,.dict #[en P "workshop" 728 (.ref 355),en P "window" 730 (.ref 357),en P "point" 734 (.ref 359),en P "line" 738 (.ref 361),en P "pane" 742 (.ref 364),en P "cut" 748 (.ref 366),en P "lead" 752 (.ref 368),en P "margin" 756 (.ref 370),en P "ways" 760 (.ref 372),en P "shelf" 764 (.ref 374),en P "sheet" 768 (.ref 376),en P "kind" 772 (.ref 378),en P "glass" 776 (.ref 380),en P "paint" 780 (.ref 382),en P "coats" 784 (.ref 384),en P "end" 788 (.ref 385)] 16,#[]⟩)::
(nat_lit 355,tu #[])::
(nat_lit 356,tu #[.int 2 731,.int 4 732])::
(nat_lit 357,tu #[.ref 356])::
(nat_lit 358,tu #[.int 2 735,.int 4 736])::
(nat_lit 359,tu #[.ref 358])::
(nat_lit 360,tu #[.int 2 739,.int 2 740])::
(nat_lit 361,tu #[.ref 360])::
(nat_lit 362,tu #[.int 2 743,.int 4 744])::
(nat_lit 363,tu #[.int 2 745,.int 2 746])::
(nat_lit 364,tu #[.ref 362,.ref 363])::
(nat_lit 365,tu #[.int 5 749,.int 4 750])::
(nat_lit 366,tu #[.ref 365])::
(nat_lit 367,tu #[.int 5 753,.int 4 754])::
(nat_lit 368,tu #[.ref 367])::
(nat_lit 369,tu #[.int 1 757,.int 4 758])::
(nat_lit 370,tu #[.ref 369])::
(nat_lit 371,tu #[.int 1 761,.int 4 762])::
(nat_lit 372,tu #[.ref 371])::
(nat_lit 373,tu #[.int 1 765,.int 8 766])::
(nat_lit 374,tu #[.ref 373])::
(nat_lit 375,tu #[.int 4 769,.int 4 770])::
(nat_lit 376,tu #[.ref 375])::
(nat_lit 377,tu #[.int 2 773,.int 4 774])::
(nat_lit 378,tu #[.ref 377])::
(nat_lit 379,tu #[.int 32 777,.int 2 778])::
(nat_lit 380,tu #[.ref 379])::
(nat_lit 381,tu #[.int 32 781,.int 2 782])::
(nat_lit 382,tu #[.ref 381])::
(nat_lit 383,tu #[.int 4 785,.int 1 786])::
(nat_lit 384,tu #[.ref 383])::
(nat_lit 385,tu #[])::
(nat_lit 386,⟨.type "dict",none,.dict #[en P "" 791 (.ref 387),en P "workshop" 794 (.ref 388),en P "window" 797 (.ref 389),en P "point" 803 (.ref 390),en P "line" 809 (.ref 391),en P "pane" 814 (.ref 392),en P "cut" 818 (.ref 393),en P "lead" 821 (.ref 394),en P "margin" 824 (.ref 395),en P "ways" 827 (.ref 396),en P "shelf" 830 (.ref 397),en P "sheet" 837 (.ref 398),en P "kind" 844 (.ref 399),en P "glass" 850 (.ref 400),en P "paint" 855 (.ref 401),en P "coats" 858 (.ref 402),en P "end" 862 (.ref 403)] 17,#[]⟩)::
(nat_lit 387,tu #[.str "workshop" 792])::
(nat_lit 388,tu #[.str "window" 795])::
(nat_lit 389,tu #[.str "point" 798,.str "line" 799,.str "pane" 800,.str "cut" 801])::
(nat_lit 390,tu #[.str "point" 804,.str "line" 805,.str "pane" 806,.str "cut" 807])::
(nat_lit 391,tu #[.str "line" 810,.str "pane" 811,.str "cut" 812])::
(nat_lit 392,tu #[.str "pane" 815,.str "cut" 816])::
(nat_lit 393,tu #[.str "lead" 819])::
(nat_lit 394,tu #[.str "margin" 822])::
(nat_lit 395,tu #[.str "ways" 825])::
(nat_lit 396,tu #[.str "shelf" 828])::
(nat_lit 397,tu #[.str "sheet" 831,.str "kind" 832,.str "glass" 833,.str "paint" 834,.str "end" 835])::
(nat_lit 398,tu #[.str "sheet" 838,.str "kind" 839,.str "glass" 840,.str "paint" 841,.str "end" 842])::
(nat_lit 399,tu #[.str "kind" 845,.str "glass" 846,.str "paint" 847,.str "end" 848])::
(nat_lit 400,tu #[.str "glass" 851,.str "paint" 852,.str "end" 853])::
(nat_lit 401,tu #[.str "coats" 856])::
(nat_lit 402,tu #[.str "paint" 859,.str "end" 860])::
(nat_lit 403,tu #[])::
(nat_lit 404,⟨.type "dict",none,.dict #[en P "point" 865 (.int 65535 866),en P "line" 867 (.int 65535 868),en P "pane" 869 (.int 65535 870)] 3,#[]⟩)::
(nat_lit 410,c1 "number_sizes" 875 286 1 410 881)::
(nat_lit 411,f1 "number_sizes" 61 m7 410)::
(nat_lit 412,tu #[.int 71 886,.int 76 887,.int 65 888,.int 87 889])::
(nat_lit 413,tu #[.int 8 905,.int 0 906,.int 1000 907])::
(nat_lit 414,tu #[.int 12 908,.int 1 909,.int 1000 910])::
(nat_lit 415,tu #[.int 16 911,.int 0 912,.int 1000 913])::
(nat_lit 416,tu #[.int 20 914,.int 1 915,.int 1000 916])::
(nat_lit 417,tu #[.int 24 917,.int 0 918,.int 65535 919])::
(nat_lit 418,tu #[.int 28 920,.int 0 921,.int 1000 922])::
(nat_lit 419,tu #[.int 32 923,.int 1 924,.int 1000 925])::
(nat_lit 420,tu #[.int 36 926,.int 1 927,.int 16777215 928])::
(nat_lit 421,tu #[.int 40 929,.int 0 930,.int 65535 931])::
(nat_lit 422,tu #[.int 44 932,.int 0 933,.int 65535 934])::
(nat_lit 423,tu #[.int 48 935,.int 0 936,.int 65535 937])::
(nat_lit 424,tu #[.int 52 938,.int 1 939,.int 255 940])::
(nat_lit 425,tu #[.int 56 941,.int 0 942,.int 1024 943])::
(nat_lit 426,tu #[.int 60 944,.int 0 945,.int 16 946])::
(nat_lit 427,tu #[.int 64 947,.int 0 948,.int 256 949])::
(nat_lit 428,tu #[.int 68 950,.int 0 951,.int 256 952])::
(nat_lit 429,tu #[.ref 413,.ref 414,.ref 415,.ref 416,.ref 417,.ref 418,.ref 419,.ref 420,.ref 421,.ref 422,.ref 423,.ref 424,.ref 425,.ref 426,.ref 427,.ref 428])::
(nat_lit 430,tu #[.int 0 954,.int 0 955,.int 65535 956])::
(nat_lit 431,tu #[.int 4 957,.int 1 958,.int 16777215 959])::
(nat_lit 432,tu #[.int 8 960,.int 1 961,.int 16777215 962])::
(nat_lit 433,tu #[.int 12 963,.int 0 964,.int 1 965])::
(nat_lit 434,tu #[.ref 430,.ref 431,.ref 432,.ref 433])::
(nat_lit 435,tu #[.int 0 967,.int 1 968,.int 1400 969])::
(nat_lit 436,tu #[.int 4 970,.int 0 971,.int 9999 972])::
(nat_lit 437,tu #[.ref 435,.ref 436])::
(nat_lit 443,c1 "out_of_bounds" 974 303 3 443 982)::
(nat_lit 444,f1 "out_of_bounds" 74 m8 443)::
(nat_lit 450,c1 "part_places" 985 309 1 450 994)::
(nat_lit 451,f1 "part_places" 75 m8 450)::
(nat_lit 457,c1 "cartoon_within" 997 316 1 457 1001)::
(nat_lit 458,f1 "cartoon_within" 76 m8 457)::
(nat_lit 464,c1 "wrong_sheet" 1004 318 2 464 1010)::
(nat_lit 465,f1 "wrong_sheet" 77 m8 464)::
(nat_lit 471,c1 "wrong_kind" 1013 323 2 471 1019)::
(nat_lit 472,f1 "wrong_kind" 78 m8 471)::
(nat_lit 478,c1 "is_right_coat" 1022 328 4 478 1030)::
(nat_lit 479,f1 "is_right_coat" 79 m8 478)::
(nat_lit 485,c1 "wrong_coat" 1033 335 3 485 1040)::
(nat_lit 486,f1 "wrong_coat" 80 m8 485)::
(nat_lit 490,c2 "wrong_painting" "wrong_painting" 1043 342 2 490)::
(nat_lit 491,f1 "wrong_painting" 81 m8 490)::
(nat_lit 497,c1 "head_fault" 1049 349 1 497 1054)::
(nat_lit 498,f1 "head_fault" 82 m8 497)::
(nat_lit 504,c1 "parts_fault" 1058 361 2 504 1067)::
(nat_lit 505,f1 "parts_fault" 84 m8 504)::
(nat_lit 511,c1 "workshop_fault" 1070 370 1 511 1075)::
(nat_lit 512,f1 "workshop_fault" 85 m8 511)::
(nat_lit 525,co "__init__" "Scan.__init__" 1100 382 2 3 520 1106)::
(nat_lit 526,fo "__init__" "Scan.__init__" (L2.inClass (top 91) 0) m9 525)::
(nat_lit 532,co "octet_ahead" "Scan.octet_ahead" 1109 389 2 3 527 1114)::
(nat_lit 533,fo "octet_ahead" "Scan.octet_ahead" (L2.inClass (top 91) 1) m9 532)::
(nat_lit 539,co "takes" "Scan.takes" 1117 394 2 3 534 1122)::
(nat_lit 540,fo "takes" "Scan.takes" (L2.inClass (top 91) 2) m9 539)::
(nat_lit 546,co "is_page" "Scan.is_page" 1125 400 1 3 541 1129)::
(nat_lit 547,fo "is_page" "Scan.is_page" (L2.inClass (top 91) 3) m9 546)::
(nat_lit 548,tu #[.str "place" 1132,.str "rows" 1133,.str "text" 1134])::
(nat_lit 549,⟨.type "dict",none,.dict #[en P "__module__" 1095 (.str "glasspages.reading" 1078),en P "__firstlineno__" 1099 (.int 380 1098),en P "__init__" 1108 (.ref 526),en P "octet_ahead" 1116 (.ref 533),en P "takes" 1124 (.ref 540),en P "is_page" 1131 (.ref 547),en P "__static_attributes__" 1135 (.ref 548),en P "__dict__" 1137 (.ref 551),en P "__weakref__" 1139 (.ref 552),en P "__doc__" 1140 .none] 4,#[]⟩)::
(nat_lit 550,⟨.type "type",none,.cls { name := "Scan",bases:=[(.type "object")],mro:=[(.ref 550),(.type "object")],ns:=549,qualname := "Scan" },#[none,none,(some (.str "Scan" 1088)),(some (.str "Scan" 1096)),(some (.builtin "object.__new__")),(some (.bool true))]⟩)::
(nat_lit 551,⟨.type "getset_descriptor",none,.fields #[.str "__dict__" 1136,.ref 550,.builtin "function.__dict__",.builtin "function.__dict__#set"],#[]⟩)::
(nat_lit 552,⟨.type "getset_descriptor",none,.fields #[.str "__weakref__" 1138,.ref 550,.builtin "ExceptionGroup.__weakref__",.none],#[]⟩)::
(nat_lit 560,c1 "agreeing_count" 1143 402 2 560 1149)::
(nat_lit 561,f1 "agreeing_count" 92 m9 560)::
(nat_lit 567,c1 "words_behind" 1152 407 2 567 1159)::
(nat_lit 568,f1 "words_behind" 93 m9 567)::
(nat_lit 572,c2 "word_octets" "word_octets" 1162 413 1 572)::
(nat_lit 573,f1 "word_octets" 94 m9 572)::
(nat_lit 579,c1 "take_word" 1168 416 2 579 1177)::
(nat_lit 580,f1 "take_word" 95 m9 579)::
(nat_lit 586,c1 "take_number" 1180 427 2 586 1188)::
(nat_lit 587,f1 "take_number" 96 m9 586)::
(nat_lit 593,c1 "take_numbers" 1191 438 2 593 1200)::
(nat_lit 594,f1 "take_numbers" 97 m9 593)::
(nat_lit 600,c1 "take_coats" 1203 446 2 600 1212)::
(nat_lit 601,f1 "take_coats" 98 m9 600)::
(nat_lit 607,c1 "take_line" 1215 458 2 607 1223)::
(nat_lit 608,f1 "take_line" 99 m9 607)::
(nat_lit 614,c1 "scan_of" 1226 468 1 614 1232)::
(nat_lit 615,f1 "scan_of" 100 m9 614)::
(nat_lit 619,c2 "count_octets" "count_octets" 1237 475 3 619)::
(nat_lit 620,f1 "count_octets" 102 vw 619)::
(nat_lit 624,c2 "row_octets" "row_octets" 1243 477 2 624)::
(nat_lit 625,f1 "row_octets" 103 vw 624)::
(nat_lit 631,c1 "cartoon_told" 1249 479 1 631 1255)::
(nat_lit 632,f1 "cartoon_told" 104 vw 631)::
(nat_lit 638,c1 "paintings_told" 1258 483 1 638 1265)::
(nat_lit 639,f1 "paintings_told" 105 vw 638)::
(nat_lit 645,c1 "workshop_told" 1268 489 1 645 1274)::
(nat_lit 646,f1 "workshop_told" 106 vw 645)::
(nat_lit 652,c1 "refusal" 1291 502 2 652 1296)::
(nat_lit 653,f1 "refusal" 113 AX 652)::
(nat_lit 659,c1 "counted" 1299 504 1 659 1303)::
(nat_lit 660,f1 "counted" 114 AX 659)::
(nat_lit 666,c1 "read" 1306 506 1 666 1313)::
(nat_lit 667,f1 "read" 115 AX 666)::
[]
def as:List Addr:=[2,3,15,21,22,28,29,35,36,37,50,51,57,58,64,65,71,72,78,79,83,84,85,86,87,88,89,97,98,104,105,111,112,118,119,125,126,132,133,139,140,146,147,153,154,160,161,167,168,174,175,179,180,184,185,191,192,198,199,205,206,212,213,219,220,226,227,233,234,240,241,247,248,254,255,261,262,268,269,275,276,282,283,289,290,296,297,303,304,310,311,317,318,324,325,326,327,328,329,330,331,332,338,339,345,346,352,353,354,355,356,357,358,359,360,361,362,363,364,365,366,367,368,369,370,371,372,373,374,375,376,377,378,379,380,381,382,383,384,385,386,387,388,389,390,391,392,393,394,395,396,397,398,399,400,401,402,403,404,410,411,412,413,414,415,416,417,418,419,420,421,422,423,424,425,426,427,428,429,430,431,432,433,434,435,436,437,443,444,450,451,457,458,464,465,471,472,478,479,485,486,490,491,497,498,504,505,511,512,525,526,532,533,539,540,546,547,548,549,550,551,552,560,561,567,568,572,573,579,580,586,587,593,594,600,601,607,608,614,615,619,620,624,625,631,632,638,639,645,646,652,653,659,660,666,667]
theorem ae:∀P,as=(K P).map (·.1):=fun _=>by kernel_rfl
noncomputable abbrev hk:Hook:=kHook K as ae
theorem uT{p q:Program}{loose:List Str}{Xt:Shared->Bool}{α:Type}{Yf:Shared->α}{Ya:World->α}{N:Nat}{H:Params->Heap}{j:Array GenState}{d:Drawn}{k:Nat}
  (o:∀w:World,(fencedOpening treeTable p w N).map (fun s=>(s.heap,s.gens,s.drawn,s.toks))=some (H w.params,j,d,k))
  (h:∀(w:World)(os:OsState),(topFrom treeTable p w N ⟨H w.params,j,d,k,os⟩).map (fun s=>(openSeen q loose (importedModules p.main.body) Xt true s,Yf s))=some (openGood q loose,Ya w)):LeftO p q loose Xt Yf Ya N:=by
 intro w;obtain⟨⟨a,b,c,e,os⟩,z,n⟩:=Option.map_eq_some_iff.mp (o w);simp only[Prod.mk.injEq]at n;obtain⟨rfl,rfl,rfl,rfl⟩:=n;unfold openEnds;rw[z];exact h w os
theorem op:∀w:World,(fencedOpening treeTable PySem.Challenge.pw_glasspages_s03_read w 8502).map (fun s=>(s.heap,s.gens,s.drawn,s.toks))=some (boot_heap w.params,Array.mk [],boot_drawn,boot_toks):=
 boot_open (by kernel_rfl) Wa (fun s=>by kernel_rfl)
def Hr(w:World)(os:OsState):Prop:=(topFrom treeTable PySem.Challenge.pw_glasspages_s03_read w 8502 ⟨boot_heap w.params,Array.mk [],boot_drawn,boot_toks,os⟩).map (fun s=>(openSeen q ls (importedModules PySem.Challenge.pw_glasspages_s03_read.main.body) Xt true s,Hook.obs hk s))=some (openGood q ls,Hook.val hk w)
set_option maxHeartbeats 0 in
theorem Dc:∀(w:World)(os:OsState),Hr (w.withFollow "special-get-raises" false) os:=by
 intro w os;unfold Hr topFrom;rw[PySem.W.Fast.te14082659384304107361,PySem.W.Fast.te14364793385576792824,PySem.W.Fast.te4187177175401517315]
 kernel_rfl
set_option maxHeartbeats 0 in
theorem eM:∀(w:World)(os:OsState),Hr (w.withFollow "special-get-raises" true) os:=by
 intro w os;unfold Hr topFrom;rw[PySem.W.Fast.te14082659384304107361,PySem.W.Fast.te14364793385576792824,PySem.W.Fast.te4187177175401517315]
 kernel_rfl
theorem hr:∀(w:World)(os:OsState),Hr w os:=fun w os=>byRow2 "special-get-raises" (P:=fun w=>Hr w os) (fun w=>Dc w os) (fun w=>eM w os) w
theorem hl:LeftO PySem.Challenge.pw_glasspages_s03_read q ls Xt (Hook.obs hk) (Hook.val hk) 8502:=uT op hr
end Hd
namespace Pl
def su{α:Type}(l:List α)(f:α->Int):Int:=l.foldr (fun a b=>f a+b) 0
theorem ZU{α:Type}(f:α->Int):su [] f=0:=rfl
theorem QQ{α:Type}(a:α)(l:List α)(f:α->Int):su (a::l) f=f a+su l f:=rfl
theorem Ye{α:Type}(l m:List α)(f:α->Int):su (l++m) f=su l f+su m f:=by
 induction l with
 |nil=>simp[ZU]
 |cons a l j=>simp only[List.cons_append,QQ,j];lia
theorem Qt{α:Type}{l:List α}{f g:α->Int}(h:∀a∈l,f a=g a):su l f=su l g:=by
 induction l with
 |nil=>rfl
 |cons a l j=>rw[QQ,QQ,h a We,j (fun x n=>h x (by simp[n]))]
theorem ZL{α:Type}(l:List α)(f g:α->Int):su l (fun a=>f a+g a)=su l f+su l g:=by
 induction l with
 |nil=>rfl
 |cons a l j=>simp only[QQ,j];lia
theorem XC{α:Type}(l:List α)(f g:α->Int):su l (fun a=>f a-g a)=su l f-su l g:=by
 induction l with
 |nil=>rfl
 |cons a l j=>simp only[QQ,j];lia
theorem jC{α:Type}(l:List α)(f:α->Int):su l (fun a=>- f a) = - su l f:=by
 induction l with
 |nil=>rfl
 |cons a l j=>simp only[QQ,j];lia
theorem XD{α:Type}(l:List α)(c:Int)(f:α->Int):su l (fun a=>c*f a)=c*su l f:=by
 induction l with
 |nil=>simp[ZU]
 |cons a l j=>simp only[QQ,j,Int.mul_add]
theorem jB{α:Type}(l:List α):su l (fun _=>0)=0:=by
 induction l with
 |nil=>rfl
 |cons a l j=>simp only[QQ,j];lia
theorem Q1{α:Type}{l:List α}{f:α->Int}(h:∀a∈l,f a=0):su l f=0:=by rw[Qt h,jB]
theorem XV{α β:Type}(l:List α)(m:List β)(f:α->β->Int) :
  su l (fun a=>su m (fun b=>f a b))=su m (fun b=>su l (fun a=>f a b)):=by
 induction l with
 |nil=>simp only[ZU];exact(jB m).symm
 |cons a l j=>simp only[QQ,j];exact(ZL m _ _).symm
theorem yS{α:Type}{l:List α}{f:α->Int}(h:∀a∈l,0<=f a):0<=su l f:=by
 induction l with
 |nil=>simp[ZU]
 | cons a l j=>
  have h1:=h a We;have h2:=j (fun x n=>h x (by simp[n]));rw[QQ];lia
theorem uD{α:Type}{l:List α}{f:α->Int}(h:∀a∈l,0<=f a){x:α}(j:x∈l)(n:0<f x):0<su l f:=by
 induction l with
 |nil=>simp at j
 | cons a l z=>
  have h1:=h a We;have h2:=yS (l:=l) (f:=f) (fun x j=>h x (by simp[j]));rw[QQ];rcases List.mem_cons.1 j with rfl|j
  ·lia
  ·grind
theorem iS{α:Type}{l:List α}{f:α->Int}(h:∀a∈l,0<=f a)(h0:su l f=0):∀x∈l,f x=0:=by
 intro x j;have h1:=h x j;rcases Int.lt_or_eq_of_le h1 with h2|h2
 ·have:=uD h j h2;lia
 lia
theorem vq{α:Type}{l m:List α}(h:l.Perm m)(f:α->Int):su l f=su m f:=by
 induction h with
 |nil=>rfl
 |cons a _ j=>simp only[QQ,j]
 |swap a b l=>simp only[QQ];lia
 |trans _ _ h1 h2=>rw[h1,h2]
theorem tM{α β:Type}(l:List α)(g:α->β)(f:β->Int):su (l.map g) f=su l (fun a=>f (g a)):=by
 induction l with
 |nil=>rfl
 |cons a l j=>simp only[xT,QQ,j]
theorem Yd{α:Type} [DecidableEq α] {l:List α} {x:α} (j:x∈l) (f:α->Int):su l f=f x+su (l.erase x) f:=by rw[vq (List.perm_cons_erase j) f,QQ]
theorem ZT{α:Type} [DecidableEq α] {l:List α} (n:l.Nodup) {x:α} (j:x∈l) (f:α->Int) :
  su l (fun a=>if a=x then f a else 0)=f x:=by
 rw[Yd j,Wi Z,Q1 (fun a z=>?_)];all_goals grind
theorem mK{α:Type} [DecidableEq α] {l:List α} {x:α} (j:x∉l) (f:α->Int) :
  su l (fun a=>if a=x then f a else 0)=0:=by
 apply Q1;lia
theorem oR{α:Type}(l:List α)(p:α->Bool)(f:α->Int):su (l.filter p) f=su l (fun a=>if p a=true then f a else 0):=by
 induction l with
 |nil=>rfl
 | cons a l j=>
  by_cases h:p a=true
  ·rw[VH h,QQ,QQ,j,Wi h]
  ·rw[Qa2 h,QQ,j,Wh h];lia
theorem solve{α:Type} [DecidableEq α]:∀(I:List (α->Int)) (J:List α),J.Nodup->I.length<J.length->
  ∃c:α->Int,(∃j∈J,c j≠0)/\∀r∈I,su J (fun j=>r j*c j)=0:=by
 intro I;generalize hk:I.length=k;induction k generalizing I with
 | zero=>
  intro J O hl;have:I=[]:=by cases I<;>simp_all
  subst this;refine⟨fun _=>1,?_,by simp⟩;cases J with
  |nil=>simp at hl
  |cons j J=>exact⟨j,by simp,by simp⟩
 | succ k ih=>
  intro J O hl
  obtain⟨r,z,rfl⟩:∃r z,I=r::z:=by cases I with
   |nil=>simp at hk
   |cons r z=>exact⟨r,z,Z⟩
  simp only[xO,Nat.add_right_cancel_iff]at hk;by_cases hz:∀j∈J,r j=0
  ·obtain⟨c,h1,h2⟩:=ih z hk J O L;refine⟨c,h1,?_⟩;intro q B;rcases List.mem_cons.1 B with rfl | B
   ·exact Q1 (fun j M=>by rw[hz j M,VT])
   grind
  ·obtain⟨n,F,Dc⟩:∃ n,n∈J/\r n≠0:=by apply xH;intro hc;apply hz;intro j M;apply xH;intro U;exact hc ⟨j,M,U⟩
   have ac:(J.erase n).length=J.length-1:=Ue F;obtain⟨c,⟨j1,aa,ab⟩,h2⟩:=ih (z.map (fun q j=>r n*q j-r j*q n)) (by simp[hk]) (J.erase n) (O.erase n) L
   have G:j1≠n:=by grind
   refine⟨fun j=>if j=n then-su (J.erase n) (fun j=>r j*c j) else r n*c j,⟨j1,Uy aa,?_⟩,?_⟩
   ·simp only[Wh G];exact Int.mul_ne_zero Dc ab
   ·intro q B
    have key:su J (fun j=>q j*(if j=n then-su (J.erase n) (fun j=>r j*c j) else r n*c j))
      = q n*(- su (J.erase n) (fun j=>r j*c j))+su (J.erase n) (fun j=>q j*(r n*c j)):=by
     rw[Yd F];simp only[Wq];congr 1;apply Qt;intro j M
     have:j≠n:=by grind
     rw[Wh this]
    show su J _=0;rw[key];rcases List.mem_cons.1 B with rfl|B
    ·have:su (J.erase n) (fun j=>q j*(q n*c j))=q n*su (J.erase n) (fun j=>q j*c j):=by rw[<-XD];apply Qt;intro j _;rw[Qat]
     lia
    ·have h3:=h2 (fun j=>r n*q j-r j*q n) (List.mem_map.2 ⟨q,B,Z⟩)
     have:su (J.erase n) (fun j=>q j*(r n*c j))-q n*su (J.erase n) (fun j=>r j*c j)=0:=by rw[<-h3,<-XD,<-XC];grind
     lia
structure Dr where
 X:Nat->Int
 Y:Nat->Int
 E:List (Nat×Nat)
 s:Nat×Nat->Int
 D:Int
def Dr.h(K:Dr)(e:Nat×Nat)(t:Int):Int:=2*(K.D*K.Y e.1)+K.s e*(t-2*K.X e.1)
abbrev Dr.act(K:Dr)(e:Nat×Nat)(t:Int):Prop:=K.X e.1<=t/\t<K.X e.2
def Dr.below(K : Dr)(e f : Nat × Nat) : Prop :=
  K.h e (2*max (K.X e.1) (K.X f.1))<=K.h f (2*max (K.X e.1) (K.X f.1)) /\
  K.h e (2*min (K.X e.2) (K.X f.2))<=K.h f (2*min (K.X e.2) (K.X f.2)) /\
  (K.h e (2 * max (K.X e.1) (K.X f.1)) < K.h f (2 * max (K.X e.1) (K.X f.1)) \/
   K.h e (2*min (K.X e.2) (K.X f.2))<K.h f (2*min (K.X e.2) (K.X f.2)))
structure Dr.Ok(K:Dr):Prop where
 kX:0<K.D
 nodup:K.E.Nodup
 left:∀e∈K.E,K.X e.1<K.X e.2
 slope:∀e∈K.E,K.D*K.Y e.2=K.D*K.Y e.1+K.s e*(K.X e.2-K.X e.1)
 inj:∀e∈K.E,∀f∈K.E,(K.X e.1=K.X f.1->e.1=f.1)/\(K.X e.1=K.X f.2->e.1=f.2)/\(K.X e.2=K.X f.2->e.2=f.2)
 cross:∀e∈K.E,∀f∈K.E,e≠f->max (K.X e.1) (K.X f.1)<min (K.X e.2) (K.X f.2)->K.below e f\/K.below f e
 clear:∀e∈K.E,∀f∈K.E,(K.X e.1<K.X f.1->K.X f.1<K.X e.2->K.h e (2*K.X f.1)≠2*(K.D*K.Y f.1))/\
  (K.X e.1<K.X f.2->K.X f.2<K.X e.2->K.h e (2*K.X f.2)≠2*(K.D*K.Y f.2))
theorem BO{A B p q t:Int}(n:p<t)(z:t<q)(h1:A+B*p<=0)(h2:A+B*q<=0)(j:A+B*p<0\/A+B*q<0):A+B*t<0:=by
 have e:(q-p)*(A+B*t)=(q-t)*(A+B*p)+(t-p)*(A+B*q):=by grind
 have F:(q-t)*(A+B*p)<=0:=Gn L h1;have G:(t-p)*(A+B*q)<=0:=Gn L h2
 have I:(q-p)*(A+B*t)<0:=by
  rcases j with j|j
  ·have:(q-t)*(A+B*p)<0:=Gu L j;lia
  ·have:(t-p)*(A+B*q)<0:=Gu L j;lia
 apply xH;intro hc;have:0<=(q-p)*(A+B*t):=UC L L;lia
theorem Dr.dn(K:Dr)(e f:Nat×Nat)(t:Int):K.h e t-K.h f t=(K.h e 0-K.h f 0)+(K.s e-K.s f)*t:=by unfold Dr.h;grind
theorem Dr.bM{K:Dr}{e f:Nat×Nat}(h:K.below e f){t:Int}
  (h1:2*K.X e.1<t) (h2:2*K.X f.1<t) (j:t<2*K.X e.2) (n:t<2*K.X f.2):K.h e t<K.h f t:=by
 obtain⟨a,b,c⟩:=h;have z:=K.dn e f t;have F:=K.dn e f (2*max (K.X e.1) (K.X f.1));have G:=K.dn e f (2*min (K.X e.2) (K.X f.2))
 have:=BO (A:=K.h e 0-K.h f 0) (B:=K.s e-K.s f) (p:=2*max (K.X e.1) (K.X f.1)) (q:=2*min (K.X e.2) (K.X f.2)) (t:=t)
  L L L L L
 lia
theorem Dr.sP(K:Dr)(e:Nat×Nat):K.h e (2*K.X e.1)=2*(K.D*K.Y e.1):=by unfold Dr.h;grind
theorem Dr.Ok.vk{K:Dr}(O:K.Ok){e:Nat×Nat}(j:e∈K.E):K.h e (2*K.X e.2)=2*(K.D*K.Y e.2):=by have:=O.slope e j;unfold Dr.h;grind
theorem Dr.Ok.order{K:Dr}(O:K.Ok){e f:Nat×Nat}(F:e∈K.E)(hf:f∈K.E){t u:Int}
  (h1:2*K.X e.1<t) (h2:2*K.X f.1<t) (z:t<2*K.X e.2) (B:t<2*K.X f.2)
  (k1:2*K.X e.1<u) (k2:2*K.X f.1<u) (k3:u<2*K.X e.2) (k4:u<2*K.X f.2) :
  (K.h e t<K.h f t↔K.h e u<K.h f u):=by
 by_cases j:e=f
 ·subst j;lia
 ·rcases O.cross e F f hf j L with n | n
  ·have:=Dr.bM n h1 h2 z B;have:=Dr.bM n k1 k2 k3 k4;lia
  ·have:=Dr.bM n h2 h1 B z;have:=Dr.bM n k2 k1 k4 k3;lia
theorem Dr.Ok.distinct{K:Dr}(O:K.Ok){e f:Nat×Nat}(F:e∈K.E)(hf:f∈K.E)(j:e≠f){t:Int}
  (h1:2*K.X e.1<t) (h2:2*K.X f.1<t) (z:t<2*K.X e.2) (B:t<2*K.X f.2):K.h e t≠K.h f t:=by
 rcases O.cross e F f hf j L with n|n
 ·have:=Dr.bM n h1 h2 z B;lia
 ·have:=Dr.bM n h2 h1 B z;lia
theorem pz{A B p q t:Int}(j:p<t)(n:t<q)(h1:A+B*p<=0)(h2:A+B*q<=0):A+B*t<=0:=by
 have e:(q-p)*(A+B*t)=(q-t)*(A+B*p)+(t-p)*(A+B*q):=by grind
 have z:(q-t)*(A+B*p)<=0:=Gn L h1;have F:(t-p)*(A+B*q)<=0:=Gn L h2;apply xH;intro hc;have:0<(q-p)*(A+B*t):=UN L L;lia
theorem Dr.Ok.eY{K:Dr}(O:K.Ok){i e:Nat×Nat}(hi:i∈K.E)(z:e∈K.E)
  (F:K.X e.1<K.X i.2) (p2:K.X i.2<K.X e.2) {t:Int}
  (h1:2*K.X i.1<t) (h2:2*K.X e.1<t) (B:t<2*K.X i.2) :
  (K.h i t<K.h e t↔2*(K.D*K.Y i.2)<K.h e (2*K.X i.2)):=by
 have n:i≠e:=by intro h;subst h;lia
 have hl:=O.left i hi;have I:=(O.clear e z i hi).2 F p2;have hr:=O.vk hi;have J:min (K.X i.2) (K.X e.2)=K.X i.2:=by lia
 have G:min (K.X e.2) (K.X i.2)=K.X i.2:=by lia
 rcases O.cross i hi e z n L with j|j
 ·have a:=Dr.bM j h1 h2 B L;have b:=j.2.1;lia
 ·have a:=Dr.bM j h2 h1 L B;have b:=j.2.1;lia
theorem Dr.Ok.eI{K:Dr}(O:K.Ok){o e:Nat×Nat}(n:o∈K.E)(B:e∈K.E)
  (G:K.X e.1<K.X o.1) (p2:K.X o.1<K.X e.2) {t:Int}
  (h1:t<2*K.X o.2) (h2:t<2*K.X e.2) (F:2*K.X o.1<t) :
  (K.h o t<K.h e t↔2*(K.D*K.Y o.1)<K.h e (2*K.X o.1)):=by
 have z:o≠e:=by intro h;subst h;lia
 have hl:=O.left o n;have J:=(O.clear e B o n).1 G p2;have hr:=K.sP o;have M:max (K.X o.1) (K.X e.1)=K.X o.1:=by lia
 have I:max (K.X e.1) (K.X o.1)=K.X o.1:=by lia
 rcases O.cross o n e B z L with j|j
 ·have a:=Dr.bM j F L h1 h2;have b:=j.1;lia
 ·have a:=Dr.bM j L F h2 h1;have b:=j.1;lia
def Dr.Cons(K:Dr)(N:Nat×Nat->Int):Prop:=∀v:Nat,
 su K.E (fun m=>if m.2=v then N m else 0)=su K.E (fun m=>if m.1=v then N m else 0)
def Dr.bl(K:Dr)(N:Nat×Nat->Int)(e:Nat×Nat)(t:Int):Int:=
 su K.E (fun m=>if K.act m t/\K.h m (2*t+1)<K.h e (2*t+1) then N m else 0)
theorem Dr.Ok.wY{K:Dr}(O:K.Ok){e f:Nat×Nat}(j:e∈K.E)(hf:f∈K.E):K.X e.1=K.X f.2↔e.1=f.2:=
 ⟨(O.inj e j f hf).2.1,fun h=>by rw[h]⟩
theorem Dr.Ok.wK{K:Dr}(O:K.Ok){e f:Nat×Nat}(j:e∈K.E)(hf:f∈K.E):K.X e.1=K.X f.1↔e.1=f.1:=
 ⟨(O.inj e j f hf).1,fun h=>by rw[h]⟩
theorem Dr.Ok.wM{K:Dr}(O:K.Ok){e f:Nat×Nat}(j:e∈K.E)(hf:f∈K.E):K.X e.2=K.X f.2↔e.2=f.2:=
 ⟨(O.inj e j f hf).2.2,fun h=>by rw[h]⟩
def Dr.lZ(K:Dr)(v:Nat):Prop:=∃m∈K.E,m.1=v\/m.2=v
theorem Dr.Ok.Dy{K:Dr}(O:K.Ok){v:Nat}(n:K.lZ v){m:Nat×Nat}(j:m∈K.E):K.X m.1=K.X v↔m.1=v:=by
 obtain⟨f,hf,rfl|rfl⟩:=n
 ·exact O.wK j hf
 ·exact O.wY j hf
theorem Dr.Ok.FO{K:Dr}(O:K.Ok){v:Nat}(n:K.lZ v){m:Nat×Nat}(j:m∈K.E):K.X m.2=K.X v↔m.2=v:=by
 obtain⟨f,hf,rfl|rfl⟩:=n
 ·have:=O.wY hf j;lia
 ·exact O.wM j hf
theorem Dr.Ok.wz{K:Dr}(O:K.Ok){N:Nat×Nat->Int}(C:K.Cons N){e:Nat×Nat}(F:e∈K.E){t:Int}
  (h1:K.act e t) (h2:K.act e (t+1)):K.bl N e t=K.bl N e (t+1):=by
 have same:∀m∈K.E,K.X m.1≠t+1->K.X m.2≠t+1->
   ((K.act m t/\K.h m (2*t+1)<K.h e (2*t+1))↔(K.act m (t+1)/\K.h m (2*(t+1)+1)<K.h e (2*(t+1)+1))):=by
  intro m j M n2;unfold Dr.act at *;by_cases ha:K.X m.1<=t/\t<K.X m.2
  ·have:=O.order j F (t:=2*t+1) (u:=2*(t+1)+1) L L L L L L L L;lia
  ·lia
 by_cases n:∃v,K.lZ v/\K.X v=t+1
 ·obtain⟨v,n,G⟩:=n;have hc:=C v;let U:Bool:=decide (2*(K.D*K.Y v)<K.h e (2*K.X v))
  have key:∀m∈K.E,(if K.act m t/\K.h m (2*t+1)<K.h e (2*t+1) then N m else 0) =
    (if K.act m (t+1)/\K.h m (2*(t+1)+1)<K.h e (2*(t+1)+1) then N m else 0)
    + (if U then 1 else 0)*((if m.2=v then N m else 0)-(if m.1=v then N m else 0)):=by
   intro m j;have hl:=O.left m j;by_cases z:m.2=v
   ·have B:m.1≠v:=by intro h;rw[h,z] at hl;lia
    have i:=O.eY (i:=m) (e:=e) j F (by rw[z];unfold Dr.act at *;lia) (by rw[z];unfold Dr.act at *;lia) (t:=2*t+1)
     (by rw[z]at hl;lia) (by unfold Dr.act at *;lia) (by rw[z];lia)
    lia
   ·by_cases B:m.1=v
    ·have i:=O.eI (o:=m) (e:=e) j F (by rw[B];unfold Dr.act at *;lia) (by rw[B];unfold Dr.act at *;lia) (t:=2*(t+1)+1)
      (by rw[B]at hl;lia) (by unfold Dr.act at *;lia) (by rw[B];lia)
     lia
    ·have I:K.X m.1≠t+1:=by rw[<-G];exact fun h=>B ((O.Dy n j).1 h)
     have J:K.X m.2≠t+1:=by rw[<-G];exact fun h=>z ((O.FO n j).1 h)
     grind
  unfold Dr.bl;rw[Qt key,ZL,XD,XC,hc];omega
 ·unfold Dr.bl;apply Qt;intro m j;have I:K.X m.1≠t+1:=fun h=>n ⟨m.1,⟨m,j,G1 Z⟩,h⟩;have J:K.X m.2≠t+1:=fun h=>n ⟨m.2,⟨m,j,UJ Z⟩,h⟩;grind
theorem Dr.Ok.ug{K:Dr}(O:K.Ok){N:Nat×Nat->Int}(C:K.Cons N){e:Nat×Nat}(n:e∈K.E){t:Int}
  (h1:K.act e t) (k:Nat) (h2:K.act e (t+k)):K.bl N e t=K.bl N e (t+k):=by
 induction k with
 |zero=>simp
 | succ k z=>
  have j:K.act e (t+k):=by unfold Dr.act at *;lia
  rw[z j];have:=O.wz C n j (by unfold Dr.act at *;lia);rw[this];congr 1;lia
theorem Dr.Ok.cY{K:Dr}(O:K.Ok){N:Nat×Nat->Int}(C:K.Cons N){e:Nat×Nat}(j:e∈K.E){t u:Int}
  (h1:K.act e t) (h2:K.act e u):K.bl N e t=K.bl N e u:=by
 rcases Qbd t u with h|h
 ·have:=O.ug C j h1 (u-t).toNat (by rw[Int.toNat_of_nonneg L];rwa [show t+(u-t)=u by lia]);grind
 ·have:=O.ug C j h2 (t-u).toNat (by rw[Int.toNat_of_nonneg L];rwa [show u+(t-u)=t by lia]);grind
def Dr.base(K:Dr)(N:Nat×Nat->Int)(v:Nat):Int:=
 su K.E (fun m=>if K.X m.1<K.X v/\K.X v<K.X m.2/\K.h m (2*K.X v)<2*(K.D*K.Y v) then N m else 0)
theorem Dr.dA{K:Dr}(O:K.Ok){e:Nat×Nat}(j:e∈K.E)(k:Int):K.h e (2*K.X e.2-k)=2*(K.D*K.Y e.2)-K.s e*k:=by have:=O.slope e j;unfold Dr.h;grind
theorem Dr.dB(K:Dr)(e:Nat×Nat)(k:Int):K.h e (2*K.X e.1+k)=2*(K.D*K.Y e.1)+K.s e*k:=by unfold Dr.h;grind
theorem Dr.Ok.wR{K:Dr}(O:K.Ok)(N:Nat×Nat->Int){i:Nat×Nat}(hi:i∈K.E) :
  K.bl N i (K.X i.2-1)=K.base N i.2+su K.E (fun m=>if m.2=i.2/\K.s i<K.s m then N m else 0):=by
 unfold Dr.bl Dr.base;rw[<-ZL];apply Qt;intro m j;have hl:=O.left m j;have n:=O.left i hi;have z:=Dr.dA O hi 1;by_cases q:m.2=i.2
 ·have B:=Dr.dA O j 1;lia
 ·have F:K.X m.2≠K.X i.2:=fun h=>q ((O.wM j hi).1 h);rw[Wh (c:=m.2=i.2/\K.s i<K.s m) (by simp[q])];by_cases a:K.X m.1<K.X i.2/\K.X i.2<K.X m.2
  ·have G:=O.eY (i:=i) (e:=m) hi j a.1 a.2 (t:=2*(K.X i.2-1)+1) L L L;have cl:=(O.clear m j i hi).2 a.1 a.2;have I:=O.distinct hi j (by intro h;subst h;exact q Z) (t:=2*(K.X i.2-1)+1) L L L L;lia
  lia
theorem Dr.Ok.uq{K:Dr}(O:K.Ok)(N:Nat×Nat->Int){o:Nat×Nat}(j:o∈K.E) :
  K.bl N o (K.X o.1)=K.base N o.1+su K.E (fun m=>if m.1=o.1/\K.s m<K.s o then N m else 0):=by
 unfold Dr.bl Dr.base;rw[<-ZL];apply Qt;intro m n;have hl:=O.left m n;have z:=O.left o j;have B:=Dr.dB K o 1;by_cases q:m.1=o.1
 ·have F:=Dr.dB K m 1;lia
 ·have G:K.X m.1≠K.X o.1:=fun h=>q ((O.wK n j).1 h);rw[Wh (c:=m.1=o.1/\K.s m<K.s o) (by simp[q])];by_cases a:K.X m.1<K.X o.1/\K.X o.1<K.X m.2
  ·have I:=O.eI (o:=o) (e:=m) j n a.1 a.2 (t:=2*K.X o.1+1) L L L;have cl:=(O.clear m n o j).1 a.1 a.2;have J:=O.distinct j n (by intro h;subst h;exact q Z) (t:=2*K.X o.1+1) L L L L;lia
  lia
def Dr.aZ(K:Dr)(d:Nat×Nat):Prop:=d∈K.E\/(d.2,d.1)∈K.E
def Dr.ln(K:Dr)(d:Nat×Nat):Nat×Nat:=if K.X d.1<K.X d.2 then d else(d.2,d.1)
def Dr.Wd(K:Dr)(N:Nat×Nat->Int)(d:Nat×Nat):Int:=
 if K.X d.1<K.X d.2 then K.bl N d (K.X d.1)+N d else K.bl N (d.2,d.1) (K.X d.2)
def Dr.fl(K:Dr)(N:Nat×Nat->Int)(d:Nat×Nat):Int:=
 if K.X d.1<K.X d.2 then N d else-N (d.2,d.1)
theorem Dr.Ok.cH{K:Dr}(O:K.Ok){d:Nat×Nat}(h:K.aZ d):(K.X d.1<K.X d.2/\d∈K.E)\/(K.X d.2<K.X d.1/\(d.2,d.1)∈K.E):=by
 rcases h with h|h
 ·exact G1 ⟨O.left d h,h⟩
 ·exact UJ ⟨O.left _ h,h⟩
theorem Dr.aZ.rev{K:Dr}{d:Nat×Nat}(h:K.aZ d):K.aZ (d.2,d.1):=h.symm
theorem Dr.Ok.W1{K:Dr}(O:K.Ok)(N:Nat×Nat->Int){d:Nat×Nat}(h:K.aZ d) :
  K.Wd N d-K.Wd N (d.2,d.1)=K.fl N d:=by
 unfold Dr.Wd Dr.fl;rcases O.cH h with⟨a,_⟩|⟨a,_⟩;all_goals lia
theorem Dr.Ok.gE{K:Dr}(O:K.Ok){e f:Nat×Nat}(j:e∈K.E)(hf:f∈K.E)(h:e.2=f.2)(z:K.s e=K.s f):e=f:=by apply xH;intro n;have h1:=Dr.dA O j 1;have h2:=Dr.dA O hf 1;have B:=O.left e j;have F:=O.left f hf;rw[h]at h1 B;exact O.distinct j hf n (t:=2*K.X f.2-1) L L (by rw[h];lia) L (by rw[h1,h2,z])
theorem Dr.Ok.eK{K:Dr}(O:K.Ok){e f:Nat×Nat}(n:e∈K.E)(hf:f∈K.E)(h:e.1=f.1)(z:K.s e=K.s f):e=f:=by apply xH;intro j;have h1:=Dr.dB K e 1;have h2:=Dr.dB K f 1;have B:=O.left e n;have F:=O.left f hf;rw[h]at h1 B;exact O.distinct n hf j (t:=2*K.X f.1+1) (by rw[h];lia) L L L (by rw[h1,h2,z])
theorem Dr.Ok.pQ{K:Dr}(O:K.Ok){N:Nat×Nat->Int}(C:K.Cons N){u v:Nat} (h:(u,v)∈K.E) :
  K.Wd N (u,v)=K.base N v+su K.E (fun m=>if m.2=v/\K.s (u,v)<=K.s m then N m else 0):=by
 have hl:=O.left _ h;unfold Dr.Wd;rw[Wi hl,O.cY C h (t:=K.X (u,v).1) (u:=K.X (u,v).2-1) (by constructor<;>lia) (by constructor<;>lia),O.wR N h];show K.base N v+su K.E _+N (u,v)=_
 have:su K.E (fun m=>if m.2=v/\K.s (u,v)<=K.s m then N m else 0) =
   su K.E (fun m=>if m.2=v/\K.s (u,v)<K.s m then N m else 0)+N (u,v):=by
  rw[<-ZT O.nodup h N,<-ZL];apply Qt;intro m j;by_cases q:m=(u,v)
  ·subst q;simp
  ·rw[Wh q];by_cases c:m.2=v
   ·have:K.s (u,v)≠K.s m:=fun n=>q (O.gE j h c n.symm);lia
   ·simp[c]
 lia
theorem Dr.Ok.om{K:Dr}(O:K.Ok)(N:Nat×Nat->Int){u v:Nat} (h:(v,u)∈K.E) :
  K.Wd N (u,v)=K.base N v+su K.E (fun m=>if m.1=v/\K.s m<K.s (v,u) then N m else 0):=by
 have hl:=O.left _ h;unfold Dr.Wd;rw[Wh (by show ¬K.X u<K.X v;have:K.X v<K.X u:=hl;lia)];exact O.uq N h
theorem Dr.Ok.fS{K:Dr}(O:K.Ok)(N:Nat×Nat->Int){v b:Nat} (h:(v,b)∈K.E) :
  K.Wd N (v,b)=K.base N v+su K.E (fun m=>if m.1=v/\K.s m<=K.s (v,b) then N m else 0):=by
 have hl:=O.left _ h;unfold Dr.Wd;rw[Wi hl,O.uq N h];show K.base N v+su K.E (fun m=>if m.1=v/\K.s m<K.s (v,b) then N m else 0)+N (v,b)=_
 have:su K.E (fun m=>if m.1=v/\K.s m<=K.s (v,b) then N m else 0) =
   su K.E (fun m=>if m.1=v/\K.s m<K.s (v,b) then N m else 0)+N (v,b):=by
  rw[<-ZT O.nodup h N,<-ZL];apply Qt;intro m j;by_cases q:m=(v,b)
  ·subst q;simp
  ·rw[Wh q];by_cases c:m.1=v
   ·have:K.s m≠K.s (v,b):=fun n=>q (O.eK j h c n);lia
   ·simp[c]
 lia
theorem Dr.Ok.mi{K:Dr}(O:K.Ok){N:Nat×Nat->Int}(C:K.Cons N){v b:Nat} (h:(b,v)∈K.E) :
  K.Wd N (v,b)=K.base N v+su K.E (fun m=>if m.2=v/\K.s (b,v)<K.s m then N m else 0):=by
 have hl:K.X b<K.X v:=O.left _ h;unfold Dr.Wd;rw[Wh (by show ¬K.X v<K.X b;lia)];show K.bl N (b,v) (K.X b)=_;rw[O.cY C h (t:=K.X b) (u:=K.X (b,v).2-1) (by constructor<;>(try show K.X b<=K.X b)<;>(try exact hl)<;>lia) (by constructor<;>(try show K.X b<=K.X v-1)<;>(try show K.X v-1<K.X v)<;>lia),O.wR N h]
def cr(a b:Bool×Int):Int:=if a.1=b.1 then b.2-a.2 else a.2-b.2
def hf(r d:Bool×Int):Int:=if cr r d<0 then 0 else if 0<cr r d then 2 else if r.1=d.1 then 3 else 1
def sn(r a b:Bool×Int):Prop:=hf r a<hf r b\/(hf r a=hf r b/\cr a b<0)
def Dr.ky(K:Dr)(v c:Nat):Bool×Int:=(decide (K.X v<K.X c),K.s (K.ln (v,c)))
def Dr.dQ(K:Dr)(u v b:Nat):Prop:=K.aZ (v,b)/\∀c,K.aZ (v,c)->¬sn (K.ky v u) (K.ky v c) (K.ky v b)
theorem Dr.Ok.cn{K:Dr}(O:K.Ok){v c:Nat} (h:(v,c)∈K.E):K.ky v c=(true,K.s (v,c)):=by have hl:K.X v<K.X c:=O.left _ h;unfold Dr.ky Dr.ln;simp[hl]
theorem Dr.Ok.cF{K:Dr}(O:K.Ok){v c:Nat} (h:(c,v)∈K.E):K.ky v c=(false,K.s (c,v)):=by have hl:K.X c<K.X v:=O.left _ h;unfold Dr.ky Dr.ln;lia
theorem k1{x y z:Int} (h:¬sn (false,x) (false,y) (true,z)):x<=y:=by simp only[sn,hf,cr]at h;lia
theorem k2{x y z:Int} (h:¬sn (false,x) (true,y) (true,z)):y<=z:=by simp only[sn,hf,cr]at h;lia
theorem k3{x y z:Int} (h:¬sn (false,x) (false,y) (false,z)) (hz:z<x):(x<=y↔z<y):=by simp only[sn,hf,cr]at h;lia
theorem k4{x y z:Int} (h:¬sn (false,x) (false,y) (false,z)) (hz:x<=z):x<=y/\y<=z:=by simp only[sn,hf,cr]at h;lia
theorem k5{x y z:Int} (h:¬sn (false,x) (true,y) (false,z)) (hz:x<=z):False:=by simp only[sn,hf,cr]at h;lia
theorem k6{x y z:Int} (h:¬sn (true,x) (true,y) (true,z)) (hz:z<x):(y<x↔y<=z):=by simp only[sn,hf,cr]at h;lia
theorem k7{x y z:Int} (h:¬sn (true,x) (true,y) (true,z)) (hz:x<=z):x<=y/\y<=z:=by simp only[sn,hf,cr]at h;lia
theorem k8{x y z:Int} (h:¬sn (true,x) (false,y) (true,z)) (hz:x<=z):False:=by simp only[sn,hf,cr]at h;lia
theorem k9{x y z:Int} (h:¬sn (true,x) (true,y) (false,z)):x<=y:=by simp only[sn,hf,cr]at h;lia
theorem C5{x y z:Int} (h:¬sn (true,x) (false,y) (false,z)):y<=z:=by simp only[sn,hf,cr]at h;simp at h;split at h<;>(try split at h)<;>(try split at h)<;>(try split at h)<;>(try split at h)<;>lia
theorem Dr.Ok.W2{K:Dr}(O:K.Ok){N:Nat×Nat->Int}(C:K.Cons N){u v b:Nat} (h:K.aZ (u,v)) (hb:K.dQ u v b) :
  K.Wd N (u,v)=K.Wd N (v,b):=by
 obtain⟨hd,hn⟩:=hb
 have n:∀m∈K.E,m.2=v->¬sn (K.ky v u) (false,K.s m) (K.ky v b):=by
  intro m j e;have:(m.1,v)∈K.E:=by rw[<-e];exact j
  have k:=hn m.1 (UJ this);rw[O.cF this]at k;lia
 have out:∀m∈K.E,m.1=v->¬sn (K.ky v u) (true,K.s m) (K.ky v b):=by
  intro m j e;have:(v,m.2)∈K.E:=by rw[<-e];exact j
  have k:=hn m.2 (G1 this);rw[O.cn this]at k;lia
 have hc:=C v
 have G:∀(p:Nat×Nat->Prop) [DecidablePred p],(∀m∈K.E,m.2=v->p m)->
   su K.E (fun m=>if m.2=v/\p m then N m else 0)=su K.E (fun m=>if m.2=v then N m else 0):=by
  intro p _ J;apply Qt;intro m j;by_cases q:m.2=v
  ·grind
  ·simp[q]
 have I:∀(p:Nat×Nat->Prop) [DecidablePred p],(∀m∈K.E,m.1=v->p m)->
   su K.E (fun m=>if m.1=v/\p m then N m else 0)=su K.E (fun m=>if m.1=v then N m else 0):=by
  intro p _ J;apply Qt;intro m j;by_cases q:m.1=v
  ·grind
  ·simp[q]
 have B:∀(p:Nat×Nat->Prop) [DecidablePred p],(∀m∈K.E,m.2=v->¬p m)->
   su K.E (fun m=>if m.2=v/\p m then N m else 0)=0:=by
  intro p _ J;apply Q1;intro m j;rw[Wh (fun h=>J m j h.1 h.2)]
 have F:∀(p:Nat×Nat->Prop) [DecidablePred p],(∀m∈K.E,m.1=v->¬p m)->
   su K.E (fun m=>if m.1=v/\p m then N m else 0)=0:=by
  intro p _ J;apply Q1;intro m j;rw[Wh (fun h=>J m j h.1 h.2)]
 have M:∀(p q:Nat×Nat->Prop) [DecidablePred p] [DecidablePred q],(∀m∈K.E,m.2=v->(p m↔q m))->
   su K.E (fun m=>if m.2=v/\p m then N m else 0)=su K.E (fun m=>if m.2=v/\q m then N m else 0):=by
  intro p q _ _ J;apply Qt;intro m j;by_cases c:m.2=v
  ·grind
  ·simp[c]
 have U:∀(p q:Nat×Nat->Prop) [DecidablePred p] [DecidablePred q],(∀m∈K.E,m.1=v->(p m↔q m))->
   su K.E (fun m=>if m.1=v/\p m then N m else 0)=su K.E (fun m=>if m.1=v/\q m then N m else 0):=by
  intro p q _ _ J;apply Qt;intro m j;by_cases c:m.1=v
  ·grind
  ·simp[c]
 rcases h with h|h
 ·rw[O.cF h] at n out;rw[O.pQ C h];rcases hd with hd | hd
  ·rw[O.cn hd] at n out
   rw[O.fS N hd,G (fun m=>K.s (u,v)<=K.s m) (fun m j q=>k1 (n m j q)),
    I (fun m=>K.s m<=K.s (v,b)) (fun m j q=>k2 (out m j q)),hc]
  ·have hd:(b,v)∈K.E:=hd;rw[O.cF hd] at n out;rw[O.mi C hd];by_cases z:K.s (b,v)<K.s (u,v)
   ·rw[M (fun m=>K.s (u,v)<=K.s m) (fun m=>K.s (b,v)<K.s m) (fun m j q=>k3 (n m j q) z)]
   ·have z:K.s (u,v)<=K.s (b,v):=by lia
    rw[G (fun m=>K.s (u,v)<=K.s m) (fun m j q=>(k4 (n m j q) z).1),
     B (fun m=>K.s (b,v)<K.s m) (fun m j q=>by have:=(k4 (n m j q) z).2;lia),hc]
    congr 1;apply Q1;intro m j;by_cases q:m.1=v
    ·exact(k5 (out m j q) z).elim
    ·simp[q]
 ·have h:(v,u)∈K.E:=h;rw[O.cn h] at n out;rw[O.om N h];rcases hd with hd | hd
  ·rw[O.cn hd] at n out;rw[O.fS N hd];by_cases z:K.s (v,b)<K.s (v,u)
   ·rw[U (fun m=>K.s m<K.s (v,u)) (fun m=>K.s m<=K.s (v,b)) (fun m j q=>k6 (out m j q) z)]
   ·have z:K.s (v,u)<=K.s (v,b):=by lia
    rw[I (fun m=>K.s m<=K.s (v,b)) (fun m j q=>(k7 (out m j q) z).2),
     F (fun m=>K.s m<K.s (v,u)) (fun m j q=>by have:=(k7 (out m j q) z).1;lia),<-hc]
    congr 1;symm;apply Q1;intro m j;by_cases q:m.2=v
    ·exact(k8 (n m j q) z).elim
    ·simp[q]
  ·have hd:(b,v)∈K.E:=hd;rw[O.cF hd] at n out
   rw[O.mi C hd,F (fun m=>K.s m<K.s (v,u)) (fun m j q=>by have:=k9 (out m j q);lia),
    B (fun m=>K.s (b,v)<K.s m) (fun m j q=>by have:=C5 (n m j q);lia)]
theorem sO(a b:Bool)(x y:Int):cr (a,x) (b,y)=if a=b then y-x else x-y:=rfl
theorem kY(r d:Bool×Int):(cr r d<0/\hf r d=0)\/(0<cr r d/\hf r d=2)\/(cr r d=0/\r.1=d.1/\hf r d=3)\/(cr r d=0/\r.1≠d.1/\hf r d=1):=by unfold hf;lia
def kk(M:Int)(a:Bool×Int):Int:=if a.1=true then a.2 else M+a.2
def Bd(M:Int)(a:Bool×Int):Prop:=-M<2*a.2/\2*a.2<M
theorem Jz{M N:Int}{a:Bool×Int}(h:Bd M a)(l:M<=N):Bd N a:=⟨by have:=h.1;lia,by have:=h.2;lia⟩
theorem pN(x:Bool×Int):∃M,0<=M/\Bd M x:=by refine⟨if 0<=x.2 then 2*x.2+1 else 1-2*x.2,?_⟩;unfold Bd;split<;>lia
theorem rE {P Q:(Bool×Int)}:∃M,0<=M/\Bd M P/\Bd M Q:=by obtain⟨m,z,p⟩:=pN P;obtain⟨n,y,q⟩:=pN Q;exact⟨m+n,by lia,Jz p L,Jz q L⟩
theorem gX(a b c d:Bool×Int):∃M,Bd M a/\Bd M b/\Bd M c/\Bd M d:=by obtain⟨m,z,p,q⟩:=@rE a b;obtain⟨n,y,r,s⟩:=@rE c d;exact⟨m+n,Jz p L,Jz q L,Jz r L,Jz s L⟩
theorem iJ{M:Int}{a b:Bool×Int}(j:Bd M a)(n:Bd M b)(h:kk M a=kk M b):a=b:=by obtain⟨f,x⟩:=a;obtain⟨g,y⟩:=b;unfold Bd at *;cases f<;>cases g<;>simp[kk]at *<;>lia
theorem iE{M:Int}{a b:Bool×Int}(j:Bd M a)(n:Bd M b):(cr a b<0↔if kk M b<kk M a then kk M a<kk M b+M else kk M a+M<kk M b):=by obtain⟨f,x⟩:=a;obtain⟨g,y⟩:=b;obtain⟨h1,h2⟩:=j;obtain⟨z,B⟩:=n;cases f<;>cases g<;>simp[kk,sO]at *<;>lia
theorem FL(a b:Bool×Int):cr b a = - cr a b:=by unfold cr;lia
theorem vU{M:Int}{a b:Bool×Int}(j:Bd M a)(n:Bd M b)(h:cr a b=0):(a.1=b.1↔kk M a=kk M b):=by obtain⟨f,x⟩:=a;obtain⟨g,y⟩:=b;obtain⟨h1,h2⟩:=j;obtain⟨z,B⟩:=n;cases f<;>cases g<;>simp[kk,sO]at *<;>lia
theorem tw{M:Int}{r d:Bool×Int}(hr:Bd M r)(hd:Bd M d) :
  hf r d=(if kk M d<kk M r then(if kk M r<kk M d+M then 0 else if kk M d+M<kk M r then 2 else 1) else if kk M d=kk M r then 3 else if kk M r+M<kk M d then 0 else if kk M d<kk M r+M then 2 else 1):=by
 have n:=iE hr hd;have j:=iE hd hr;have z:=vU hr hd;rw[FL r d]at j;unfold hf;lia
theorem pC{M:Int}{a:Bool×Int}(j:Bd M a) : -M<2*kk M a/\2*kk M a<3*M:=by obtain⟨h1,h2⟩:=j;unfold kk;split<;>lia
theorem Xh{M:Int}{r a b:Bool×Int}(hr:Bd M r)(j:Bd M a)(n:Bd M b) :
  sn r a b↔(kk M a<kk M r/\kk M r<=kk M b)\/((kk M a<kk M r↔kk M b<kk M r)/\kk M b<kk M a):=by
 unfold sn;rw[iE j n,tw hr j,tw hr n];have z:=pC hr;have B:=pC j;have F:=pC n;grind
theorem Ce{a b c x:Bool×Int}(h1:¬sn a c b)(h2:¬sn a x b)(z:b≠c)(G:sn b x c):sn a x c:=by obtain⟨M,B,j,n,F⟩:=gX a b c x;rw[Xh B n j]at h1;rw[Xh B F j]at h2;rw[Xh j F n]at G;rw[Xh B F n];have I:=fun e=>z (iJ j n e);lia
theorem fb{r a b c:Bool×Int}(h1:sn r a b)(h2:sn r b c):sn r a c:=by obtain⟨M,j,n,z,B⟩:=gX r a b c;rw[Xh j n z]at h1;rw[Xh j z B]at h2;rw[Xh j n B];lia
theorem AG{x y z:Bool×Int}(h1:¬sn x y z)(h2:¬sn y x z):x=y:=by obtain⟨M,j,b,n,_⟩:=gX x y z z;rw[Xh j b n]at h1;rw[Xh b j n]at h2;refine iJ j b ?_;lia
theorem kW{a b c:Bool×Int}(h1:¬sn a c b)(j:b≠c):sn a b c:=by obtain⟨M,B,n,z,_⟩:=gX a b c c;rw[Xh B z n]at h1;rw[Xh B n z];have F:=fun e=>j (iJ n z e);lia
theorem mx{b c:Bool×Int}:¬sn b b c:=by obtain⟨M,j,n,_⟩:=gX b c c c;rw[Xh j j n];lia
structure Dr.dU(K:Dr)(nx:Nat×Nat->Nat×Nat):Prop where
 fst:∀d,K.aZ d->(nx d).1=d.2
 next:∀d,K.aZ d->K.dQ d.1 d.2 (nx d).2
theorem Dr.dU.dG{K:Dr}{nx:Nat×Nat->Nat×Nat}(R:K.dU nx){d:Nat×Nat}(h:K.aZ d):K.aZ (nx d):=by have:=(R.next d h).1;rw[<-R.fst d h]at this;exact this
theorem Dr.Ok.dM{K:Dr}(O:K.Ok){v a b:Nat} (j:K.aZ (v,a)) (n:K.aZ (v,b)) (h:K.ky v a=K.ky v b):a=b:=by
 rcases j with j|j<;>rcases n with n|n
 ·rw[O.cn j,O.cn n]at h;have:=O.eK j n Z (by simpa using h);lia
 ·have n:(b,v)∈K.E:=n;rw[O.cn j,O.cF n]at h;simp at h
 ·have j:(a,v)∈K.E:=j;rw[O.cF j,O.cn n]at h;simp at h
 ·have j:(a,v)∈K.E:=j;have n:(b,v)∈K.E:=n;rw[O.cF j,O.cF n]at h;have:=O.gE j n Z (by simpa using h);lia
theorem Dr.Ok.kH{K:Dr}(O:K.Ok){nx:Nat×Nat->Nat×Nat}(R:K.dU nx){d e:Nat×Nat}(hd:K.aZ d)(j:K.aZ e)(h:nx d=nx e):d=e:=by
 have h2:d.2=e.2:=by rw[<-R.fst d hd,<-R.fst e j,h]
 have n:=R.next d hd;have F:=R.next e j;rw[h2,h]at n;have z:K.aZ (e.2,d.1):=by rw[<-h2];exact hd.rev
 have B:K.aZ (e.2,e.1):=j.rev;have:=AG (n.2 _ B) (F.2 _ z);have:=O.dM z B this;lia
def Dr.nb(K:Dr)(v:Nat):List Nat:=(K.E.filter (fun m=>m.1=v)).map (·.2)++(K.E.filter (fun m=>m.2=v)).map (·.1)
theorem Dr.kd{K:Dr}{v c:Nat}:c∈K.nb v↔K.aZ (v,c):=by unfold Dr.nb Dr.aZ;simp only[List.mem_append,List.mem_map,VE,Wp];grind
open Classical in
theorem Dr.Ok.sH{K:Dr}(O:K.Ok){nx:Nat×Nat->Nat×Nat}(R:K.dU nx)(v:Nat)(P:Nat->Prop)
  (hP:∀a,K.aZ (v,a)->P a->P (nx (a,v)).2) {c:Nat} (hc:K.aZ (v,c)) :
  ∀(n:Nat)(a:Nat),K.aZ (v,a)->P a->((K.nb v).filter (fun x=>decide (sn (K.ky v a) (K.ky v x) (K.ky v c)))).length<=n->P c:=by
 intro n;induction n with
 | zero=>
  intro a M I hn;apply xH;intro U;have hb:=hP a M I;have j:=R.next (a,v) M.rev;have J:(nx (a,v)).2≠c:=by intro e;rw[e]at hb;exact U hb
  have t:=kW (j.2 c hc) (fun e=>J (O.dM j.1 hc e))
  have:(nx (a,v)).2∈(K.nb v).filter (fun x=>decide (sn (K.ky v a) (K.ky v x) (K.ky v c))):=by rw[VE];exact⟨Dr.kd.2 j.1,by simpa using t⟩
  have:0<((K.nb v).filter (fun x=>decide (sn (K.ky v a) (K.ky v x) (K.ky v c)))).length:=Vi this;lia
 | succ n ih=>
  intro a M I hn;have hb:=hP a M I;have j:=R.next (a,v) M.rev;by_cases J:(nx (a,v)).2=c
  ·lia
  ·have F:K.ky v (nx (a,v)).2≠K.ky v c:=fun e=>J (O.dM j.1 hc e);have t:=kW (j.2 c hc) F;apply ih (nx (a,v)).2 j.1 hb
   have ac:((K.nb v).filter (fun x=>decide (sn (K.ky v (nx (a,v)).2) (K.ky v x) (K.ky v c)))).length
     < ((K.nb v).filter (fun x=>decide (sn (K.ky v a) (K.ky v x) (K.ky v c)))).length:=by
    have G:∀x∈K.nb v,sn (K.ky v (nx (a,v)).2) (K.ky v x) (K.ky v c)->sn (K.ky v a) (K.ky v x) (K.ky v c):=by intro x hx h3;exact Ce (j.2 c hc) (j.2 x (Dr.kd.1 hx)) F h3
    have B:=Dr.kd.2 j.1;show _<_;generalize K.nb v=l at *;clear ih hn;induction l with
    |nil=>simp at B
    | cons y l ab=>
     have step:∀x∈l,sn (K.ky v (nx (a,v)).2) (K.ky v x) (K.ky v c)->sn (K.ky v a) (K.ky v x) (K.ky v c):=
      fun x hx=>G x (xR _ hx)
     have le:((l.filter (fun x=>decide (sn (K.ky v (nx (a,v)).2) (K.ky v x) (K.ky v c)))).length
       <= (l.filter (fun x=>decide (sn (K.ky v a) (K.ky v x) (K.ky v c)))).length):=by
      clear ab G B;induction l with
      |nil=>simp
      | cons z l aa=>
       have:=aa (fun x hx=>step x (xR _ hx));have hz:=step z We;by_cases q1:sn (K.ky v (nx (a,v)).2) (K.ky v z) (K.ky v c)
       ·grind
       ·grind
     rcases List.mem_cons.1 B with e|B
     ·subst e;rw[Qa2 (by simpa using mx),VH (by simpa using t)];grind
     ·grind
   lia
theorem Dr.Ok.turn{K:Dr}(O:K.Ok){nx:Nat×Nat->Nat×Nat}(R:K.dU nx)(v:Nat)(P:Nat->Prop)
  (j:∀a,K.aZ (v,a)->P a->P (nx (a,v)).2) {a c:Nat} (n:K.aZ (v,a)) (hc:K.aZ (v,c)) (h:P a):P c:=
 O.sH R v P j hc _ a n h (xM _)
abbrev Dt:=Nat×Nat
variable {S:Plan} {K:Dr} {nx:Dt->Dt} {d:Dt} {α:Type} {k:Nat}
def it(nx:Dt->Dt):Nat->Dt->Dt
 |0,d=>d
 |k+1,d=>nx (it nx k d)
theorem Yx(nx:Dt->Dt)(k:Nat)(d:Dt):it nx (k+1) d=nx (it nx k d):=rfl
theorem Z7(nx:Dt->Dt)(j k:Nat)(d:Dt):it nx (j+k) d=it nx j (it nx k d):=by
 induction j with
 |zero=>simp[it]
 |succ j n=>rw[Nat.succ_add,Yx,Yx,n]
theorem Dr.dU.bD(R:K.dU nx)(h:K.aZ d)(k:Nat):K.aZ (it nx k d):=by
 induction k with
 |zero=>exact h
 |succ k j=>exact R.dG j
theorem Dr.Ok.kI(O:K.Ok)(R:K.dU nx){d e:Dt}(hd:K.aZ d)(j:K.aZ e)(k:Nat)(h:it nx k d=it nx k e):d=e:=by
 induction k with
 |zero=>exact h
 |succ k n=>exact n (O.kH R (R.bD hd k) (R.bD j k) h)
def wk(nx:Dt->Dt)(d:Dt)(k:Nat):List Dt:=(xN k).map (fun j=>it nx j d)
theorem Zv{d x:Dt}:x∈wk nx d k↔∃j,j<k/\it nx j d=x:=by simp[wk]
theorem bc(nx:Dt->Dt)(d:Dt)(k:Nat):(wk nx d k).length=k:=by simp[wk]
theorem lT(nx:Dt->Dt)(d:Dt)(k:Nat):wk nx d (k+1)=wk nx d k++[it nx k d]:=by simp[wk,UY]
theorem least{P:Nat->Prop}(h:∃n,P n):∃n,P n/\∀m,m<n->¬P m:=by
 apply xH;intro hc;obtain⟨n,B⟩:=h
 have:∀n,¬P n:=by
  intro n;induction n using Nat.strongRecOn with
  |ind n j=>exact fun z=>hc ⟨n,z,j⟩
 grind
theorem bN [DecidableEq α]:∀{l m:List α},l.Nodup->(∀x∈l,x∈m)->l.length<=m.length
 |[],m,_,_=>by simp
 | a::l,m,hn,hs=>by
  have j:=hs a We;rw[UZ]at hn
  have:=bN (l:=l) (m:=m.erase a) hn.2 (fun x n=>by
   grind)
  rw[Ue j]at this;have:=Vi j;simp only[xO];lia
def Dr.d7(K:Dr):List Dt:=K.E++K.E.map (fun m=>(m.2,m.1))
theorem Dr.dN:d∈K.d7↔K.aZ d:=by unfold Dr.d7 Dr.aZ;grind
theorem Dr.cU(K:Dr):K.d7.length=2*K.E.length:=by simp[Dr.d7];lia
structure eB(nx:Dt->Dt)(d:Dt)(k:Nat):Prop where
 pos:0<k
 back:it nx k d=d
 first:∀j,0<j->j<k->it nx j d≠d
theorem zb{f:Nat->α}(h:∀i j,i<j->j<k->f i≠f j):((xN k).map f).Nodup:=by
 unfold List.Nodup;rw[List.pairwise_map]
 have:(xN k).Pairwise (fun a b=>a<b/\b<k):=by rw[UV];grind
 exact this.imp (fun {a b} n=>h a b n.1 n.2)
theorem Dr.Ok.cI(O:K.Ok)(R:K.dU nx)(hd:K.aZ d)(h:∀j,0<j->j<k->it nx j d≠d):(wk nx d k).Nodup:=by
 apply zb;intro i j n B e
 have z:it nx i d=it nx i (it nx (j-i) d):=by rw[<-Z7,show i+(j-i)=j by lia];exact e
 have:=O.kI R hd (R.bD hd _) i z;grind
theorem Dr.Ok.CM(O:K.Ok)(R:K.dU nx)(hd:K.aZ d):∃k,eB nx d k/\k<=2*K.E.length:=by
 have ex:∃k,0<k/\it nx k d=d:=by
  apply xH;intro hc;have n:(wk nx d (2*K.E.length+1)).Nodup:=O.cI R hd (fun j h0 _ e=>hc ⟨j,h0,e⟩)
  have:=bN (m:=K.d7) n (fun x z=>by
   obtain⟨j,_,rfl⟩:=Zv.1 z;exact Dr.dN.2 (R.bD hd j))
  rw[bc,Dr.cU]at this;lia
 obtain⟨k,⟨h0,h1⟩,h2⟩:=least ex;have hf:∀j,0<j->j<k->it nx j d≠d:=fun j F B e=>h2 j B ⟨F,e⟩;refine⟨k,⟨h0,h1,hf⟩,?_⟩;have n:(wk nx d k).Nodup:=O.cI R hd hf
 have:=bN (m:=K.d7) n (fun x z=>by
  obtain⟨j,_,rfl⟩:=Zv.1 z;exact Dr.dN.2 (R.bD hd j))
 rw[bc,Dr.cU]at this;exact this
theorem eB.nodup(O:K.Ok)(R:K.dU nx)(hd:K.aZ d)(p:eB nx d k):(wk nx d k).Nodup:=
 O.cI R hd p.first
theorem BP(h:it nx k d=d)(n:Nat):it nx (k*n) d=d:=by
 induction n with
 |zero=>rfl
 |succ n j=>rw[Qbc,Z7,h,j]
theorem eB.mod(p:eB nx d k)(n:Nat):it nx n d=it nx (n%k) d:=by
 have h:=Nat.div_add_mod n k;have:it nx n d=it nx (n%k+k*(n/k)) d:=by rw[Vj,h]
 rw[this,Z7,BP p.back]
theorem eB.mem{d x:Dt}(p:eB nx d k):x∈wk nx d k↔∃j,it nx j d=x:=by
 rw[Zv];constructor
 ·grind
 ·rintro⟨j,h⟩;exact⟨j%k,Nat.mod_lt _ p.pos,by rw[<-p.mod];exact h⟩
theorem eB.Bq(O:K.Ok)(R:K.dU nx){d x:Dt}(hd:K.aZ d)(n:K.aZ x)(p:eB nx d k) :
  nx x∈wk nx d k↔x∈wk nx d k:=by
 rw[p.mem,p.mem];constructor
 ·rintro⟨j,h⟩;have:it nx (j+k) d=nx x:=by rw[Z7,p.back,h]
  rw[show j+k=(j+k-1)+1 by have:=p.pos;lia,Yx]at this;exact⟨_,O.kH R (R.bD hd _) n this⟩
 ·rintro⟨j,h⟩;exact⟨j+1,by rw[Yx,h]⟩
def Q7(C:List Dt)(e:Dt):Int:=(if e∈C then 1 else 0)-(if(e.2,e.1)∈C then 1 else 0)
theorem Dr.Ok.fG(O:K.Ok)(h1:d∈K.E) (h2:(d.2,d.1)∈K.E):False:=by have a:=O.left _ h1;have b:=O.left _ h2;lia
theorem Dr.Ok.dH(O:K.Ok){C:List Dt}(n:C.Nodup)(z:∀d∈C,K.aZ d)(f:Dt->Int) :
  su C f=su K.E (fun m=>(if m∈C then f m else 0)+(if(m.2,m.1)∈C then f (m.2,m.1) else 0)):=by
 rw[ZL]
 have B:∀m∈K.E,(if m∈C then f m else 0)=su C (fun d=>if d=m then f d else 0):=by
  intro m _;by_cases h:m∈C
  ·rw[Wi h,ZT n h]
  ·rw[Wh h,mK h]
 have F:∀m∈K.E,(if(m.2,m.1)∈C then f (m.2,m.1) else 0)=su C (fun d=>if d=(m.2,m.1) then f d else 0):=by
  intro m _;by_cases h:(m.2,m.1)∈C
  ·rw[Wi h,ZT n h]
  ·rw[Wh h,mK h]
 rw[Qt B,Qt F,XV,XV (l:=K.E),<-ZL];apply Qt;intro d hd;rcases z d hd with h|h
 ·have a:su K.E (fun m=>if d=m then f d else 0)=f d:=by
   refine(Qt ?_).trans (ZT O.nodup h (fun _=>f d));intro m _;by_cases q:d=m
   ·simp[q]
   ·lia
  have b:su K.E (fun m=>if d=(m.2,m.1) then f d else 0)=0:=by apply Q1;intro m j;apply Wh;intro e;apply O.fG h;lia
  lia
 ·have a:su K.E (fun m=>if d=m then f d else 0)=0:=by apply Q1;intro m j;apply Wh;intro e;rw[<-e] at j;exact O.fG j h
  have b:su K.E (fun m=>if d=(m.2,m.1) then f d else 0)=f d:=by refine(Qt ?_).trans (ZT O.nodup h (fun _=>f d));lia
  lia
theorem Dr.Ok.cO(O : K.Ok){C : List Dt}(j : C.Nodup)(n : ∀d∈C, K.aZ d)
    (hc : ∀v : Nat, su C (fun d => if d.2=v then 1 else 0)=su C (fun d => if d.1=v then 1 else 0)) : K.Cons (Q7 C) := by
  intro v; have h := hc v; rw [O.dH j n, O.dH j n]at h
  have : su K.E (fun m => if m.2=v then Q7 C m else 0)-su K.E (fun m => if m.1=v then Q7 C m else 0)=0 := by
    rw [<- XC]
    have h' : su K.E (fun m => (((if m∈C then(if m.2=v then 1 else 0) else 0)+(if(m.2, m.1)∈C then(if(m.2, m.1).2=v then 1 else 0) else 0)) : Int)
      - ((if m∈C then(if m.1=v then 1 else 0) else 0)+(if(m.2, m.1)∈C then(if(m.2, m.1).1=v then 1 else 0) else 0)))=0 := by
      rw [XC, h]; lia
    refine(Qt ?_).trans h'; intro m _; unfold Q7
    by_cases a : m ∈ C <;> by_cases b : (m.2, m.1) ∈ C <;> simp only [a, b, Wq, Wr] <;>
      by_cases c : m.1=v<;>by_cases d : m.2=v<;>simp only [c, d, Wq, Wr]<;>lia
  lia
theorem Dr.dU.oh(R:K.dU nx)(hd:K.aZ d)(v:Nat)(k:Nat) :
  su (wk nx d k) (fun d=>if d.2=v then 1 else 0)+(if d.1=v then 1 else 0) =
  su (wk nx d k) (fun d=>if d.1=v then 1 else 0)+(if(it nx k d).1=v then 1 else 0):=by
 induction k with
 |zero=>rfl
 | succ k j=>
  rw[lT,Ye,Ye,QQ,ZU,QQ,ZU];have:(it nx (k+1) d).1=(it nx k d).2:=R.fst _ (R.bD hd k);rw[this];lia
theorem Dr.Ok.cJ(O:K.Ok)(R:K.dU nx)(hd:K.aZ d)
  (n:(wk nx d k).Nodup) (z:(it nx k d).1=d.1):K.Cons (Q7 (wk nx d k)):=by
 apply O.cO n
 ·intro x B;obtain⟨j,_,rfl⟩:=Zv.1 B;exact R.bD hd j
 ·intro v;have:=R.oh hd v k;rw[z]at this;lia
theorem Dr.Ok.mH(O:K.Ok)(C:List Dt)(hd:K.aZ d) :
  K.fl (Q7 C) d=(if d∈C then 1 else 0)-(if(d.2,d.1)∈C then 1 else 0):=by
 unfold Dr.fl Q7;lia
def Dr.oZ(K:Dr):Prop:=∀(Q:Nat->Prop)(d e:Dt),K.aZ d->K.aZ e->(∀x,K.aZ x->Q x.1->Q x.2)->Q d.1->Q e.1
def Dr.lK(K:Dr)(v:Nat):Prop:=∀(Q:Nat->Prop)(d e:Dt),K.aZ d->K.aZ e->d.1≠v->e.1≠v->
 (∀x,K.aZ x->x.1≠v->x.2≠v->Q x.1->Q x.2)->Q d.1->Q e.1
theorem Dr.Ok.spread(O:K.Ok)(R:K.dU nx)(hc:K.oZ){P:Dt->Prop}
  (h1:∀d,K.aZ d->P d->P (d.2,d.1)) (h2:∀d,K.aZ d->P d->P (nx d)) {d e:Dt} (hd:K.aZ d) (F:K.aZ e) (h:P d):P e:=by
 have eD:∀v a c,K.aZ (v,a)->K.aZ (v,c)->P (v,a)->P (v,c):=by intro v a c j hc G;refine O.turn R v (fun a=>P (v,a)) ?_ j hc G;intro a j z;have:=h2 (a,v) j.rev (h1 (v,a) j z);have e:nx (a,v)=(v,(nx (a,v)).2):=Prod.ext (R.fst (a,v) j.rev) rfl;lia
 have:=hc (fun v=>∀x,K.aZ (v,x)->P (v,x)) d e hd F (fun x n I c B=>by
  have:=h1 x n (I x.2 n);exact eD x.2 x.1 c n.rev B this) (fun x n=>eD d.1 d.2 x hd n h)
 exact this e.2 F
theorem Dr.Ok.vj(O:K.Ok)(R:K.dU nx){v:Nat}(hc:K.lK v){P:Dt->Prop}
  (h1:∀d,K.aZ d->P d->P (d.2,d.1)) (h2:∀d,K.aZ d->d.2≠v->P d->P (nx d)) {d e:Dt} (hd:K.aZ d) (F:K.aZ e)
  (nd:d.1≠v) (ne:e.1≠v) (h:P d):P e:=by
 have eD:∀w a c,w≠v->K.aZ (w,a)->K.aZ (w,c)->P (w,a)->P (w,c):=by intro w a c hw j hc G;refine O.turn R w (fun a=>P (w,a)) ?_ j hc G;intro a j z;have:=h2 (a,w) j.rev hw (h1 (w,a) j z);have e:nx (a,w)=(w,(nx (a,w)).2):=Prod.ext (R.fst (a,w) j.rev) rfl;lia
 have:=hc (fun w=>∀x,K.aZ (w,x)->P (w,x)) d e hd F nd ne (fun x n M I J c B=>by
  have:=h1 x n (J x.2 n);exact eD x.2 x.1 c I n.rev B this) (fun x n=>eD d.1 d.2 x nd hd n h)
 exact this e.2 F
theorem Dr.Ok.around(O:K.Ok)(R:K.dU nx)(hc:K.oZ)(hd:K.aZ d)(p:eB nx d k)
  {e:Dt} (n:K.aZ e):K.Wd (Q7 (wk nx d k)) e=K.Wd (Q7 (wk nx d k)) d-1+(if e∈wk nx d k then 1 else 0):=by
 have C:=O.cJ R hd (p.nodup O R hd) (by rw[p.back]);refine O.spread R hc (P:=fun e=>K.Wd (Q7 (wk nx d k)) e=K.Wd (Q7 (wk nx d k)) d-1+(if e∈wk nx d k then 1 else 0)) ?_ ?_ hd n ?_
 ·intro x j z;have B:=O.W1 (Q7 (wk nx d k)) j;rw[O.mH _ j]at B;lia
 ·intro x j z;have F:=O.W2 C (u:=x.1) (v:=x.2) (b:=(nx x).2) j (R.next x j);have e:nx x=(x.2,(nx x).2):=Prod.ext (R.fst x j) rfl;rw[<-e]at F;have m:=p.Bq O R hd j;lia
 ·have:d∈wk nx d k:=p.mem.2 ⟨0,Z⟩;lia
theorem Dr.Ok.BE(O:K.Ok)(R:K.dU nx){N:Dt->Int}(C:K.Cons N)(hd:K.aZ d)(j:Nat) :
  K.Wd N (it nx j d)=K.Wd N d:=by
 induction j with
 |zero=>rfl
 | succ j B=>
  have n:=R.bD hd j;have z:=O.W2 C (u:=(it nx j d).1) (v:=(it nx j d).2) (b:=(nx (it nx j d)).2) n (R.next _ n);have e:nx (it nx j d)=((it nx j d).2,(nx (it nx j d)).2):=Prod.ext (R.fst _ n) rfl;rw[<-e]at z;rw[Yx,<-z];exact B
theorem Dr.Ok.once(O:K.Ok)(R:K.dU nx){d:Dt}(hd:K.aZ d)(hc:K.lK d.1)(p:eB nx d k)
  {j:Nat} (h0:0<j) (hj:j<k):(it nx j d).1≠d.1:=by
 intro F;have M:(wk nx d j).Nodup:=O.cI R hd (fun i h1 h2=>p.first i h1 L);have C:=O.cJ R hd M F;have G:=R.bD hd j
 have n:∀x,K.aZ x->x.1≠x.2:=by intro x z e;rcases O.cH z with⟨a,_⟩|⟨a,_⟩<;>rw[e]at a<;>lia
 have U:it nx j d∉wk nx d j:=by
  intro h;obtain⟨i,hi,e⟩:=Zv.1 h;have:=p.nodup O R hd;have e2:it nx i d=it nx i (it nx (j-i) d):=by rw[<-Z7,show i+(j-i)=j by lia];exact e
  exact p.first (j-i) L L (O.kI R hd (R.bD hd _) i e2).symm
 have wy:=O.BE R C hd j
 have B:∀x,K.aZ x->K.Wd (Q7 (wk nx d j)) x=K.Wd (Q7 (wk nx d j)) d-1+(if x∈wk nx d j then 1 else 0)->
   K.Wd (Q7 (wk nx d j)) (x.2,x.1)=K.Wd (Q7 (wk nx d j)) d-1+(if(x.2,x.1)∈wk nx d j then 1 else 0):=by
  intro x z hp;have w1:=O.W1 (Q7 (wk nx d j)) z;rw[O.mH _ z]at w1;lia
 have YO:K.Wd (Q7 (wk nx d j)) d=K.Wd (Q7 (wk nx d j)) d-1+(if d∈wk nx d j then 1 else 0):=by have:d∈wk nx d j:=Zv.2 ⟨0,h0,Z⟩;lia
 have fin:K.Wd (Q7 (wk nx d j)) ((it nx j d).2,(it nx j d).1)=K.Wd (Q7 (wk nx d j)) d-1+(if((it nx j d).2,(it nx j d).1)∈wk nx d j then 1 else 0):=by
  refine O.vj R hc (P:=fun e=>K.Wd (Q7 (wk nx d j)) e=K.Wd (Q7 (wk nx d j)) d-1+(if e∈wk nx d j then 1 else 0)) B ?_ (d:=(d.2,d.1)) hd.rev G.rev (fun e=>n d hd e.symm) (fun e=>n _ G (by rw[F];exact e.symm)) (B d hd YO);intro x z I hp;have w2:=O.W2 C (u:=x.1) (v:=x.2) (b:=(nx x).2) z (R.next x z);have e:nx x=(x.2,(nx x).2):=Prod.ext (R.fst x z) rfl;rw[<-e]at w2
  have m:nx x∈wk nx d j↔x∈wk nx d j:=by
   rw[Zv,Zv];constructor
   ·rintro⟨i,hi,h⟩;cases i with
    | zero=>
     exfalso;apply I;rw[<-R.fst x z,<-h];rfl
    |succ i=>exact⟨i,by lia,O.kH R (R.bD hd _) z h⟩
   ·rintro⟨i,hi,h⟩;by_cases q:i+1<j
    ·exact⟨i+1,q,by rw[Yx,h]⟩
    ·exfalso;apply I;rw[<-R.fst x z,<-h,<-Yx nx i d,show i+1=j by lia,F]
  lia
 have J:K.Wd (Q7 (wk nx d j)) (it nx j d)=K.Wd (Q7 (wk nx d j)) d-1+(if it nx j d∈wk nx d j then 1 else 0):=B _ G.rev fin;lia
def Dr.cw(K:Dr)(d m:Dt):Int:=
 if K.X d.1<K.X d.2 then(if K.act m (K.X d.1)/\K.h m (2*K.X d.1+1)<K.h d (2*K.X d.1+1) then 1 else 0)+(if m=d then 1 else 0)
 else(if K.act m (K.X d.2)/\K.h m (2*K.X d.2+1)<K.h (d.2,d.1) (2*K.X d.2+1) then 1 else 0)
theorem Ja(p:Prop) [Decidable p] (x:Int):(if p then 1 else 0)*x=if p then x else 0:=by lia
theorem Dr.Ok.mF(O:K.Ok)(N:Dt->Int)(hd:K.aZ d):K.Wd N d=su K.E (fun m=>K.cw d m*N m):=by
 unfold Dr.Wd Dr.cw Dr.bl;rcases O.cH hd with⟨a,b⟩|⟨a,b⟩
 ·rw[Wi a];have:=ZT O.nodup b N;rw[<-this,<-ZL];apply Qt;intro m _;rw[Wi a,Int.add_mul,Ja,Ja]
 ·rw[Wh L];apply Qt;intro m _;rw[Wh (c:=K.X d.1<K.X d.2) L,Ja]
theorem Dr.Ok.vH(O:K.Ok){N:Dt->Int}(h:∀e∈K.E,N e=0)(hd:K.aZ d):K.Wd N d=0:=by rw[O.mF N hd];apply Q1;grind
theorem Dr.Ok.tZ(O:K.Ok)(l:List α)(c:α->Int)(F:α->Dt->Int)(hd:K.aZ d) :
  K.Wd (fun e=>su l (fun r=>c r*F r e)) d=su l (fun r=>c r*K.Wd (F r) d):=by
 rw[O.mF _ hd]
 have:∀m∈K.E,K.cw d m*su l (fun r=>c r*F r m)=su l (fun r=>c r*(K.cw d m*F r m)):=by intro m _;rw[<-XD];grind
 rw[Qt this,XV];apply Qt;intro r _;rw[XD,O.mF _ hd]
theorem gT(l:List α)(c:α->Int)(F:α->Dt->Int) (h:∀r∈l,K.Cons (F r)):K.Cons (fun e=>su l (fun r=>c r*F r e)):=by
 intro v
 have a:∀(p:Dt->Prop) [DecidablePred p],su K.E (fun m=>if p m then su l (fun r=>c r*F r m) else 0)=su l (fun r=>c r*su K.E (fun m=>if p m then F r m else 0)):=by
  intro p _
  have:∀m∈K.E,(if p m then su l (fun r=>c r*F r m) else 0)=su l (fun r=>c r*(if p m then F r m else 0)):=by
   intro m _;by_cases q:p m
   ·simp only[Wi q]
   ·simp only[Wh q,Qbe];exact(jB l).symm
  rw[Qt this,XV];apply Qt;intro r _;rw[XD]
 rw[a (fun m=>m.2=v),a (fun m=>m.1=v)];apply Qt;intro r hr;rw[h r hr v]
theorem n9{V:List Nat}(n:V.Nodup)(z:∀e∈K.E,e.1∈V/\e.2∈V){M:Dt->Int}(B:K.Cons M)(f:Nat->Int) :
  su K.E (fun e=>M e*(f e.2-f e.1))=0:=by
 have F:su K.E (fun e=>M e*f e.2)=su V (fun v=>f v*su K.E (fun m=>if m.2=v then M m else 0)):=by
  have:∀e∈K.E,M e*f e.2=su V (fun v=>f v*(if e.2=v then M e else 0)):=by intro e j;have:=ZT n (z e j).2 (fun v=>f v*M e);grind
  rw[Qt this,XV];apply Qt;intro v _;rw[XD]
 have G:su K.E (fun e=>M e*f e.1)=su V (fun v=>f v*su K.E (fun m=>if m.1=v then M m else 0)):=by
  have:∀e∈K.E,M e*f e.1=su V (fun v=>f v*(if e.1=v then M e else 0)):=by intro e j;have:=ZT n (z e j).1 (fun v=>f v*M e);grind
  rw[Qt this,XV];apply Qt;intro v _;rw[XD]
 have:su K.E (fun e=>M e*(f e.2-f e.1))=su K.E (fun e=>M e*f e.2)-su K.E (fun e=>M e*f e.1):=by rw[<-XC];grind
 rw[this,G,F]
 have:su V (fun v=>f v*su K.E (fun m=>if m.2=v then M m else 0))=su V (fun v=>f v*su K.E (fun m=>if m.1=v then M m else 0)):=by apply Qt;intro v _;rw[B v]
 lia
structure YB(K:Dr)(nx:Dt->Dt)(pr:Dt->Nat)(d0:Dt)(Rp:List Dt):Prop where
 du:∀d,K.aZ d->eB nx d (pr d)
 out:K.aZ d0
 zero:∀N,K.Wd N d0=0
 dG:∀r∈Rp,K.aZ r
 nodup:Rp.Nodup
 sep:∀r∈Rp,∀q∈Rp,q∈wk nx r (pr r)->q=r
 inner:∀r∈Rp,d0∉wk nx r (pr r)
 all:∀d,K.aZ d->d∈wk nx d0 (pr d0)\/∃r∈Rp,d∈wk nx r (pr r)
theorem YB.W{pr:Dt->Nat}{d0:Dt}{j:List Dt}(z:YB K nx pr d0 j)(O:K.Ok)(R:K.dU nx)(hc:K.oZ)
  {r:Dt} (hr:K.aZ r) (h0:d0∉wk nx r (pr r)) {e:Dt} (n:K.aZ e):K.Wd (Q7 (wk nx r (pr r))) e=if e∈wk nx r (pr r) then 1 else 0:=by
 have a:=O.around R hc hr (z.du r hr) n;have b:=O.around R hc hr (z.du r hr) z.out;rw[z.zero,Wh h0]at b;lia
theorem YB.cons{K:Dr}{nx:Dt->Dt}{pr:Dt->Nat}{d0:Dt}{j:List Dt}(n:YB K nx pr d0 j)(O:K.Ok)(R:K.dU nx)
  {r:Dt} (hr:K.aZ r):K.Cons (Q7 (wk nx r (pr r))):=
 O.cJ R hr ((n.du r hr).nodup O R hr) (by rw[(n.du r hr).back])
theorem JG{α β:Type}{f:α->β}(hf:∀a b,f a=f b->a=b){l:List α}(h:l.Nodup):(l.map f).Nodup:=by grind
theorem YB.pI{pr:Dt->Nat}{d0:Dt}{B:List Dt}(af:YB K nx pr d0 B)(O:K.Ok)(R:K.dU nx)(hc:K.oZ)
  {V:List Nat} (U:V.Nodup) (hE:∀e∈K.E,e.1∈V/\e.2∈V) (hD:∀v∈V,∃x,K.aZ (v,x)):B.length+V.length<=K.E.length+1:=by
 apply xH;intro ad
 have I:d0.1∈V:=by rcases af.out with h|h;all_goals grind
 have hl:(V.erase d0.1).length=V.length-1:=Ue I;have nE:=Vi I
 have hJ:(B.map (Sum.inl (β:=Nat))++(V.erase d0.1).map (Sum.inr (α:=Dt))).Nodup:=by rw[VO];refine⟨JG (fun a b h=>by simpa using h) af.nodup,JG (fun a b h=>by simpa using h) (U.erase _),?_⟩;grind
 obtain⟨c,⟨j,hj,J⟩,hs⟩:=solve (K.E.map (fun e (z:Dt ⊕ Nat)=>match z with
  |.inl r=>Q7 (wk nx r (pr r)) e
  |.inr v=>(if e.2=v then 1 else 0)-(if e.1=v then 1 else 0)))
  (B.map (Sum.inl (β:=Nat))++(V.erase d0.1).map (Sum.inr (α:=Dt))) hJ (by simp[hl];lia)
 let f:Nat->Int:=fun v=>if v∈V.erase d0.1 then c (.inr v) else 0
 let M:Dt->Int:=fun e=>su B (fun r=>c (.inl r)*Q7 (wk nx r (pr r)) e)
 have n:∀w,su (V.erase d0.1) (fun v=>(if w=v then 1 else 0)*c (.inr v))=f w:=by
  intro w;show _=if w∈V.erase d0.1 then c (.inr w) else 0
  by_cases q:w∈V.erase d0.1
  ·rw[Wi q,<-ZT (U.erase _) q (fun v=>c (.inr v))];grind
  ·rw[Wh q];apply Q1;lia
 have hM:∀e∈K.E,M e+(f e.2-f e.1)=0:=by
  intro e he;have:=hs _ (List.mem_map.2 ⟨e,he,Z⟩);rw[Ye,tM,tM]at this;simp only at this
  have h1:su B (fun r=>Q7 (wk nx r (pr r)) e*c (.inl r))=M e:=by grind
  have h2:su (V.erase d0.1) (fun v=>((if e.2=v then 1 else 0)-(if e.1=v then 1 else 0))*c (.inr v))=f e.2-f e.1:=by rw[<-n e.2,<-n e.1,<-XC];grind
  lia
 have aa:K.Cons M:=gT B (fun r=>c (.inl r)) (fun r=>Q7 (wk nx r (pr r))) (fun r hr=>af.cons O R (af.dG r hr));have hz:=n9 U hE aa f
 have ab:su K.E (fun e=>M e*M e)=0:=by
  have:su K.E (fun e=>M e*M e) = - su K.E (fun e=>M e*(f e.2-f e.1)):=by rw[<-jC];apply Qt;intro e he;grind
  lia
 have G:∀e∈K.E,M e=0:=by
  intro e he
  have:=iS (l:=K.E) (f:=fun e=>M e*M e) (fun e _=>by
   rcases Qbd 0 (M e) with h|h
   ·exact UC h h
   ·exact GB h h) ab e he
  rcases Int.mul_eq_zero.1 this with h|h<;>exact h
 have ac:∀r∈B,c (.inl r)=0:=by
  intro r hr;have w:=O.vH G (af.dG r hr);rw[O.tZ B (fun r=>c (.inl r)) (fun r=>Q7 (wk nx r (pr r))) (af.dG r hr)]at w;refine(ZT af.nodup hr (fun r=>c (.inl r))).symm.trans ((Qt ?_).trans w);intro q hq;rw[af.W O R hc (af.dG q hq) (af.inner q hq) (af.dG r hr)];by_cases z:q=r
  ·subst z;have:q∈wk nx q (pr q):=(af.du q (af.dG q hq)).mem.2 ⟨0,Z⟩;rw[Wi this];simp
  ·have:r∉wk nx q (pr q):=fun h=>z (af.sep q hq r hr h).symm;rw[Wh this];simp[z]
 have hf:∀x,K.aZ x->f x.1=0->f x.2=0:=by
  intro x F h;rcases F with F|F
  ·have a:=hM _ F;rw[G _ F]at a;lia
  ·have a:=hM _ F;rw[G _ F]at a;simp only at a;lia
 rcases List.mem_append.1 hj with h|h
 ·obtain⟨r,hr,rfl⟩:=List.mem_map.1 h;exact J (ac r hr)
 ·obtain⟨v,hv,rfl⟩:=List.mem_map.1 h;obtain⟨x,F⟩:=hD v (Uy hv);have f0:f d0.1=0:=Wh (List.Nodup.not_mem_erase U);have:=hc (fun w=>f w=0) d0 (v,x) af.out F hf f0;have e:f v=c (.inr v):=Wi hv;exact J (by rw[<-e];exact this)
theorem YB.r8{pr:Dt->Nat}{d0:Dt}{I:List Dt}(ab:YB K nx pr d0 I)(O:K.Ok)(R:K.dU nx)
  {V:List Nat} (hV:V.Nodup) (F:∀e∈K.E,e.1∈V/\e.2∈V):K.E.length+1<=I.length+V.length:=by
 apply xH;intro U
 have n:d0.1∈V:=by rcases ab.out with h|h;all_goals grind
 have hl:(V.erase d0.1).length=V.length-1:=Ue n;have nE:=Vi n
 obtain⟨N,⟨j,G,aa⟩,hs⟩:=solve ((V.erase d0.1).map (fun v (e:Dt)=>(if e.2=v then 1 else 0)-(if e.1=v then 1 else 0))++I.map (fun r e=>K.cw r e))
  K.E O.nodup (by simp[hl];lia)
 have h1:∀v∈V.erase d0.1,su K.E (fun m=>if m.2=v then N m else 0)=su K.E (fun m=>if m.1=v then N m else 0):=by
  intro v z;have:=hs _ (Qad _ (List.mem_map.2 ⟨v,z,Z⟩))
  have e:su K.E (fun m=>((if m.2=v then 1 else 0)-(if m.1=v then 1 else 0))*N m)=su K.E (fun m=>if m.2=v then N m else 0)-su K.E (fun m=>if m.1=v then N m else 0):=by rw[<-XC];grind
  lia
 have ee:∀(g:Dt->Nat),(∀e∈K.E,g e∈V)->su V (fun v=>su K.E (fun m=>if g m=v then N m else 0))=su K.E N:=by intro g hg;rw[XV];apply Qt;intro m B;refine(Qt ?_).trans (ZT hV (hg m B) (fun _=>N m));lia
 have t2:=ee (fun m=>m.2) (fun e J=>(F e J).2);have t1:=ee (fun m=>m.1) (fun e J=>(F e J).1)
 have C:K.Cons N:=by
  intro v;by_cases z:v∈V
  ·by_cases q:v=d0.1
   ·subst q;rw[Yd n] at t1 t2
    have:su (V.erase d0.1) (fun v=>su K.E (fun m=>if m.2=v then N m else 0))=su (V.erase d0.1) (fun v=>su K.E (fun m=>if m.1=v then N m else 0)):=
     Qt h1
    lia
   ·exact h1 v ((List.mem_erase_of_ne q).2 z)
  ·rw[Q1 (fun m B=>Wh (fun(e:m.2=v)=>z (by rw[<-e];exact(F m B).2))),
    Q1 (fun m B=>Wh (fun(e:m.1=v)=>z (by rw[<-e];exact(F m B).1)))]
 have W0:∀d,K.aZ d->K.Wd N d=0:=by
  intro d hd;rcases ab.all d hd with h|⟨r,hr,h⟩
  ·obtain⟨i,_,rfl⟩:=Zv.1 h;rw[O.BE R C ab.out,ab.zero]
  ·obtain⟨i,_,rfl⟩:=Zv.1 h;rw[O.BE R C (ab.dG r hr),O.mF N (ab.dG r hr)];exact hs _ (GM _ (List.mem_map.2 ⟨r,hr,Z⟩))
 have M:=O.W1 N (d:=j) (G1 G);rw[W0 j (G1 G),W0 (j.2,j.1) (UJ G)]at M;unfold Dr.fl at M;rw[Wi (O.left j G)]at M;lia
theorem ku(h:α->Int):∀(l:List α),l≠[]->∃m∈l,∀x∈l,h x<=h m
 |[],j=>Wm Z j
 |[a],_=>⟨a,by simp,by simp⟩
 | a::b::l,_=>by
  obtain⟨m,n,z⟩:=ku h (b::l) We;by_cases q:h a<=h m
  ·grind
  ·grind
theorem Iz [DecidableEq α] (h N:α->Int):∀(n:Nat)(l:List α),l.length=n->l.Nodup->(∀x∈l,∀y∈l,h x=h y->x=y)->
  (∀m∈l,0<=su l (fun x=>if h x<=h m then N x else 0))->∀H,(∀m∈l,h m<=H)->
  su l (fun x=>N x*h x)<=su l N*H/\((∃y,y<H/\0<su l (fun x=>if h x<=y then N x else 0))->su l (fun x=>N x*h x)<su l N*H):=by
 intro n;induction n with
 | zero=>
  intro l hl _ _ _ H _;have:l=[]:=by cases l<;>simp_all
  subst this;refine⟨by simp[ZU],?_⟩;rintro⟨y,_,h⟩;simp[ZU]at h
 | succ n ih=>
  intro l hl hn I nE H hH;obtain⟨m,F,U⟩:=ku h l (by intro e;subst e;simp at hl)
  have aa:∀x∈l.erase m,x≠m:=by grind
  have J:∀x∈l.erase m,h x<h m:=by grind
  have z:∀y,y<h m->su l (fun x=>if h x<=y then N x else 0)=su (l.erase m) (fun x=>if h x<=y then N x else 0):=by intro y M;rw[Yd F,Wh L];lia
  have j:∀y,h m<=y->su l (fun x=>if h x<=y then N x else 0)=su l N:=by intro y M;apply Qt;grind
  have key:=ih (l.erase m) (by rw[Ue F];lia) (hn.erase m)
   (fun x G y M=>I x (Uy G) y (Uy M))
   (fun x G=>by rw[<-z (h x) (J x G)];exact nE x (Uy G))
   (h m) (fun x G=>by have:=J x G;lia)
  have e1:su l (fun x=>N x*h x)=N m*h m+su (l.erase m) (fun x=>N x*h x):=Yd F _;have e2:su l N=N m+su (l.erase m) N:=Yd F _;have ee:0<=su l N:=by rw[<-j (h m) (Qau _)];exact nE m F
  have O:=hH m F;have e3:su l N*h m=N m*h m+su (l.erase m) N*h m:=by rw[e2,Int.add_mul]
  have ab:su l N*h m<=su l N*H:=Vf O ee;constructor
  ·lia
  ·rintro⟨y,M,B⟩;by_cases q:y<h m
   ·have:=key.2 ⟨y,q,by rw[<-z y q];exact B⟩;lia
   ·rw[j y L]at B;have ac:su l N*h m<su l N*H:=Int.mul_lt_mul_of_pos_left L B;lia
def Dr.ee(K:Dr)(N:Dt->Int)(t:Int):Int:=su K.E (fun m=>if K.act m t then N m else 0)
theorem Dr.Ok.sN(O:K.Ok){N:Dt->Int}(C:K.Cons N)(t:Int):K.ee N (t+1)=K.ee N t:=by
 have hc:su K.E (fun m=>if K.X m.2=t+1 then N m else 0)=su K.E (fun m=>if K.X m.1=t+1 then N m else 0):=by
  by_cases n:∃v,K.lZ v/\K.X v=t+1
  ·obtain⟨v,n,z⟩:=n;have:=C v;rw[<-z];refine Eq.trans (Qt fun m j=>?_) (this.trans (Qt fun m j=>?_))
   ·simp only[O.FO n j]
   ·simp only[O.Dy n j]
  ·rw[Q1,Q1]
   ·intro m j;exact Wh (fun h=>n ⟨m.1,⟨m,j,G1 Z⟩,h⟩)
   ·intro m j;exact Wh (fun h=>n ⟨m.2,⟨m,j,UJ Z⟩,h⟩)
 have:∀m∈K.E,(if K.act m (t+1) then N m else 0)=(if K.act m t then N m else 0)+((if K.X m.1=t+1 then N m else 0)-(if K.X m.2=t+1 then N m else 0)):=by intro m j;have:=O.left m j;lia
 unfold Dr.ee;rw[Qt this,ZL,XC,hc];lia
theorem Dr.Ok.rK(O:K.Ok){N:Dt->Int}(C:K.Cons N){lo:Int}(j:∀e∈K.E,lo<=K.X e.1)(i:Nat):K.ee N (lo-1+i)=0:=by
 induction i with
 | zero=>
  apply Q1;intro m n;have:=j m n;apply Wh;unfold Dr.act;lia
 | succ i z=>
  have:=O.sN C (lo-1+i);rw[z]at this;rw[<-this];congr 1;lia
theorem Dr.Ok.ES(O:K.Ok){N:Dt->Int}(C:K.Cons N)(hp:∀m∈K.E,0<=K.Wd N m){t:Int}(h0:K.ee N t=0) :
  su K.E (fun m=>if K.act m t then N m*K.h m (2*t+1) else 0)<=0/\
  ((∃m∈K.E,K.act m t/\(0<K.Wd N m\/0<K.Wd N (m.2,m.1)))->su K.E (fun m=>if K.act m t then N m*K.h m (2*t+1) else 0)<0):=by
 let l:=K.E.filter (fun m=>decide (K.act m t))
 have j:∀m,m∈l↔m∈K.E/\K.act m t:=by intro m;simp[l]
 have M:∀f:Dt->Int,su K.E (fun m=>if K.act m t then f m else 0)=su l f:=by intro f;show _=su (K.E.filter (fun m=>decide (K.act m t))) f;rw[oR];lia
 have hb:∀(e:Dt)(y:Int),(∀m∈K.E,K.act m t->(K.h m (2*t+1)<=y↔K.h m (2*t+1)<K.h e (2*t+1)))->
   su l (fun x=>if K.h x (2*t+1)<=y then N x else 0)=K.bl N e t:=by
  intro e y J;rw[<-M];unfold Dr.bl;apply Qt;intro m n;by_cases a:K.act m t
  ·grind
  ·lia
 have hr:∀m∈l,su l (fun x=>if K.h x (2*t+1)<=K.h m (2*t+1) then N x else 0)=K.Wd N m:=by
  intro m n;obtain⟨n,F⟩:=(j m).1 n;have hl:=O.left m n
  have e1:su l (fun x=>if K.h x (2*t+1)<=K.h m (2*t+1) then N x else 0)=su l (fun x=>if K.h x (2*t+1)<K.h m (2*t+1) then N x else 0)+N m:=by
   have hn:l.Nodup:=O.nodup.filter _;rw[<-ZT hn ((j m).2 ⟨n,F⟩) N,<-ZL];apply Qt;intro x z;obtain⟨z,U⟩:=(j x).1 z;by_cases q:x=m
   ·subst q;simp
   ·have d:=O.distinct z n q (t:=2*t+1) (by unfold Dr.act at *;lia) (by unfold Dr.act at *;lia) (by unfold Dr.act at *;lia) (by unfold Dr.act at *;lia);lia
  have e2:su l (fun x=>if K.h x (2*t+1)<K.h m (2*t+1) then N x else 0)=K.bl N m t:=by rw[<-hb m (K.h m (2*t+1)-1) (fun x _ _=>by lia)];lia
  rw[e1,e2];unfold Dr.Wd;rw[Wi hl,O.cY C n F (u:=K.X m.1) (by unfold Dr.act;lia)]
 have G:∀x∈l,∀y∈l,K.h x (2*t+1)=K.h y (2*t+1)->x=y:=by intro x z y J e;obtain⟨z,U⟩:=(j x).1 z;obtain⟨J,aa⟩:=(j y).1 J;apply xH;intro q;exact O.distinct z J q (t:=2*t+1) (by unfold Dr.act at *;lia) (by unfold Dr.act at *;lia) (by unfold Dr.act at *;lia) (by unfold Dr.act at *;lia) e
 have I:∃H,∀m∈l,K.h m (2*t+1)<H:=by
  by_cases q:l=[]
  ·exact⟨0,by simp[q]⟩
  ·obtain⟨m,_,n⟩:=ku (fun m=>K.h m (2*t+1)) l q;exact⟨K.h m (2*t+1)+1,fun x z=>by have:=n x z;lia⟩
 obtain⟨H,I⟩:=I
 have A:=Iz (fun m=>K.h m (2*t+1)) N l.length l Z (O.nodup.filter _) G (fun m n=>by
  have:=hr m n;rw[this];exact hp m ((j m).1 n).1) H (fun m n=>by have:=I m n;lia)
 have t0:su l N=0:=by rw[<-M];exact h0
 rw[t0,VT]at A;rw[M (fun m=>N m*K.h m (2*t+1))];refine⟨A.1,?_⟩;rintro⟨m,n,F,hw⟩;apply A.2;have B:=(j m).2 ⟨n,F⟩;have hl:=O.left m n;rcases hw with hw|hw
 ·exact⟨K.h m (2*t+1),I m B,by have:=hr m B;rw[this];exact hw⟩
 ·refine⟨K.h m (2*t+1)-1,by have:=I m B;lia,?_⟩;have e:=hb m (K.h m (2*t+1)-1) (fun x _ _=>by lia);rw[e];unfold Dr.Wd at hw;rw[Wh (by show ¬K.X m.2<K.X m.1;lia)]at hw;have hw:0<K.bl N m (K.X m.1):=hw;rw[O.cY C n F (u:=K.X m.1) (by unfold Dr.act;lia)];exact hw
theorem Dr.Ok.strip(O:K.Ok){m:Dt}(j:m∈K.E){lo:Int}(z:lo<=K.X m.1)(n:Nat) :
  su (xN n) (fun i=>if K.act m (lo+i) then K.h m (2*(lo+i)+1) else 0) =
   2*(K.D*K.Y m.1)*(min (max (lo+n) (K.X m.1)) (K.X m.2)-K.X m.1)+K.s m*((min (max (lo+n) (K.X m.1)) (K.X m.2)-K.X m.1)*(min (max (lo+n) (K.X m.1)) (K.X m.2)-K.X m.1)):=by
 have hl:=O.left m j;induction n with
 | zero=>
  rw[show min (max (lo+(0:Nat)) (K.X m.1)) (K.X m.2)=K.X m.1 by lia];simp[ZU]
 | succ n B=>
  rw[UY,Ye,QQ,ZU,B];by_cases a:K.act m (lo+n)
  ·rw[Wi a];unfold Dr.act at a;rw[show min (max (lo+(n:Nat)) (K.X m.1)) (K.X m.2)=lo+n by lia,show min (max (lo+((n+1:Nat):Int)) (K.X m.1)) (K.X m.2)=lo+n+1 by lia];unfold Dr.h;grind
  ·grind
def Dr.ar(K:Dr)(m:Dt):Int:=(K.X m.2-K.X m.1)*(K.Y m.1+K.Y m.2)
theorem Dr.Ok.nq(O:K.Ok){m:Dt}(j:m∈K.E){lo:Int}(z:lo<=K.X m.1){n:Nat}(B:K.X m.2<=lo+n) :
  su (xN n) (fun i=>if K.act m (lo+i) then K.h m (2*(lo+i)+1) else 0)=K.D*K.ar m:=by
 have hl:=O.left m j;rw[O.strip j z,show min (max (lo+(n:Nat)) (K.X m.1)) (K.X m.2)=K.X m.2 by lia];have:=O.slope m j;unfold Dr.ar;grind
theorem jp(f:Dt->Int):∀l:List Dt,∃lo,∀m∈l,lo<=f m
 |[]=>⟨0,by simp⟩
 | a::l=>by
  obtain⟨lo,h⟩:=jp f l;refine⟨min lo (f a),?_⟩;intro m j;rcases List.mem_cons.1 j with rfl|j
  ·lia
  ·grind
theorem yx(f:Dt->Int):∀l:List Dt,∃hi,∀m∈l,f m<=hi
 |[]=>⟨0,by simp⟩
 | a::l=>by
  obtain⟨lo,h⟩:=yx f l;refine⟨max lo (f a),?_⟩;intro m j;rcases List.mem_cons.1 j with rfl|j
  ·lia
  ·grind
theorem Dr.Ok.Fm(O:K.Ok){N:Dt->Int}(C:K.Cons N)(B:∀m∈K.E,0<=K.Wd N m) :
  su K.E (fun m=>N m*K.ar m)<=0/\((∃m∈K.E,0<K.Wd N m\/0<K.Wd N (m.2,m.1))->su K.E (fun m=>N m*K.ar m)<0):=by
 obtain⟨lo,z⟩:=jp (fun m=>K.X m.1) K.E;obtain⟨hi,I⟩:=yx (fun m=>K.X m.2) K.E;let n:=(hi-lo).toNat
 have F:∀m∈K.E,K.X m.2<=lo+n:=by grind
 have e:K.D*su K.E (fun m=>N m*K.ar m)=su (xN n) (fun i=>su K.E (fun m=>if K.act m (lo+i) then N m*K.h m (2*(lo+i)+1) else 0)):=by rw[<-XD,XV];apply Qt;intro m j;rw[show K.D*(N m*K.ar m)=N m*(K.D*K.ar m) by rw[Qat],<-O.nq j (z m j) (F m j),<-XD];grind
 have h0:∀i:Nat,K.ee N (lo+i)=0:=by intro i;have:=O.rK C z (i+1);lia
 have G:∀i∈xN n,su K.E (fun m=>if K.act m (lo+(i:Nat)) then N m*K.h m (2*(lo+i)+1) else 0)<=0:=fun i _=>(O.ES C B (h0 i)).1;have hd:=O.kX;constructor
 ·have:0<=- su (xN n) (fun i=>su K.E (fun m=>if K.act m (lo+i) then N m*K.h m (2*(lo+i)+1) else 0)):=by rw[<-jC];exact yS (fun i hi=>by have:=G i hi;lia)
  rw[<-e]at this;apply xH;intro hc;have:0<K.D*su K.E (fun m=>N m*K.ar m):=UN hd L;lia
 ·rintro⟨m,j,hw⟩;have hl:=O.left m j;have h1:=z m j;have h2:=F m j
  have:0 < - su (xN n) (fun i=>su K.E (fun m=>if K.act m (lo+i) then N m*K.h m (2*(lo+i)+1) else 0)):=by
   rw[<-jC];have J:lo+((K.X m.1-lo).toNat:Nat)=K.X m.1:=by lia
   refine uD (fun i hi=>by have:=G i hi;lia) (x:=(K.X m.1-lo).toNat) (by rw[List.mem_range];lia) ?_;have:=(O.ES C B (h0 (K.X m.1-lo).toNat)).2 ⟨m,j,by unfold Dr.act;lia,hw⟩;lia
  rw[<-e]at this;apply xH;intro hc;have:0<=K.D*su K.E (fun m=>N m*K.ar m):=UC L L;lia
open Gla (Pt Plan)
theorem bw{p:Nat->α->Bool}{l:List α}:Gb p l=none↔∀(i:Nat)(h:i<l.length),p i l[i]=false:=by
 unfold Gb;simp only[VW,Uz];constructor
 ·intro h i hi;have:=h (l[i],i) (by rw[List.mem_zipIdx_iff_getElem?];simp[hi]);lia
 grind
theorem bO{ok:α->Bool}{j:α->α->Bool}{l:List α}(h:Ul ok j l=none) :
  (∀x∈l,ok x=true)/\(∀(i:Nat)(hi:i+1<l.length),j l[i] l[i+1]=true):=by
 unfold Ul at h;rw[bw]at h;constructor
 ·intro x n;obtain⟨i,hi,rfl⟩:=List.mem_iff_getElem.1 n;grind
 grind
theorem dm{n:α->α->Bool}(F:∀a b c,n a b=true->n b c=true->n a c=true){l:List α}
  (h:∀(i:Nat)(hi:i+1<l.length),n l[i] l[i+1]=true):∀(i j:Nat)(z:i<j)(B:j<l.length),n l[i] l[j]=true:=by
 intro i j z;induction j with
 |zero=>lia
 | succ j G=>
  intro B;by_cases q:i=j
  ·subst q;exact h i B
  ·exact F _ _ _ (G L L) (h j B)
theorem dR(a b c:Pt)(h1:a.below b=true)(h2:b.below c=true):a.below c=true:=by unfold Pt.below at *;lia
theorem cV(a b c:Nat×Nat)(h1:Uh a b=true)(h2:Uh b c=true):Uh a c=true:=by unfold Uh at *;lia
structure a9(S:Plan):Prop where
 w:S.w<=1048575
 h:S.h<=1048575
 box:∀p∈S.pts,p.x<=S.w/\p.y<=S.h
 pts:∀(i j:Nat)(_:i<j)(hj:j<S.pts.length),(S.pts[i]).below S.pts[j]=true
 lines:∀l∈S.lines,l.1<l.2/\l.2<S.pts.length
 sorted:∀(i j:Nat)(_:i<j)(hj:j<S.lines.length),Uh S.lines[i] S.lines[j]=true
 on:∀l∈S.lines,∀k,k<S.pts.length->k≠l.1->k≠l.2->Up (S.pt l.1) (S.pt l.2) (S.pt k)=false
 cross:∀l∈S.lines,∀m∈S.lines,l≠m->GZ (S.pt l.1) (S.pt l.2) (S.pt m.1) (S.pt m.2)=false
theorem ZZ(p q r s:Pt):GZ p q r s=GZ r s p q:=by unfold GZ;rw[Bool.and_comm]
theorem uV(hw:S.w<=1048575)(B:S.h<=1048575)
  (F:Ul (fun(p:Pt)=>decide (p.x<=S.w)&&decide (p.y<=S.h)) Pt.below S.pts=none)
  (G:Ul (fun(l:Nat×Nat)=>decide (l.1<l.2)&&decide (l.2<S.pts.length)) Uh S.lines=none)
  (n:Gb (U6 S) S.lines=none):a9 S:=by
 obtain⟨a4,I⟩:=bO F;obtain⟨a5,J⟩:=bO G;rw[bw]at n;refine⟨hw,B,?_,dm dR I,?_,dm cV J,?_,?_⟩
 ·grind
 ·grind
 ·intro l hl k hk h1 h2;obtain⟨i,hi,rfl⟩:=List.mem_iff_getElem.1 hl;have:=n i hi;unfold U6 at this;grind
 ·intro l hl m M O;obtain⟨i,hi,rfl⟩:=List.mem_iff_getElem.1 hl;obtain⟨j,z,rfl⟩:=List.mem_iff_getElem.1 M
  have key:∀(i j:Nat)(hi:i<S.lines.length)(z:j<S.lines.length),j<i->GZ (S.pt S.lines[i].1) (S.pt S.lines[i].2) (S.pt S.lines[j].1) (S.pt S.lines[j].2)=false:=by
   intro i j hi z U;have:=n i hi;unfold U6 at this;rw[Bool.or_eq_false_iff]at this;have:=this.2;rw[U3]at this
   have:=this S.lines[j] (by
    rw[List.mem_iff_getElem];exact⟨j,by simp;lia,by simp⟩)
   lia
  rcases Ut i j with h|h|h
  ·rw[ZZ];exact key j i z hi h
  all_goals grind
theorem a9.nodup(F:a9 S):S.lines.Nodup:=by unfold List.Nodup;rw[UV];intro i j hi z n e;have:=F.sorted i j n z;rw[e]at this;unfold Uh at this;simp at this
theorem bE{i:Nat}(h:i<S.pts.length):S.pt i=S.pts[i]:=by unfold Plan.pt;simp[h]
theorem a9.CH(F:a9 S){i j:Nat}(hi:i<S.pts.length)(n:j<S.pts.length)(h:S.pt i=S.pt j):i=j:=by
 rw[bE hi,bE n]at h;rcases Ut i j with q|q|q
 ·have:=F.pts i j q n;rw[h]at this;unfold Pt.below at this;simp at this
 ·exact q
 ·have:=F.pts j i q hi;rw[h]at this;unfold Pt.below at this;simp at this
theorem a9.cB(F:a9 S){i:Nat}(hi:i<S.pts.length):(S.pt i).x<=S.w/\(S.pt i).y<=S.h:=by rw[bE hi];exact F.box _ (xP hi)
def XP(p:Pt):Int:=1048576*(p.x:Int)+(p.y:Int)
def YP(p:Pt):Int:=(p.y:Int)
theorem kR{p q:Pt}(j:p.y<=1048575)(n:q.y<=1048575)(h:XP p=XP q):p=q:=by
 unfold XP at h;have:p.x=q.x/\p.y=q.y:=by lia
 cases p;cases q;simp_all
def dX(S:Plan)(l:Nat×Nat):Nat×Nat:=if XP (S.pt l.1)<XP (S.pt l.2) then l else(l.2,l.1)
def fB(S:Plan):List (Nat×Nat)->Int
 |[]=>1
 |e::r=>(XP (S.pt e.2)-XP (S.pt e.1))*fB S r
theorem y8(S:Plan):∀(l:List (Nat×Nat)) (e:Nat×Nat),e∈l->(XP (S.pt e.2)-XP (S.pt e.1)) ∣ fB S l
 |[],e,h=>by simp at h
 | a::r,e,h=>by
  rcases List.mem_cons.1 h with rfl|h
  ·exact Int.dvd_mul_right _ _
  ·exact Int.dvd_trans (y8 S r e h) (Int.dvd_mul_left _ _)
theorem y6(S:Plan):∀(l:List (Nat×Nat)),(∀e∈l,XP (S.pt e.1)<XP (S.pt e.2))->0<fB S l
 |[],_=>by show(0:Int)<1;decide
 |a::r,h=>UN (by have:=h a We;lia) (y6 S r (fun e j=>h e (by simp[j])))
def dr(S:Plan):Dr where
 X:=fun i=>XP (S.pt i)
 Y:=fun i=>YP (S.pt i)
 E:=S.lines.map (dX S)
 D:=fB S (S.lines.map (dX S))
 s:=fun e=>(YP (S.pt e.2)-YP (S.pt e.1))*(fB S (S.lines.map (dX S))/(XP (S.pt e.2)-XP (S.pt e.1)))
theorem a9.mu(F:a9 S){i j:Nat}(hi:i<S.pts.length)(n:j<S.pts.length) (h:XP (S.pt i)=XP (S.pt j)):i=j:=by have a:=F.cB hi;have b:=F.cB n;have:=F.h;exact F.CH hi n (kR L L h)
theorem a9.bH(F:a9 S){l:Nat×Nat}(h:l∈S.lines) :
  (XP (S.pt l.1)<XP (S.pt l.2)/\dX S l=l)\/(XP (S.pt l.2)<XP (S.pt l.1)/\dX S l=(l.2,l.1)):=by
 have⟨a,b⟩:=F.lines l h;unfold dX;by_cases q:XP (S.pt l.1)<XP (S.pt l.2)
 ·exact G1 ⟨q,Wi q⟩
 ·right;refine⟨?_,Wh q⟩
  have:XP (S.pt l.1)≠XP (S.pt l.2):=fun e=>by
   have:=F.mu L L e;lia
  lia
theorem a9.bT(F:a9 S){e:Nat×Nat} (j:e∈(dr S).E):XP (S.pt e.1)<XP (S.pt e.2):=by
 obtain⟨l,hl,rfl⟩:=List.mem_map.1 j;rcases F.bH hl with⟨a,b⟩|⟨a,b⟩
 ·rw[b];exact a
 ·rw[b];exact a
theorem a9.dY(F:a9 S){e:Nat×Nat} (j:e∈(dr S).E):e.1<S.pts.length/\e.2<S.pts.length:=by obtain⟨l,hl,rfl⟩:=List.mem_map.1 j;have:=F.lines l hl;rcases F.bH hl with⟨a,b⟩|⟨a,b⟩;all_goals lia
theorem a9.kX(F:a9 S):0<(dr S).D:=y6 S _ (fun _ j=>F.bT j)
theorem a9.Ea(F:a9 S){e:Nat×Nat} (j:e∈(dr S).E) :
  (dr S).D=((dr S).D/(XP (S.pt e.2)-XP (S.pt e.1)))*(XP (S.pt e.2)-XP (S.pt e.1))/\0<(dr S).D/(XP (S.pt e.2)-XP (S.pt e.1)):=by
 have h:=y8 S _ e j;have hl:=F.bT j;have n:=(Int.ediv_mul_cancel h).symm;refine⟨n,?_⟩;apply xH;intro hc;have:=F.kX;have h2:((dr S).D/(XP (S.pt e.2)-XP (S.pt e.1)))*(XP (S.pt e.2)-XP (S.pt e.1))<=0:=US L L;have z:(dr S).D=((dr S).D/(XP (S.pt e.2)-XP (S.pt e.1)))*(XP (S.pt e.2)-XP (S.pt e.1)):=n;lia
theorem JK(p q r:Pt):1048576*xL p q r=(XP q-XP p)*(YP r-YP p)-(YP q-YP p)*(XP r-XP p):=by unfold xL GD GE XP YP;grind
theorem a9.side(F:a9 S){e:Nat×Nat} (j:e∈(dr S).E) (z:Pt) :
  ∃c:Int,0<c/\2*((dr S).D*YP z)-(dr S).h e (2*XP z)=c*xL (S.pt e.1) (S.pt e.2) z:=by
 obtain⟨h1,h2⟩:=F.Ea j;refine⟨2*((dr S).D/(XP (S.pt e.2)-XP (S.pt e.1)))*1048576,by lia,?_⟩;have n:=JK (S.pt e.1) (S.pt e.2) z;rw[Qbt,n];unfold Dr.h;show 2*((dr S).D*YP z)-(2*((dr S).D*YP (S.pt e.1))+(YP (S.pt e.2)-YP (S.pt e.1))*((dr S).D/(XP (S.pt e.2)-XP (S.pt e.1)))*(2*XP z-2*XP (S.pt e.1)))=_;grind
theorem Yg{c x y:Int}(hc:0<c)(h:y=c*x):(0<y↔0<x)/\(y=0↔x=0)/\(y<0↔x<0):=by
 rcases Int.lt_trichotomy x 0 with q|q|q
 ·have:c*x<0:=Gu hc q;lia
 ·subst q;rw[Qbe]at h;lia
 ·have:0<c*x:=UN hc q;lia
theorem a9.de(F:a9 S){e:Nat×Nat} (j:e∈(dr S).E) (z:Pt) :
  (0<xL (S.pt e.1) (S.pt e.2) z↔(dr S).h e (2*XP z)<2*((dr S).D*YP z))/\
  (xL (S.pt e.1) (S.pt e.2) z=0↔(dr S).h e (2*XP z)=2*((dr S).D*YP z))/\
  (xL (S.pt e.1) (S.pt e.2) z<0↔2*((dr S).D*YP z)<(dr S).h e (2*XP z)):=by
 obtain⟨c,hc,h⟩:=F.side j z;have:=Yg hc h;lia
theorem Yc(p q r:Pt):xL q p r = - xL p q r:=by unfold xL GD GE;grind
theorem qm(a b c:Nat):Vt a b c=Vt b a c:=by unfold Vt;rw[Nat.min_comm,Nat.max_comm]
theorem qF(p q r:Pt):Up q p r=Up p q r:=by unfold Up;rw[Yc p q r,qm q.x,qm q.y];lia
theorem qS{d a b m:Int}(hd:0<d)(j:0<=m)(n:m<=d)(h:d*a=m*b):(0<=b->0<=a/\a<=b)/\(b<=0->b<=a/\a<=0):=by
 constructor
 ·intro z;have h1:0<=m*b:=UC j z;have h2:m*b<=d*b:=V6 n z;rw[<-h] at h1 h2;constructor
  ·apply xH;intro hc;have:d*a<0:=Gu hd L;lia
  ·exact Qap h2 hd
 ·intro z;have h1:m*b<=0:=Gn j z;have h2:d*b<=m*b:=Int.mul_le_mul_of_nonpos_right n z;rw[<-h] at h1 h2;constructor
  ·exact Qap h2 hd
  ·apply xH;intro hc;have:0<d*a:=UN hd L;lia
theorem Xu{p q r:Pt}(h:xL p q r=0)(n:XP p<XP q)(h1:XP p<=XP r)(h2:XP r<=XP q):Up p q r=true:=by
 have z:=JK p q r;rw[h,Qbe]at z
 have B:(XP q-XP p)*(YP r-YP p)=(XP r-XP p)*(YP q-YP p):=by grind
 have ex:(XP q-XP p)*((r.x:Int)-p.x)=(XP r-XP p)*((q.x:Int)-p.x):=by
  have F:1048576*((XP q-XP p)*((r.x:Int)-p.x))=(XP q-XP p)*((XP r-XP p)-(YP r-YP p)):=by unfold XP YP;grind
  have G:1048576*((XP r-XP p)*((q.x:Int)-p.x))=(XP r-XP p)*((XP q-XP p)-(YP q-YP p)):=by unfold XP YP;grind
  grind
 have j:=qS L L L B;have I:=qS L L L ex;unfold Up Vt;unfold YP at j;grind
theorem a9.iX(F:a9 S){e:Nat×Nat} (j:e∈(dr S).E) (hk:k<S.pts.length) (h1:k≠e.1) (h2:k≠e.2) :
  Up (S.pt e.1) (S.pt e.2) (S.pt k)=false:=by
 obtain⟨l,hl,rfl⟩:=List.mem_map.1 j;rcases F.bH hl with⟨a,b⟩|⟨a,b⟩
 ·rw[b]at h1 h2 ⊢;exact F.on l hl k hk h1 h2
 ·rw[b]at h1 h2 ⊢;rw[qF];exact F.on l hl k hk h2 h1
theorem Xv(p q r s:Pt):GZ q p r s=GZ p q r s:=by unfold GZ;rw[Yc p q r,Yc p q s,Int.neg_mul_neg,Int.mul_comm (xL r s q)]
theorem a9.mG(F:a9 S){e f:Nat×Nat} (B:e∈(dr S).E) (hf:f∈(dr S).E) (j:e≠f) :
  GZ (S.pt e.1) (S.pt e.2) (S.pt f.1) (S.pt f.2)=false:=by
 obtain⟨l,hl,rfl⟩:=List.mem_map.1 B;obtain⟨m,z,rfl⟩:=List.mem_map.1 hf;have n:l≠m:=fun e=>j (by rw[e]);have:=F.cross l hl m z n;rcases F.bH hl with⟨_,b⟩|⟨_,b⟩<;>rcases F.bH z with⟨_,d⟩|⟨_,d⟩<;>rw[b,d]
 ·exact this
 ·rw[ZZ,Xv,ZZ];exact this
 ·rw[Xv];exact this
 ·rw[Xv,ZZ,Xv,ZZ];exact this
theorem Yw{α β:Type}{f:α->β}:∀{l:List α},(∀a∈l,∀b∈l,f a=f b->a=b)->l.Nodup->(l.map f).Nodup
 |[],_,_=>by simp
 | a::l,h,hn=>by
  rw[UZ]at hn;rw[xT,UZ];refine⟨?_,Yw (fun x n y z=>h x (by simp[n]) y (by simp[z])) hn.2⟩;intro B;obtain⟨b,j,e⟩:=List.mem_map.1 B;have:=h b (by simp[j]) a We e;subst this;exact hn.1 j
theorem mn{A B p q:Int}(n:p<q)(h1:A+B*p<0)(h2:0<A+B*q):(∀t,t<=p->A+B*t<0)/\(∀t,q<=t->0<A+B*t):=by
 have z:0<B:=by apply xH;intro hc;have:B*q<=B*p:=Int.mul_le_mul_of_nonpos_left L L;lia
 constructor
 ·intro t j;have:B*t<=B*p:=Vf j L;lia
 ·intro t j;have:B*q<=B*t:=Vf j L;lia
theorem uu{A B p q:Int}(j:p<q)(h1:A+B*p=0)(h2:A+B*q=0)(t:Int):A+B*t=0:=by
 have n:B=0:=by
  have:B*(q-p)=0:=by rw[Int.mul_sub];lia
  rcases Int.mul_eq_zero.1 this with h|h;all_goals lia
 subst n;lia
theorem kJ{p q r s:Pt}(h1:xL r s p<0)(h2:0<xL r s q)(j:0<xL p q r)(n:xL p q s<0):GZ p q r s=true:=by unfold GZ;simp only[Gf,Wp];exact⟨Gu j n,Ua h1 h2⟩
theorem gH{p q r s:Pt}(h1:0<xL r s p)(h2:xL r s q<0)(j:xL p q r<0)(n:0<xL p q s):GZ p q r s=true:=by unfold GZ;simp only[Gf,Wp];exact⟨Ua j n,Gu h1 h2⟩
theorem a9.eU(F:a9 S){e:Nat×Nat} (j:e∈(dr S).E):(dr S).D*(dr S).Y e.2=(dr S).D*(dr S).Y e.1+(dr S).s e*((dr S).X e.2-(dr S).X e.1):=by obtain⟨h1,_⟩:=F.Ea j;show(dr S).D*YP (S.pt e.2)=(dr S).D*YP (S.pt e.1)+(YP (S.pt e.2)-YP (S.pt e.1))*((dr S).D/(XP (S.pt e.2)-XP (S.pt e.1)))*(XP (S.pt e.2)-XP (S.pt e.1));grind
theorem a9.F0(F:a9 S){e:Nat×Nat} (j:e∈(dr S).E):(dr S).h e (2*XP (S.pt e.2))=2*((dr S).D*YP (S.pt e.2)):=by have:=F.eU j;have n:(dr S).X e.2=XP (S.pt e.2):=rfl;have z:(dr S).Y e.2=YP (S.pt e.2):=rfl;rw[<-n,<-z];unfold Dr.h;grind
theorem a9.uF(e:Nat×Nat):(dr S).h e (2*XP (S.pt e.1))=2*((dr S).D*YP (S.pt e.1)):=(dr S).sP e
theorem nZ{A B x1 j y1 n:Int}(O:max x1 y1<min j n)
  (c1:¬(A+B*(2*x1)<0/\0<A+B*(2*j)/\A+B*(2*y1)<0/\0<A+B*(2*n)))
  (c2:¬(0<A+B*(2*x1)/\A+B*(2*j)<0/\0<A+B*(2*y1)/\A+B*(2*n)<0))
  (M:¬(A+B*(2*x1)=0/\A+B*(2*j)=0/\A+B*(2*y1)=0/\A+B*(2*n)=0)) :
  ((A+B*(2*max x1 y1)<=0/\A+B*(2*min j n)<=0/\(A+B*(2*max x1 y1)<0\/A+B*(2*min j n)<0))\/
   (0<=A+B*(2*max x1 y1)/\0<=A+B*(2*min j n)/\(0<A+B*(2*max x1 y1)\/0<A+B*(2*min j n)))):=by
 generalize ha:max x1 y1=a at *;generalize hb:min j n=b at *;apply xH;intro z
 have XU:(A+B*(2*a)<0/\0<A+B*(2*b))\/(0<A+B*(2*a)/\A+B*(2*b)<0)\/(A+B*(2*a)=0/\A+B*(2*b)=0):=by clear c1 c2 M;generalize A+B*(2*a)=u at *;generalize A+B*(2*b)=v at *;lia
 clear z;rcases XU with⟨I,J⟩|⟨I,J⟩|⟨I,J⟩
 ·obtain⟨F,G⟩:=mn L I J;exact c1 ⟨F _ L,G _ L,F _ L,G _ L⟩
 ·have U:(-A)+(-B)*(2*a)<0:=by rw[Qae];lia
  have n2:0<(-A)+(-B)*(2*b):=by rw[Qae];lia
  obtain⟨F,G⟩:=mn L U n2;have r1:=F (2*x1) L;have r2:=G (2*j) L;have r3:=F (2*y1) L;have r4:=G (2*n) L;rw[Qae]at r1 r2 r3 r4;exact c2 ⟨by lia,by lia,by lia,by lia⟩
 ·have o:=uu L I J;exact M ⟨o _,o _,o _,o _⟩
theorem a9.ej(F:a9 S){e f:Nat×Nat} (hf:f∈(dr S).E) (k:Nat) (hk:(dr S).h e (2*XP (S.pt k))=2*((dr S).D*YP (S.pt k))) :
  ((dr S).h e 0-(dr S).h f 0+((dr S).s e-(dr S).s f)*(2*XP (S.pt k))<0↔xL (S.pt f.1) (S.pt f.2) (S.pt k)<0)/\
  ((dr S).h e 0-(dr S).h f 0+((dr S).s e-(dr S).s f)*(2*XP (S.pt k))=0↔xL (S.pt f.1) (S.pt f.2) (S.pt k)=0)/\
  (0<(dr S).h e 0-(dr S).h f 0+((dr S).s e-(dr S).s f)*(2*XP (S.pt k))↔0<xL (S.pt f.1) (S.pt f.2) (S.pt k)):=by
 have s:=F.de hf (S.pt k);have d:=(dr S).dn e f (2*XP (S.pt k));rw[<-d,hk];lia
theorem a9.eo(F:a9 S){e f:Nat×Nat} (j:e∈(dr S).E) (k:Nat) (hk:(dr S).h f (2*XP (S.pt k))=2*((dr S).D*YP (S.pt k))) :
  ((dr S).h e 0-(dr S).h f 0+((dr S).s e-(dr S).s f)*(2*XP (S.pt k))<0↔0<xL (S.pt e.1) (S.pt e.2) (S.pt k))/\
  ((dr S).h e 0-(dr S).h f 0+((dr S).s e-(dr S).s f)*(2*XP (S.pt k))=0↔xL (S.pt e.1) (S.pt e.2) (S.pt k)=0)/\
  (0<(dr S).h e 0-(dr S).h f 0+((dr S).s e-(dr S).s f)*(2*XP (S.pt k))↔xL (S.pt e.1) (S.pt e.2) (S.pt k)<0):=by
 have s:=F.de j (S.pt k);have d:=(dr S).dn e f (2*XP (S.pt k));rw[<-d,hk];lia
theorem a9.fP(F:a9 S){e f:Nat×Nat} (z:e∈(dr S).E) (hf:f∈(dr S).E) (G:e≠f)
  (U:max ((dr S).X e.1) ((dr S).X f.1)<min ((dr S).X e.2) ((dr S).X f.2)):(dr S).below e f\/(dr S).below f e:=by
 have aa:=F.bT z;have ab:=F.bT hf;have ac:=F.dY z;have ad:=F.dY hf;have k1:=F.ej (e:=e) hf e.1 (a9.uF e);have k2:=F.ej (e:=e) hf e.2 (F.F0 z);have k3:=F.eo (f:=f) z f.1 (a9.uF f);have k4:=F.eo (f:=f) z f.2 (F.F0 hf);have j:max (XP (S.pt e.1)) (XP (S.pt f.1))<min (XP (S.pt e.2)) (XP (S.pt f.2)):=U
 have ah:=nZ (A:=(dr S).h e 0-(dr S).h f 0) (B:=(dr S).s e-(dr S).s f) j (by
   rintro⟨I,J,M,O⟩;have:=kJ (p:=S.pt e.1) (q:=S.pt e.2) (r:=S.pt f.1) (s:=S.pt f.2) (k1.1.1 I) (k2.2.2.1 J) (k3.1.1 M) (k4.2.2.1 O);rw[F.mG z hf G]at this;cases this) (by
   rintro⟨I,J,M,O⟩;have:=gH (p:=S.pt e.1) (q:=S.pt e.2) (r:=S.pt f.1) (s:=S.pt f.2) (k1.2.2.1 I) (k2.1.1 J) (k3.2.2.1 M) (k4.1.1 O);rw[F.mG z hf G]at this;cases this) (by
   rintro⟨I,J,M,O⟩;have t1:=k1.2.1.1 I;have t2:=k2.2.1.1 J;have t3:=k3.2.1.1 M;have t4:=k4.2.1.1 O;clear k1 k2 k3 k4 I J M O U
   have left:e.1=f.1:=by
    by_cases q:XP (S.pt e.1)<=XP (S.pt f.1)
    ·have on:=Xu t3 aa q L;apply xH;intro hc;have n:f.1≠e.2:=by intro h;rw[h] at j;lia
     rw[F.iX z ad.1 (fun h=>hc h.symm) n]at on;cases on
    ·have on:=Xu t1 ab L L;apply xH;intro hc;have n:e.1≠f.2:=by intro h;rw[h] at j;lia
     rw[F.iX hf ac.1 hc n]at on;cases on
   have right:e.2=f.2:=by
    by_cases q:XP (S.pt f.2)<=XP (S.pt e.2)
    ·have on:=Xu t4 aa L q;apply xH;intro hc;have n:f.2≠e.1:=by intro h;rw[h] at j;lia
     rw[F.iX z ad.2 n (fun h=>hc h.symm)]at on;cases on
    ·have on:=Xu t2 ab L L;apply xH;intro hc;have n:e.2≠f.1:=by intro h;rw[h] at j;lia
     rw[F.iX hf ac.2 n hc]at on;cases on
   exact G (Prod.ext left right))
 clear k1 k2 k3 k4;have ea:max ((dr S).X e.1) ((dr S).X f.1)=max (XP (S.pt e.1)) (XP (S.pt f.1)):=rfl;have eb:min ((dr S).X e.2) ((dr S).X f.2)=min (XP (S.pt e.2)) (XP (S.pt f.2)):=rfl;have af:max ((dr S).X f.1) ((dr S).X e.1)=max (XP (S.pt e.1)) (XP (S.pt f.1)):=Int.max_comm _ _;have ag:min ((dr S).X f.2) ((dr S).X e.2)=min (XP (S.pt e.2)) (XP (S.pt f.2)):=Int.min_comm _ _;unfold Dr.below;rw[ea,eb,af,ag];generalize max (XP (S.pt e.1)) (XP (S.pt f.1))=a at *;generalize min (XP (S.pt e.2)) (XP (S.pt f.2))=b at *;have da:=(dr S).dn e f (2*a);have db:=(dr S).dn e f (2*b);lia
theorem a9.ok(F:a9 S):(dr S).Ok where
 kX:=F.kX
 nodup:=by
  apply Yw _ F.nodup;intro a B b G e;have J:=F.lines a B;have M:=F.lines b G;rcases F.bH B with⟨_,p⟩|⟨_,p⟩<;>rcases F.bH G with⟨_,q⟩|⟨_,q⟩<;>rw[p,q]at e
  ·exact e
  ·lia
  ·lia
  ·lia
 left:=fun e j=>F.bT j
 slope:=fun e j=>F.eU j
 inj:=fun e j f hf=>by
  have a:=F.dY j;have b:=F.dY hf;exact⟨fun h=>F.mu a.1 b.1 h,fun h=>F.mu a.1 b.2 h,fun h=>F.mu a.2 b.2 h⟩
 cross:=fun e j f hf n z=>F.fP j hf n z
 clear:=fun e j f hf=>by
  have a:=F.bT j;have b:=F.dY hf
  have key:∀k,k<S.pts.length->XP (S.pt e.1)<XP (S.pt k)->XP (S.pt k)<XP (S.pt e.2)->(dr S).h e (2*XP (S.pt k))≠2*((dr S).D*YP (S.pt k)):=by intro k hk h1 h2 I;have t:=(F.de j (S.pt k)).2.1.2 I;have on:=Xu t a L L;rw[F.iX j hk (by intro h;rw[h]at h1;lia) (by intro h;rw[h]at h2;lia)]at on;cases on
  exact⟨fun h1 h2=>key f.1 b.1 h1 h2,fun h1 h2=>key f.2 b.2 h1 h2⟩
theorem a9.dE(F:a9 S){d:Nat×Nat}:(dr S).aZ d↔d∈S.lines\/(d.2,d.1)∈S.lines:=by
 unfold Dr.aZ;show d∈S.lines.map (dX S)\/(d.2,d.1)∈S.lines.map (dX S)↔_;constructor
 ·rintro (h | h)
  ·obtain⟨l,hl,e⟩:=List.mem_map.1 h;rcases F.bH hl with⟨_,p⟩|⟨_,p⟩<;>rw[p]at e;all_goals lia
  ·obtain⟨l,hl,e⟩:=List.mem_map.1 h;rcases F.bH hl with⟨_,p⟩|⟨_,p⟩<;>rw[p]at e;all_goals lia
 ·have key:∀l∈S.lines,l∈S.lines.map (dX S)\/(l.2,l.1)∈S.lines.map (dX S):=by
   intro l hl;rcases F.bH hl with⟨_,p⟩|⟨_,p⟩
   ·grind
   ·grind
  grind
theorem a9.cj(F:a9 S){v c:Nat}:c∈S.near v↔(dr S).aZ (v,c):=by rw[F.dE];unfold Plan.near;grind
theorem a9.cS(F:a9 S){v c:Nat} (h:(dr S).aZ (v,c)) :
  (dr S).D*(YP (S.pt c)-YP (S.pt v))=((dr S).ky v c).2*(XP (S.pt c)-XP (S.pt v))/\XP (S.pt c)≠XP (S.pt v)/\((dr S).ky v c).1=decide (XP (S.pt v)<XP (S.pt c)):=by
 have O:=F.ok;rcases h with h|h
 ·have hl:=F.bT h;simp only at hl;have:=F.eU h;rw[O.cn h];refine⟨?_,by lia,by simp[hl]⟩;have e:(dr S).D*YP (S.pt c)=(dr S).D*YP (S.pt v)+(dr S).s (v,c)*(XP (S.pt c)-XP (S.pt v)):=this;grind
 ·have h:(c,v)∈(dr S).E:=h;have hl:=F.bT h;simp only at hl;have:=F.eU h;rw[O.cF h];refine⟨?_,by lia,by simp;lia⟩;have e:(dr S).D*YP (S.pt v)=(dr S).D*YP (S.pt c)+(dr S).s (c,v)*(XP (S.pt v)-XP (S.pt c)):=this;grind
theorem gQ{k m x y:Int}(hk:0<k)(h:k*x=m*y):(0<m->(0<x↔0<y)/\(x<0↔y<0))/\(m<0->(0<x↔y<0)/\(x<0↔0<y)):=by
 have a:=Yg (x:=x) hk rfl;constructor
 ·intro j;have b:=Yg (x:=y) j rfl;rw[h]at a;lia
 ·intro j;have b:=Yg (c:=-m) (x:=y) L rfl;rw[Qae]at b;rw[h]at a;lia
theorem a9.cG(F:a9 S){v a b:Nat} (z:(dr S).aZ (v,a)) (B:(dr S).aZ (v,b)) :
  (((xI S v a).1*(xI S v b).2-(xI S v a).2*(xI S v b).1<0↔cr ((dr S).ky v a) ((dr S).ky v b)<0)/\
  (0<(xI S v a).1*(xI S v b).2-(xI S v a).2*(xI S v b).1↔0<cr ((dr S).ky v a) ((dr S).ky v b))):=by
 obtain⟨sa,G,I⟩:=F.cS z;obtain⟨J,nb,M⟩:=F.cS B;have dp:=F.kX
 have key:((dr S).D*1048576)*((xI S v a).1*(xI S v b).2-(xI S v a).2*(xI S v b).1) =
   ((XP (S.pt a)-XP (S.pt v))*(XP (S.pt b)-XP (S.pt v)))*(((dr S).ky v b).2-((dr S).ky v a).2):=by
  have O:1048576*((xI S v a).1*(xI S v b).2-(xI S v a).2*(xI S v b).1) =
    (XP (S.pt a)-XP (S.pt v))*(YP (S.pt b)-YP (S.pt v))-(YP (S.pt a)-YP (S.pt v))*(XP (S.pt b)-XP (S.pt v)):=by
   unfold xI GD GE XP YP;grind
  rw[Qbt,O,Int.mul_sub,Qat,J,<-Qbt (dr S).D,sa];grind
 have t:=gQ (k:=(dr S).D*1048576) L key;unfold cr;rw[I,M];rcases Vk G with q|q<;>rcases Vk nb with r|r
 ·have m:=Int.mul_pos_of_neg_of_neg (a:=XP (S.pt a)-XP (S.pt v)) (b:=XP (S.pt b)-XP (S.pt v)) L L;have j:¬ XP (S.pt v)<XP (S.pt a):=by lia
  have n:¬XP (S.pt v)<XP (S.pt b):=by lia
  simp only[j,n,decide_false,Wq];have:=t.1 m;lia
 ·have m:=Ua (a:=XP (S.pt a)-XP (S.pt v)) (b:=XP (S.pt b)-XP (S.pt v)) L L;have j:¬ XP (S.pt v)<XP (S.pt a):=by lia
  have n:XP (S.pt v)<XP (S.pt b):=by lia
  simp only[j,n,decide_false,decide_true,G6,Wr];have:=t.2 m;lia
 ·have m:=Gu (a:=XP (S.pt a)-XP (S.pt v)) (b:=XP (S.pt b)-XP (S.pt v)) L L;have j:XP (S.pt v)<XP (S.pt a):=by lia
  have n:¬XP (S.pt v)<XP (S.pt b):=by lia
  simp only[j,n,decide_false,decide_true,Bool.true_eq_false,Wr];have:=t.2 m;lia
 ·have m:=UN (a:=XP (S.pt a)-XP (S.pt v)) (b:=XP (S.pt b)-XP (S.pt v)) L L;have j:XP (S.pt v)<XP (S.pt a):=by lia
  have n:XP (S.pt v)<XP (S.pt b):=by lia
  simp only[j,n,decide_true,Wq];have:=t.1 m;lia
theorem a9.tV(F:a9 S){v a b:Nat} (j:(dr S).aZ (v,a)) (n:(dr S).aZ (v,b))
  (h0:(xI S v a).1*(xI S v b).2-(xI S v a).2*(xI S v b).1=0) :
  ((xI S v a).1*(xI S v b).1+(xI S v a).2*(xI S v b).2<0↔((dr S).ky v a).1≠((dr S).ky v b).1):=by
 obtain⟨sa,z,B⟩:=F.cS j;obtain⟨M,nb,G⟩:=F.cS n;rw[B,G]
 have O:XP (S.pt a)-XP (S.pt v)=1048576*(xI S v a).1+(xI S v a).2:=by unfold xI GD GE XP;grind
 have U:XP (S.pt b)-XP (S.pt v)=1048576*(xI S v b).1+(xI S v b).2:=by unfold xI GD GE XP;grind
 generalize (xI S v a).1=p at *;generalize (xI S v a).2=q at *;generalize (xI S v b).1=r at *;generalize (xI S v b).2=s at *
 have key:(XP (S.pt a)-XP (S.pt v))*(p*r+q*s)=(p*p+q*q)*(XP (S.pt b)-XP (S.pt v)):=by grind
 have pos:0<p*p+q*q:=by
  have h1:0<=p*p:=by
   rcases Qbd 0 p with h|h
   ·exact UC h h
   ·exact GB h h
  have h2:0<=q*q:=by
   rcases Qbd 0 q with h|h
   ·exact UC h h
   ·exact GB h h
  apply xH;intro hc;have I:p*p=0:=by omega
  have J:q*q=0:=by omega
  have p0:p=0:=by rcases Int.mul_eq_zero.1 I with h|h<;>exact h
  have q0:q=0:=by rcases Int.mul_eq_zero.1 J with h|h<;>exact h
  lia
 have t:=gQ (k:=p*p+q*q) (m:=XP (S.pt a)-XP (S.pt v)) (x:=XP (S.pt b)-XP (S.pt v)) (y:=p*r+q*s) pos key.symm;rcases Vk z with u|u
 ·lia
 ·lia
theorem a9.lu(F:a9 S){v a b:Nat} (j:(dr S).aZ (v,a)) (n:(dr S).aZ (v,b)) :
  (Vn (xI S v a) (xI S v b):Int)=hf ((dr S).ky v a) ((dr S).ky v b):=by
 have c:=F.cG j n;have d:=F.tV j n;unfold Vn hf;lia
theorem a9.dq(F:a9 S){v u a b:Nat} (j:(dr S).aZ (v,u)) (n:(dr S).aZ (v,a)) (z:(dr S).aZ (v,b)) :
  Vl (xI S v u) (xI S v a) (xI S v b)=true↔sn ((dr S).ky v u) ((dr S).ky v a) ((dr S).ky v b):=by
 have h1:=F.lu j n;have h2:=F.lu j z;have c:=(F.cG n z).1;unfold Vl sn;lia
theorem jG{r a:Bool×Int}:¬sn r a a:=by
 unfold sn;have:cr a a=0:=by unfold cr;simp
 lia
theorem a9.eO(F:a9 S){u v:Nat} (h:(dr S).aZ (u,v)):(dr S).dQ u v (S.next u v):=by
 have B:(dr S).aZ (v,u):=h.rev;have j:u∈S.near v:=F.cj.2 B;unfold Plan.next
 have gen:∀(r:List Nat)(k:Nat)(seen:List Nat),(∀c∈r,(dr S).aZ (v,c))->(dr S).aZ (v,k)->(∀c∈seen,(dr S).aZ (v,c)/\¬sn ((dr S).ky v u) ((dr S).ky v c) ((dr S).ky v k))->
   (dr S).aZ (v,r.foldl (fun(a b:Nat)=>if Vl (xI S v u) (xI S v b) (xI S v a)=true then b else a) k)/\
   ∀c,c∈r\/c∈seen->¬sn ((dr S).ky v u) ((dr S).ky v c) ((dr S).ky v (r.foldl (fun(a b:Nat)=>if Vl (xI S v u) (xI S v b) (xI S v a)=true then b else a) k)):=by
  intro r;induction r with
  | nil=>
   intro k seen _ hk G;refine⟨hk,?_⟩;rintro c (hc|hc)
   ·simp at hc
   ·grind
  | cons b r J=>
   intro k seen hr hk G;have z:=hr b We;have n:∀c∈r,(dr S).aZ (v,c):=fun c hc=>hr c (by simp[hc]);rw[UE];by_cases q:Vl (xI S v u) (xI S v b) (xI S v k)=true
   ·rw[Wi q];have M:=(F.dq B z hk).1 q
    have:=J b (b::seen) n z (fun c hc=>by
     rcases List.mem_cons.1 hc with rfl|hc
     ·exact⟨z,jG⟩
     ·exact⟨(G c hc).1,fun h=>(G c hc).2 (fb h M)⟩)
    grind
   ·rw[Wh q];have M:¬ sn ((dr S).ky v u) ((dr S).ky v b) ((dr S).ky v k):=fun h=>q ((F.dq B z hk).2 h)
    have:=J k (b::seen) n hk (fun c hc=>by
     grind)
    grind
 cases I:S.near v with
 |nil=>rw[I]at j;simp at j
 | cons k r=>
  simp only;have all:∀c∈k::r,(dr S).aZ (v,c):=fun c hc=>F.cj.1 (by rw[I];exact hc)
  have:=gen r k [k] (fun c hc=>all c (by simp[hc])) (all k We) (fun c hc=>by
   rcases List.mem_cons.1 hc with rfl|hc
   ·exact⟨all _ We,jG⟩
   grind)
  refine⟨this.1,?_⟩;intro c hc;apply this.2;have:=F.cj.2 hc;rw[I]at this;rcases List.mem_cons.1 this with rfl|h
  ·right;simp
  ·left;exact h
def cW(S:Plan)(d:Dt):Dt:=(d.2,S.next d.1 d.2)
theorem a9.eD(F:a9 S):(dr S).dU (cW S) where
 fst:=fun _ _=>rfl
 next:=fun _ h=>F.eO h
theorem Zy(a:Array Bool)(i j:Nat)(b d:Bool):(a.setIfInBounds i b).getD j d=if i=j/\i<a.size then b else a.getD j d:=by simp only[x9,Array.getElem?_setIfInBounds];grind
def XE(a:List Nat×Array Bool)(j:Nat):List Nat×Array Bool:=if a.2.getD j true=true then a else(j::a.1,a.2.setIfInBounds j true)
theorem cZ (near:Array (List Nat)) (n k:Nat) (r:List Nat) (seen:Array Bool) :
  Uu near (n+1) (k::r) seen=Uu near n ((near.getD k []).foldl XE (r,seen)).1 ((near.getD k []).foldl XE (r,seen)).2:=rfl
structure oO(T:Nat->Prop)(v:Nat)(a:List Nat×Array Bool):Prop where
 bar:a.2.getD v true=true
 todo:∀k∈a.1,T k
 seen:∀j,a.2.getD j false=true->j=v\/T j
theorem n8{T:Nat->Prop}{v:Nat}{a:List Nat×Array Bool}(h:oO T v a){j:Nat}(z:j≠v->T j):oO T v (XE a j):=by
 unfold XE;by_cases q:a.2.getD j true=true
 ·lia
 ·rw[Wh q];have n:j≠v:=by intro e;subst e;exact q h.bar
  refine⟨?_,?_,?_⟩
  ·show(a.2.setIfInBounds j true).getD v true=true;rw[Zy,Wh (by simp[n])];exact h.bar
  ·intro k hk;rcases List.mem_cons.1 hk with rfl | hk
   ·exact z n
   ·exact h.todo k hk
  ·intro i hi;have hi:(a.2.setIfInBounds j true).getD i false=true:=hi;rw[Zy] at hi;by_cases c:j=i/\j<a.2.size
   ·lia
   ·rw[Wh c]at hi;exact h.seen i hi
theorem yW{T:Nat->Prop}{v:Nat}:∀(l:List Nat) {a:List Nat×Array Bool},oO T v a->(∀j∈l,j≠v->T j)->oO T v (l.foldl XE a)
 |[],_,h,_=>h
 | j::l,_,h,hl=>by
  rw[UE];exact yW l (n8 h (hl j We)) (fun i hi=>hl i (by simp[hi]))
theorem JM {near:Array (List Nat)} {T:Nat->Prop} {v:Nat} (B:∀k,T k->∀j∈near.getD k [],j≠v->T j) :
  ∀(n:Nat)(todo:List Nat)(seen:Array Bool),oO T v (todo,seen)->∀j,(Uu near n todo seen).getD j false=true->j=v\/T j
 |0,_,_,h,j,z=>h.seen j z
 |n+1,[],_,h,j,z=>h.seen j z
 | n+1,k::r,seen,h,j,z=>by
  rw[cZ]at z;have hr:oO T v (r,seen):=⟨h.bar,fun x F=>h.todo x (by simp[F]),h.seen⟩;have:=yW (near.getD k []) hr (B k (h.todo k We));exact JM B n _ _ this j z
theorem kD(a:List Nat×Array Bool)(j:Nat):(XE a j).2.size=a.2.size:=by unfold XE;grind
theorem zN:∀(l:List Nat)(a:List Nat×Array Bool),(l.foldl XE a).2.size=a.2.size
 |[],_=>rfl
 |j::l,a=>by rw[UE,zN l,kD]
theorem qN (near:Array (List Nat)):∀(n:Nat)(todo:List Nat)(seen:Array Bool),(Uu near n todo seen).size=seen.size
 |0,_,_=>rfl
 |n+1,[],_=>rfl
 |n+1,k::r,seen=>by rw[cZ,qN near n,zN]
theorem dv(S:Plan)(k:Nat):S.nears.getD k []=if k<S.pts.length then S.near k else []:=by
 unfold Plan.nears;by_cases h:k<S.pts.length
 ·rw[Wi h];simp[x9,h]
 ·rw[Wh h];simp[x9,h]
theorem a9.cA(F:a9 S) (h:(dr S).aZ d):d.1<S.pts.length/\d.2<S.pts.length:=by
 rcases h with h|h
 ·exact F.dY h
 ·exact(F.dY h).symm
theorem a9.conn(F:a9 S)
  (I:(xN S.pts.length).find? (fun(i:Nat)=>!((Vm S.nears S.pts.length 0 (Gh S.pts.length)).getD i false))=none):(dr S).oZ:=by
 intro Q d e hd M z O;have B:∀x,(dr S).aZ x->(Q x.1↔Q x.2):=fun x J=>⟨z x J,z (x.2,x.1) J.rev⟩
 have all:∀i,i<S.pts.length->(Q i↔Q 0):=by
  intro i hi;rw[Uz]at I;have:=I i (List.mem_range.2 hi);simp only[Bool.not_eq_true,Bool.not_eq_false']at this;unfold Vm at this
  have G:=JM (near:=S.nears) (T:=fun w=>(Q w↔Q 0)) (v:=S.pts.length) (fun k hk j n _=>by
   rw[dv]at n;by_cases q:k<S.pts.length
   ·rw[Wi q]at n;have:=B (k,j) (F.cj.1 n);lia
   ·rw[Wh q] at n;simp at n) _ _ _ ⟨by
    show(VB _ _ _).getD _ _=_;rw[Zy];simp[Gh,x9],by simp,by
    intro j n;have n:(VB (Gh S.pts.length) 0 true).getD j false=true:=n;rw[Zy]at n;by_cases c:0=j/\0<(Gh S.pts.length).size
    ·right;rw[<-c.1]
    ·rw[Wh c]at n;simp[Gh,x9,Qaz]at n;split at n<;>simp at n⟩ i this
  rcases G with h|h
  ·lia
  ·exact h
 have h1:=all d.1 (F.cA hd).1;have h2:=all e.1 (F.cA M).1;exact h2.2 (h1.1 O)
theorem a9.uB(F:a9 S){v:Nat}(hv:v<S.pts.length)(hn:2<=S.pts.length)(z:VY S.nears S.pts.length v=false):(dr S).lK v:=by
 intro Q d e hd he nd ne B hQ;have G:∀x,(dr S).aZ x->x.1≠v->x.2≠v->(Q x.1↔Q x.2):=fun x hx h1 h2=>⟨B x hx h1 h2,B (x.2,x.1) hx.rev h2 h1⟩;unfold VY at z;generalize J:(if v=0 then 1 else 0)=st at z;have I:st≠v:=by rw[<-J];by_cases q:v=0<;>simp[q]<;>lia
 have all:∀i,i<S.pts.length->i≠v->(Q i↔Q st):=by
  intro i hi M;unfold Vm at z
  have sz:(Uu S.nears (S.pts.length+1) [st] (((Gh S.pts.length).setIfInBounds v true).setIfInBounds st true)).size=S.pts.length:=by rw[qN];simp[Gh]
  have O:(Uu S.nears (S.pts.length+1) [st] (((Gh S.pts.length).setIfInBounds v true).setIfInBounds st true)).getD i false=true:=by
   generalize Uu S.nears (S.pts.length+1) [st] (((Gh S.pts.length).setIfInBounds v true).setIfInBounds st true)=A at *
   have:¬false∈A:=by grind
   rw[x9,GV L];grind
  have U:=JM (near:=S.nears) (T:=fun w=>w≠v/\(Q w↔Q st)) (v:=v) (fun k hk j n aa=>by
   rw[dv]at n;by_cases q:k<S.pts.length
   ·rw[Wi q]at n;have:=G (k,j) (F.cj.1 n) hk.1 aa;lia
   ·rw[Wh q] at n;simp at n) _ _ _ ⟨by
    show(VB _ _ _).getD _ _=_;rw[Zy];by_cases c:st=v/\st<((Gh S.pts.length).setIfInBounds v true).size
    ·rw[Wi c]
    ·rw[Wh c,Zy,Wi ⟨Z,by simpa [Gh] using hv⟩],by
    intro k hk;simp only[GW]at hk;subst hk;exact⟨I,Iff.rfl⟩,by
    intro j n;have n:(VB ((Gh S.pts.length).setIfInBounds v true) st true).getD j false=true:=n;rw[Zy]at n;by_cases c:st=j/\st<((Gh S.pts.length).setIfInBounds v true).size
    ·right;rw[<-c.1];exact⟨I,Iff.rfl⟩
    ·rw[Wh c,Zy] at n;by_cases c2:v=j/\v<(Gh S.pts.length).size
     ·left;exact c2.1.symm
     ·rw[Wh c2]at n;simp[Gh,x9,Qaz]at n;split at n<;>simp at n⟩ i O
  rcases U with h|h
  ·exact Wm h M
  ·exact h.2
 have h1:=all d.1 (F.cA hd).1 nd;have h2:=all e.1 (F.cA he).1 ne;exact h2.2 (h1.1 hQ)
theorem a9.tG{S:Plan}(F:a9 S){m:Dt} (j:m∈(dr S).E) {t:Int} (n:(dr S).act m t):0<=(dr S).h m (2*t+1):=by
 have hl:=F.bT j;have I:=a9.uF (S:=S) m;have J:=F.F0 j;have dp:=F.kX;have y1:0<=(dr S).D*YP (S.pt m.1):=UC L (by unfold YP;lia);have M:0<=(dr S).D*YP (S.pt m.2):=UC L (by unfold YP;lia);have cE:∀t,(dr S).h m t=(dr S).h m 0+(dr S).s m*t:=by intro t;unfold Dr.h;grind
 have O:=cE (2*XP (S.pt m.1));have U:=cE (2*XP (S.pt m.2));have a3:=cE (2*t+1);have z:XP (S.pt m.1)<=t:=n.1;have G:t<XP (S.pt m.2):=n.2
 have:=pz (A:=- (dr S).h m 0) (B:=- (dr S).s m) (p:=2*XP (S.pt m.1)) (q:=2*XP (S.pt m.2)) (t:=2*t+1) L L
  (by rw[Qae];lia) (by rw[Qae];lia)
 lia
theorem a9.dS(F:a9 S){a b:Nat} (h:(a,b)∈(dr S).E) (j:(S.pt a).y=0) (n:(S.pt b).y=0) (N:Dt->Int):(dr S).Wd N (b,a)=0:=by
 have hl:=F.bT h;simp only at hl
 have h0:∀t,(dr S).h (a,b) t=0:=by
  intro t;unfold Dr.h;show 2*((dr S).D*YP (S.pt a))+(YP (S.pt b)-YP (S.pt a))*_*_=0;have z:YP (S.pt a)=0:=by unfold YP;rw[j];rfl
  have B:YP (S.pt b)=0:=by unfold YP;rw[n];rfl
  rw[z,B];simp
 unfold Dr.Wd;rw[Wh (by show ¬XP (S.pt b)<XP (S.pt a);lia)];show(dr S).bl N (a,b) ((dr S).X a)=0;unfold Dr.bl;apply Q1;intro m G;apply Wh;rintro⟨c1,c2⟩;rw[h0]at c2;have:=F.tG G c1;lia
theorem Q9(F:a9 S){i j:Nat}(h:S.joined i j=true):(dr S).aZ (i,j):=by unfold Plan.joined at h;rw[UT]at h;rw[F.dE];lia
theorem QG{on:Pt->Bool}{i:Nat}:i∈Gm S on↔i<S.pts.length/\on (S.pt i)=true:=by unfold Gm;rw[VE,List.mem_range]
theorem a9.outer(F:a9 S)(hw:0<S.w)(G:UD S=true):∃d0:Dt,(dr S).aZ d0/\(∀N,(dr S).Wd N d0=0)/\(S.pt d0.1).y=0/\(S.pt d0.2).y=0/\(S.pt d0.2).x<(S.pt d0.1).x:=by
 unfold UD at G;simp only[Gf]at G;obtain⟨c1,c2,_,_,n,_⟩:=G;rw[UT]at c1 c2;obtain⟨i,hi,I⟩:=List.mem_iff_getElem.1 c1;obtain⟨j,U,J⟩:=List.mem_iff_getElem.1 c2;have pi:S.pt i=⟨0,0⟩:=by rw[bE hi,I]
 have M:S.pt j=⟨S.w,0⟩:=by rw[bE U,J]
 have aa:i≠j:=by intro e;subst e;rw[pi]at M;simp at M;lia
 have z:i∈Gm S (fun(p:Pt)=>p.y==0):=QG.2 ⟨hi,by rw[pi];rfl⟩;have O:j∈Gm S (fun(p:Pt)=>p.y==0):=QG.2 ⟨U,by rw[M];rfl⟩
 have all:∀k∈Gm S (fun(p:Pt)=>p.y==0),(S.pt k).y=0:=by intro k hk;have:=(QG.1 hk).2;lia
 generalize Gm S (fun(p:Pt)=>p.y==0)=l at *;match l,z,O,all,n with
 |[],z,_,_,_=>simp at z
 | [x],z,O,_,_=>
  simp at z O;lia
 | x::y::r,_,_,all,n=>
  unfold GO at n;simp only[GQ,G4,VF,UM,Gf]at n;have hd:=Q9 F n.1;have y1:=all x We;have B:=all y We;rcases hd with hd|hd
  ·refine⟨(y,x),UJ hd,fun N=>F.dS hd y1 B N,B,y1,?_⟩;have hl:=F.bT hd;unfold XP at hl;lia
  ·refine⟨(x,y),UJ hd,fun N=>F.dS hd B y1 N,y1,B,?_⟩;have hl:=F.bT hd;unfold XP at hl;lia
def rd(nx:Dt->Dt):Nat->Dt->Dt->List Dt
 |0,_,_=>[]
 |n+1,s,e=>e::(if nx e=s then [] else rd nx n s (nx e))
theorem gS(S:Plan):∀(n:Nat)(s e:Dt),S.round n s e=(rd (cW S) n s e).map (·.1)
 |0,_,_=>rfl
 | n+1,s,e=>by
  unfold Plan.round rd;show e.1::(if cW S e=s then [] else S.round n s (cW S e))=_;rw[xT];by_cases h:cW S e=s
  ·grind
  ·rw[Wh h,Wh h,gS S n]
theorem DS(p:eB nx d k):∀(j n:Nat),j<k->k<=n+j->rd nx n d (it nx j d)=(xN (k-j)).map (fun i=>it nx (j+i) d):=by
 intro j n;induction n generalizing j with
 |zero=>intro h1 h2;lia
 | succ n z=>
  intro h1 h2;unfold rd;rw[show nx (it nx j d)=it nx (j+1) d from Z];by_cases q:j+1=k
  ·rw[q,Wi p.back,show k-j=1 by lia];simp
  ·rw[Wh (p.first (j+1) L L),z (j+1) L L];rw[show k-j=(k-(j+1))+1 by lia,Qa9,xT,Vx];congr 1;apply UK;lia
theorem Ao(p:eB nx d k){n:Nat}(h:k<=n):rd nx n d d=wk nx d k:=by have:=DS p 0 n p.pos L;rw[show it nx 0 d=d from Z]at this;rw[this];unfold wk;lia
theorem bZ(nx:Dt->Dt)(d:Dt)(k i:Nat) (h:i<(wk nx d k).length):(wk nx d k)[i]=it nx i d:=by simp[wk]
theorem Az(p:eB nx d k){j:Nat}(n:j<=k):wk nx (it nx j d) k=(wk nx d k).drop j++(wk nx d k).take j:=by
 apply Qa3
 ·simp[bc];lia
 ·intro i h1 h2;rw[bc] at h1;rw[bZ,<-Z7];by_cases q:i<k-j
  ·rw[VD (by simp[bc];lia),Qar,bZ];congr 1;lia
  ·rw[UW (by simp[bc];lia),VP,bZ];simp only[Ga,bc];rw[show i+j=(i-(k-j))+k by lia,Z7,p.back]
theorem vB(p:eB nx d k) (hf:∀j,(it nx (j+1) d).1=(it nx j d).2) :
  ((wk nx d k).map (·.1)).zip (((wk nx d k).map (·.1)).drop 1++((wk nx d k).map (·.1)).take 1)=wk nx d k:=by
 have pos:=p.pos;apply Qa3
 ·grind
 ·intro i h1 h2;rw[bc] at h2;rw[List.getElem_zip,Qa4,bZ];apply Prod.ext
  ·rfl
  ·show _=(it nx i d).2;rw[<-hf];by_cases q:i<k-1
   ·rw[VD (by simp[bc];lia),Qar,Qa4,bZ];lia
   ·rw[UW (by simp[bc];lia),VP,Qa4,bZ];simp only[Ga,xB,bc];rw[show i-(k-1)=0 by lia,show i+1=k by lia,p.back];rfl
theorem jm:∀(r:List Nat)(a:Nat),(r.foldl min a=a\/r.foldl min a∈r)/\r.foldl min a<=a/\∀x∈r,r.foldl min a<=x
 |[],a=>by simp
 | b::r,a=>by
  rw[UE];obtain⟨h1,h2,j⟩:=jm r (min a b);refine⟨?_,by lia,?_⟩
  ·grind
  ·grind
def XX(l:List Nat):Nat:=match l with
 |[]=>0
 |a::r=>l.idxOf (r.foldl min a)
theorem xf(l:List Nat):Qbw l=l.drop (XX l)++l.take (XX l):=by
 cases l with
 |nil=>rfl
 |cons a r=>rfl
theorem iL{l:List Nat}(h:l≠[]):∃hi:XX l<l.length,∀x∈l,l[XX l]<=x:=by
 cases l with
 |nil=>exact Wm Z h
 | cons a r=>
  obtain⟨h1,h2,n⟩:=jm r a
  have z:r.foldl min a∈a::r:=by grind
  have hi:(a::r).idxOf (r.foldl min a)<(a::r).length:=List.idxOf_lt_length_of_mem z;refine⟨hi,?_⟩;intro x j;show(a::r)[(a::r).idxOf (r.foldl min a)]<=x;rw[List.getElem_idxOf];rcases List.mem_cons.1 j with rfl|j
  ·exact h2
  ·exact n x j
structure Good(S:Plan):Prop where
 fine:a9 S
 conn:(dr S).oZ
 uB:∀v,v<S.pts.length->(dr S).lK v
 C9:∀v,v<S.pts.length->∃x,(dr S).aZ (v,x)
 wpos:0<S.w
 nE:0<S.h
 frame:UD S=true
theorem Good.ir(G:Good S)(d:Dt):∃k,(dr S).aZ d->eB (cW S) d k/\k<=2*S.lines.length:=by
 by_cases h:(dr S).aZ d
 ·obtain⟨k,h1,h2⟩:=G.fine.ok.CM G.fine.eD h;refine⟨k,fun _=>⟨h1,?_⟩⟩;have:(dr S).E.length=S.lines.length:=by show (S.lines.map (dX S)).length=_;simp
  lia
 ·exact⟨0,fun h'=>Wm h' h⟩
noncomputable def Good.pr {S:Plan} (G:Good S) (d:Dt):Nat:=Classical.choose (G.ir d)
theorem Good.du(G:Good S) (h:(dr S).aZ d):eB (cW S) d (G.pr d):=(UU (G.ir d) h).1
theorem Good.pA(G:Good S) (h:(dr S).aZ d):G.pr d<=2*S.lines.length:=(UU (G.ir d) h).2
theorem i'{j k:Nat}(h1:eB nx d j)(h2:eB nx d k):j=k:=by
 rcases Ut j k with h|h|h
 ·exact Wm h1.back (h2.first j h1.pos h)
 ·exact h
 ·exact Wm h2.back (h1.first k h2.pos h)
theorem Ax(O:K.Ok)(R:K.dU nx)(hd:K.aZ d)(p:eB nx d k)(j:Nat):eB nx (it nx j d) k where
 pos:=p.pos
 back:=by rw[<-Z7,Vj,Z7,p.back]
 first:=fun i h0 hi e=>by
  rw[<-Z7,Vj,Z7]at e;exact p.first i h0 hi (O.kI R (R.bD hd i) hd j e)
noncomputable def Good.bG {S:Plan} (G:Good S) (d:Dt):List Dt:=wk (cW S) d (G.pr d)
noncomputable def Good.vs {S:Plan} (G:Good S) (d:Dt):List Nat:=(G.bG d).map (·.1)
theorem Good.bu(G:Good S){d x:Dt} (h:(dr S).aZ d) (n:x∈G.bG d):(dr S).aZ x:=by obtain⟨j,_,rfl⟩:=Zv.1 n;exact G.fine.eD.bD h j
theorem Good.BQ(G:Good S){d x:Dt} (h:(dr S).aZ d) (n:x∈G.bG d):G.pr x=G.pr d:=by obtain⟨j,_,rfl⟩:=Zv.1 n;exact i' (G.du (G.fine.eD.bD h j)) (Ax G.fine.ok G.fine.eD h (G.du h) j)
theorem Good.tf(G:Good S) (h:(dr S).aZ d):d∈G.bG d:=(G.du h).mem.2 ⟨0,Z⟩
theorem Good.bJ(G:Good S){d x y:Dt} (h:(dr S).aZ d) (n:x∈G.bG d) (z:y∈G.bG x):y∈G.bG d:=by obtain⟨i,_,rfl⟩:=Zv.1 n;obtain⟨j,_,rfl⟩:=Zv.1 z;exact(G.du h).mem.2 ⟨j+i,by rw[Z7]⟩
theorem Good.cg(G:Good S){d x:Dt} (h:(dr S).aZ d) (j:x∈G.bG d):d∈G.bG x:=by obtain⟨i,hi,rfl⟩:=Zv.1 j;refine(G.du (G.fine.eD.bD h i)).mem.2 ⟨G.pr d-i,?_⟩;rw[<-Z7,show G.pr d-i+i=G.pr d by lia,(G.du h).back]
theorem Good.Bp(G:Good S){d x y:Dt} (h:(dr S).aZ d) (B:x∈G.bG d) (F:y∈G.bG d) (e:x.1=y.1):x=y:=by
 have n:=G.bu h B;have z:y∈G.bG x:=G.bJ n (G.cg h B) F;obtain⟨j,I,rfl⟩:=Zv.1 z;by_cases q:j=0
 ·subst q;rfl
 ·exfalso;exact G.fine.ok.once G.fine.eD n (G.uB _ (G.fine.cA n).1) (G.du n) L I e.symm
theorem Good.Dv(G:Good S) (h:(dr S).aZ d):G.vs d≠[]:=by intro e;have:=Wn Qaq e;simp[Good.vs,Good.bG,bc]at this;have:=(G.du h).pos;lia
theorem Good.kG(G:Good S)(d:Dt)(i:Nat) (h:i<(G.vs d).length):(G.vs d)[i]=(it (cW S) i d).1:=by simp[Good.vs,Good.bG,wk]
noncomputable def Good.lead {S:Plan} (G:Good S) (d:Dt):Dt:=it (cW S) (XX (G.vs d)) d
theorem Good.bA(G:Good S) (h:(dr S).aZ d):G.lead d∈G.bG d/\(∀x∈G.bG d,(G.lead d).1<=x.1)/\Qbw (G.vs d)=G.vs (G.lead d):=by
 obtain⟨hi,n⟩:=iL (G.Dv h);have hl:XX (G.vs d)<G.pr d:=by simpa [Good.vs,Good.bG,bc] using hi
 have j:G.lead d∈G.bG d:=Zv.2 ⟨_,hl,Z⟩;refine⟨j,?_,?_⟩
 ·intro x z;have:=n x.1 (List.mem_map.2 ⟨x,z,Z⟩);have e:(G.vs d)[XX (G.vs d)]=(G.lead d).1:=G.kG d _ hi;lia
 ·rw[xf];show _=(wk (cW S) (G.lead d) (G.pr (G.lead d))).map (·.1);rw[G.BQ h j];show _=(wk (cW S) (it (cW S) (XX (G.vs d)) d) (G.pr d)).map (·.1);rw[Az (G.du h) L,Gq,V8,Vo];rfl
theorem Good.cN(G:Good S){d x:Dt} (h:(dr S).aZ d) (n:x∈G.bG d):G.lead x=G.lead d:=by have j:=G.bu h n;obtain⟨B,J,_⟩:=G.bA h;obtain⟨F,M,_⟩:=G.bA j;have z:G.lead x∈G.bG d:=G.bJ h n F;have I:G.lead d∈G.bG x:=G.bJ j (G.cg h n) B;apply G.Bp h z B;grind
theorem Good.tj(G:Good S) (h:(dr S).aZ d):S.round (2*S.lines.length+1) d d=G.vs d:=by rw[gS,Ao (G.du h) (by have:=G.pA h;lia)];rfl
theorem Good.turned(G:Good S) (h:(dr S).aZ d):Qbw (S.round (2*S.lines.length+1) d d)=G.vs (G.lead d):=by rw[G.tj h,(G.bA h).2.2]
theorem Good.two(G:Good S) (h:(dr S).aZ d):2<=G.pr d:=by
 have p:=G.du h;have:=p.pos;apply xH;intro hc;have:G.pr d=1:=by lia
 have b:=p.back;rw[this]at b;have:(cW S d).1=d.1:=by rw[show cW S d=d from b]
 have e:d.2=d.1:=this;rcases G.fine.ok.cH h with⟨a,_⟩|⟨a,_⟩<;>rw[e]at a<;>lia
def lN(l:List Nat):Dt:=(l.getD 0 0,l.getD 1 0)
theorem Good.cP(G:Good S) (h:(dr S).aZ d):lN (G.vs d)=d:=by
 have h2:=G.two h
 have j:(G.vs d).getD 0 0=d.1:=by
  have hl:0<(G.vs d).length:=by simp[Good.vs,Good.bG,bc];lia
  rw[GA,xD hl,Vc,G.kG];rfl
 have n:(G.vs d).getD 1 0=d.2:=by
  have hl:1<(G.vs d).length:=by simp[Good.vs,Good.bG,bc];lia
  rw[GA,xD hl,Vc,G.kG];rfl
 unfold lN;rw[j,n]
theorem Good.pairs(G:Good S) (h:(dr S).aZ d):(G.vs d).zip ((G.vs d).drop 1++(G.vs d).take 1)=G.bG d:=
 vB (G.du h) (fun _=>rfl)
theorem Good.cO(G:Good S) (h:(dr S).aZ d):(dr S).Cons (Q7 (G.bG d)):=
 G.fine.ok.cJ G.fine.eD h ((G.du h).nodup G.fine.ok G.fine.eD h) (by rw[(G.du h).back])
theorem Good.dP(G:Good S) (h:(dr S).aZ d):(G.bG d).Nodup:=(G.du h).nodup G.fine.ok G.fine.eD h
theorem EN(g:Nat->Int) (hf:∀j,(it nx (j+1) d).1=(it nx j d).2) (k:Nat) :
  su (wk nx d k) (fun x=>g x.2-g x.1)=g (it nx k d).1-g d.1:=by
 induction k with
 |zero=>simp[wk,ZU,it]
 |succ k n=>rw[lT,Ye,QQ,ZU,n,<-hf];lia
theorem pM(l:List α)(f:α->Int):(l.map f).foldr (fun(a b:Int)=>a+b) 0=su l f:=by
 induction l with
 |nil=>rfl
 |cons a l j=>rw[xT,List.foldr_cons,j,QQ]
theorem Good.vc(G:Good S){d:Dt} (h:(dr S).aZ d) :
  1048576*Qbx S (G.vs d) = - su (dr S).E (fun m=>Q7 (G.bG d) m*(dr S).ar m):=by
 unfold Qbx;rw[G.pairs h,pM,<-XD];have t:=EN (nx:=cW S) (d:=d) (fun i=>XP (S.pt i)*YP (S.pt i)) (fun _=>rfl) (G.pr d);rw[(G.du h).back]at t
 have e:su (G.bG d) (fun x=>1048576*(((S.pt x.1).x:Int)*((S.pt x.2).y:Int)-((S.pt x.2).x:Int)*((S.pt x.1).y:Int))) =
   su (G.bG d) (fun x=>XP (S.pt x.2)*YP (S.pt x.2)-XP (S.pt x.1)*YP (S.pt x.1))-su (G.bG d) (fun x=>(dr S).ar x):=by
  rw[<-XC];apply Qt;intro x _;show _=_-(XP (S.pt x.2)-XP (S.pt x.1))*(YP (S.pt x.1)+YP (S.pt x.2));unfold XP YP;grind
 rw[e]
 have t':su (G.bG d) (fun x=>XP (S.pt x.2)*YP (S.pt x.2)-XP (S.pt x.1)*YP (S.pt x.1))=0:=by show su (wk (cW S) d (G.pr d)) _=0;lia
 rw[t',G.fine.ok.dH (G.dP h) (fun x j=>G.bu h j)]
 have:su (dr S).E (fun m=>(if m∈G.bG d then(dr S).ar m else 0)+(if(m.2,m.1)∈G.bG d then(dr S).ar (m.2,m.1) else 0))=su (dr S).E (fun m=>Q7 (G.bG d) m*(dr S).ar m):=by
  apply Qt;intro m _
  have:(dr S).ar (m.2,m.1) = - (dr S).ar m:=by show(XP (S.pt m.1)-XP (S.pt m.2))*(YP (S.pt m.2)+YP (S.pt m.1)) = - ((XP (S.pt m.2)-XP (S.pt m.1))*(YP (S.pt m.1)+YP (S.pt m.2)));grind
  rw[this];unfold Q7;by_cases a:m∈G.bG d<;>by_cases b:(m.2,m.1)∈G.bG d<;>simp only[a,b,Wq,Wr]<;>grind
 rw[this];lia
noncomputable def Good.d0 {S:Plan} (G:Good S):Dt:=Classical.choose (G.fine.outer G.wpos G.frame)
theorem Good.eT(G:Good S):(dr S).aZ G.d0:=(UU (G.fine.outer G.wpos G.frame)).1
theorem Good.l8(G:Good S)(N:Dt->Int):(dr S).Wd N G.d0=0:=(UU (G.fine.outer G.wpos G.frame)).2.1 N
theorem Good.Eg(G:Good S):(S.pt G.d0.1).y=0/\(S.pt G.d0.2).y=0/\(S.pt G.d0.2).x<(S.pt G.d0.1).x:=(UU (G.fine.outer G.wpos G.frame)).2.2
theorem Good.W(G:Good S){r:Dt} (hr:(dr S).aZ r) {e:Dt} (j:(dr S).aZ e) :
  (dr S).Wd (Q7 (G.bG r)) e=(if e∈G.bG r then 1 else 0)-(if G.d0∈G.bG r then 1 else 0):=by
 have a:=G.fine.ok.around G.fine.eD G.conn hr (G.du hr) j;have b:=G.fine.ok.around G.fine.eD G.conn hr (G.du hr) G.eT;rw[G.l8]at b;show(dr S).Wd (Q7 (wk (cW S) r (G.pr r))) e=(if e∈wk (cW S) r (G.pr r) then 1 else 0)-(if G.d0∈wk (cW S) r (G.pr r) then 1 else 0);lia
theorem Good.gZ(G:Good S){r:Dt} (hr:(dr S).aZ r):0<Qbx S (G.vs r)↔G.d0∉G.bG r:=by
 have e:=G.vc hr;have O:=G.fine.ok;constructor
 ·intro h h0
  have n:∀m∈(dr S).E,0<=(dr S).Wd (fun e=>su [()] (fun _=>(-1)*Q7 (G.bG r) e)) m:=by intro m j;rw[O.tZ [()] (fun _=>-1) (fun _=>Q7 (G.bG r)) (G1 j),QQ,ZU,G.W hr (G1 j),Wi h0];lia
  have C:(dr S).Cons (fun e=>su [()] (fun _=>(-1)*Q7 (G.bG r) e)):=gT [()] (fun _=>-1) (fun _=>Q7 (G.bG r)) (fun _ _=>G.cO hr);have:=(O.Fm C n).1
  have I:su (dr S).E (fun m=>su [()] (fun _=>(-1)*Q7 (G.bG r) m)*(dr S).ar m) = - su (dr S).E (fun m=>Q7 (G.bG r) m*(dr S).ar m):=by rw[<-jC];apply Qt;intro m _;rw[QQ,ZU];grind
  lia
 ·intro h0
  have F:∀m,(dr S).aZ m->(dr S).Wd (Q7 (G.bG r)) m=if m∈G.bG r then 1 else 0:=by intro m j;rw[G.W hr j,Wh h0];lia
  have n:∀m∈(dr S).E,0<=(dr S).Wd (Q7 (G.bG r)) m:=by intro m j;rw[F m (G1 j)];lia
  have:=(O.Fm (G.cO hr) n).2 (by
   have s:=G.tf hr;have z:=hr;rcases z with B|B
   ·grind
   ·grind)
  lia
theorem Good.eJ(G:Good S){e:Dt}:e∈Gla.ways S↔(dr S).aZ e:=by rw[G.fine.dE];unfold Gla.ways;grind
theorem Good.bX(G:Good S){l:List Nat}:l∈S.outlines↔∃e,(dr S).aZ e/\G.d0∉G.bG e/\l=G.vs (G.lead e):=by
 unfold Plan.outlines;rw[VE,List.mem_eraseDups,List.mem_map];constructor
 ·rintro⟨⟨e,j,rfl⟩,z⟩;have j:=G.eJ.1 j;have hl:=(G.bA j).1;have n:=G.bu j hl;rw[G.turned j]at z ⊢;refine⟨e,j,?_,Z⟩;have:=(G.gZ n).1 (by simpa using z);intro h;exact this (G.bJ n (G.cg j hl) h)
 ·rintro⟨e,j,h0,rfl⟩;have hl:=(G.bA j).1;have n:=G.bu j hl;refine⟨⟨e,G.eJ.2 j,G.turned j⟩,?_⟩;have:=(G.gZ n).2 (fun h=>h0 (G.bJ j hl h));lia
theorem YF [BEq α] [LawfulBEq α]:∀(n:Nat)(l:List α),l.length<=n->l.eraseDups.Nodup
 |_,[],_=>by simp
 |0,a::l,h=>by simp at h
 | n+1,a::l,h=>by
  rw[List.eraseDups_cons,UZ];refine⟨?_,YF n _ ?_⟩
  ·rw[List.mem_eraseDups,VE];simp
  ·grind
theorem Good.er(_:Good S):S.outlines.Nodup:=by unfold Plan.outlines;exact(YF _ _ (xM _)).filter _
noncomputable def Good.ri {S:Plan} (_:Good S):List Dt:=S.outlines.map lN
theorem Good.dg(G:Good S){r:Dt}:r∈G.ri↔(dr S).aZ r/\G.d0∉G.bG r/\G.lead r=r:=by
 unfold Good.ri;rw[List.mem_map];constructor
 ·rintro⟨l,hl,rfl⟩;obtain⟨e,n,h0,rfl⟩:=G.bX.1 hl;have hl:=(G.bA n).1;have j:=G.bu n hl;rw[G.cP j];exact⟨j,fun h=>h0 (G.bJ n hl h),G.cN n hl⟩
 ·rintro⟨hr,h0,hl⟩;exact⟨G.vs r,G.bX.2 ⟨r,hr,h0,by rw[hl]⟩,G.cP hr⟩
theorem Good.pT(G:Good S):YB (dr S) (cW S) G.pr G.d0 G.ri where
 du:=fun d h=>G.du h
 out:=G.eT
 zero:=G.l8
 dG:=fun r hr=>(G.dg.1 hr).1
 nodup:=by apply Yw _ G.er;intro a B b F e;obtain⟨x,n,_,rfl⟩:=G.bX.1 B;obtain⟨y,z,_,rfl⟩:=G.bX.1 F;rw[G.cP (G.bu n (G.bA n).1),G.cP (G.bu z (G.bA z).1)]at e;rw[e]
 sep:=fun r hr q I h=>by
  have a:=G.dg.1 hr;have b:=G.dg.1 I;rw[<-a.2.2,<-b.2.2];exact G.cN a.1 h
 inner:=fun r hr=>(G.dg.1 hr).2.1
 all:=fun d hd=>by
  by_cases h:G.d0∈G.bG d
  ·left;exact G.cg hd h
  ·right;have hl:=(G.bA hd).1;have j:=G.bu hd hl;exact⟨G.lead d,G.dg.2 ⟨j,fun h'=>h (G.bJ hd hl h'),G.cN hd hl⟩,G.cg hd hl⟩
theorem Good.DJ(G:Good S):S.outlines.length+S.pts.length=S.lines.length+1:=by
 have j:∀e∈(dr S).E,e.1∈xN S.pts.length/\e.2∈xN S.pts.length:=by intro e n;have:=G.fine.dY n;simp[this]
 have h1:=G.pT.pI G.fine.ok G.fine.eD G.conn (V:=xN S.pts.length) Qa5 j (fun v z=>G.C9 v (List.mem_range.1 z));have h2:=G.pT.r8 G.fine.ok G.fine.eD (V:=xN S.pts.length) Qa5 j;have B:G.ri.length=S.outlines.length:=by simp[Good.ri]
 have F:(dr S).E.length=S.lines.length:=by show(S.lines.map (dX S)).length=_;simp
 grind
theorem lY{l:List α}{f:α->Int}(h:∀x∈l,f x%2=0):su l f%2=0:=by
 induction l with
 |nil=>rfl
 | cons a l j=>
  have h1:=h a We;have h2:=j (fun x n=>h x (by simp[n]));rw[QQ];lia
theorem qb(x y : Int) : (0<x->(0<y->0<x*y)/\(y<=0->x*y<=0))/\(x<0->(0<y->x*y<0)/\(y<=0->0<=x*y)) :=
  ⟨fun n => ⟨fun j => UN n j, fun j => Gn L j⟩,
   fun n => ⟨fun j => Ua n j, fun j => GB L j⟩⟩
def cR(p q z:Pt):Bool:=(decide (p.y<=z.y)&&(decide (z.y<q.y)&&decide (0<xL p q z)))||(decide (q.y<=z.y)&&(decide (z.y<p.y)&&decide (xL p q z<0)))
def cD(p q z:Pt):Bool:=(decide (XP p<XP z)&&(decide (XP z<XP q)&&decide (0<xL p q z)))||(decide (XP q<XP z)&&(decide (XP z<XP p)&&decide (xL p q z<0)))
def wV(p z:Pt):Bool:=decide (XP z<XP p)&&decide (p.y<=z.y)
def b2i(b:Bool):Int:=if b=true then 1 else 0
theorem B7{p q z:Pt}(n:XP p≠XP z)(B:XP q≠XP z)(j:Up p q z=false) :
  (b2i (cR p q z)+b2i (cD p q z)+(b2i (wV p z)+b2i (wV q z)))%2=0:=by
 have F:1048576*xL p q z=(XP p-XP z)*(YP q-YP z)-(XP q-XP z)*(YP p-YP z):=by rw[JK];grind
 have J:(XP p<XP z->XP z<XP q->xL p q z≠0)/\(XP q<XP z->XP z<XP p->xL p q z≠0):=by
  constructor
  ·intro h1 h2 h0;rw[Xu h0 L L L]at j;cases j
  ·intro h1 h2 h0;have:Up q p z=true:=Xu (by rw[Yc,h0];rfl) L L L;rw[qF,j]at this;cases this
 have G:=qb (XP p-XP z) (YP q-YP z);have I:=qb (XP q-XP z) (YP p-YP z);unfold YP at F G I;unfold cR cD wV b2i;simp only[Qag,Gf,Wp];generalize (XP p-XP z)*((q.y:Int)-(z.y:Int))=u at *;generalize (XP q-XP z)*((p.y:Int)-(z.y:Int))=w at *;generalize xL p q z=T at *
 rcases Vk n with a|a<;>rcases Vk B with b|b<;>
  rcases Uk z.y p.y with c|c<;>rcases Uk z.y q.y with d|d<;>
  simp only[a,b,c,d,Int.not_lt.2 (Int.le_of_lt a),Int.not_lt.2 (Int.le_of_lt b),Nat.not_le.2,Nat.not_lt.2,true_and,false_and,and_true,and_false,Ws,false_or,Wq,Wr]<;>
  (first|lia|(split<;>(first|lia|(split<;>lia))))
structure uG(S:Plan)(z:Pt):Prop where
 x0:0<z.x
 x1:z.x<S.w
 y0:0<z.y
 y1:z.y<S.h
 off:∀l∈S.lines,Up (S.pt l.1) (S.pt l.2) z=false
theorem i4{z:Pt}(h:U0 S z=true):uG S z:=by unfold U0 at h;simp only[Gf,Wp,Bool.not_eq_true',VI]at h;obtain⟨a,b,c,d,e⟩:=h;rw[U3]at e;exact⟨a,b,c,d,fun l hl=>by simpa using e l hl⟩
theorem uG.gO(F:a9 S){z:Pt}(c:uG S z) (hd:(dr S).aZ d):Up (S.pt d.1) (S.pt d.2) z=false:=by
 rcases F.dE.1 hd with h|h
 ·exact c.off d h
 ·exact(qF (S.pt d.1) (S.pt d.2) z).symm.trans (c.off (d.2,d.1) h)
theorem uG.ne(F:a9 S){z:Pt}(c:uG S z) (hd:(dr S).aZ d):XP (S.pt d.1)≠XP z:=by
 intro e;have b:=F.cB (F.cA hd).1;have:=F.h;have hz:=c.y1;have:S.pt d.1=z:=kR L L e;have off:=c.gO F hd;rw[<-this]at off
 have:Up (S.pt d.1) (S.pt d.2) (S.pt d.1)=true:=by
  unfold Up Vt;have:xL (S.pt d.1) (S.pt d.2) (S.pt d.1)=0:=by unfold xL GD GE;grind
  grind
 lia
def Wz(S:Plan)(N:Dt->Int)(z:Pt):Int:=
 su (dr S).E (fun m=>if XP (S.pt m.1)<XP z/\XP z<XP (S.pt m.2)/\0<xL (S.pt m.1) (S.pt m.2) z then N m else 0)
theorem km(l:List α)(p:α->Bool):((l.filter p).length:Int)=su l (fun x=>b2i (p x)):=by
 induction l with
 |nil=>rfl
 | cons a l j=>
  rw[QQ,<-j];unfold b2i;by_cases h:p a=true
  ·grind
  ·grind
theorem Good.inside(G:Good S){z:Pt}(c:uG S z){r:Dt} (hr:(dr S).aZ r) :
  Qbh S (G.vs r) z=true↔Wz S (Q7 (G.bG r)) z%2=1:=by
 have F:=G.fine
 have n:Qbh S (G.vs r) z=decide (((G.bG r).filter (fun(x:Nat×Nat)=>cR (S.pt x.1) (S.pt x.2) z)).length%2=1):=by unfold Qbh;rw[G.pairs hr];rfl
 rw[n,Wp];have M:=km (G.bG r) (fun(x:Nat×Nat)=>cR (S.pt x.1) (S.pt x.2) z)
 have par:=lY (l:=G.bG r) (f:=fun x=>b2i (cR (S.pt x.1) (S.pt x.2) z)+b2i (cD (S.pt x.1) (S.pt x.2) z)+(b2i (wV (S.pt x.1) z)+b2i (wV (S.pt x.2) z))) (fun x j=>by
  have hd:=G.bu hr j;exact B7 (c.ne F hd) (c.ne F (d:=(x.2,x.1)) hd.rev) (c.gO F hd))
 rw[ZL,ZL,ZL]at par;have t:=EN (nx:=cW S) (d:=r) (fun i=>b2i (wV (S.pt i) z)) (fun _=>rfl) (G.pr r);rw[(G.du hr).back,XC]at t
 have t':su (G.bG r) (fun x=>b2i (wV (S.pt x.2) z))=su (G.bG r) (fun x=>b2i (wV (S.pt x.1) z)):=by show su (wk (cW S) r (G.pr r)) _=su (wk (cW S) r (G.pr r)) _;lia
 rw[t']at par
 have O:(su (G.bG r) (fun x=>b2i (cD (S.pt x.1) (S.pt x.2) z))-Wz S (Q7 (G.bG r)) z)%2=0:=by
  rw[F.ok.dH (G.dP hr) (fun x j=>G.bu hr j)];unfold Wz;rw[<-XC];apply lY;intro m B;have hl:=F.bT B;have U:=Yc (S.pt m.1) (S.pt m.2) z
  have I:b2i (cD (S.pt m.1) (S.pt m.2) z)=if XP (S.pt m.1)<XP z/\XP z<XP (S.pt m.2)/\0<xL (S.pt m.1) (S.pt m.2) z then 1 else 0:=by unfold b2i cD;lia
  have J:b2i (cD (S.pt (m.2,m.1).1) (S.pt (m.2,m.1).2) z)=if XP (S.pt m.1)<XP z/\XP z<XP (S.pt m.2)/\0<xL (S.pt m.1) (S.pt m.2) z then 1 else 0:=by unfold b2i cD;lia
  rw[I,J];unfold Q7;lia
 lia
structure Under(S:Plan)(z:Pt)(e:Dt):Prop where
 mem:e∈(dr S).E
 l:XP (S.pt e.1)<XP z
 r:XP z<XP (S.pt e.2)
 up:0<xL (S.pt e.1) (S.pt e.2) z
 top:∀m∈(dr S).E,XP (S.pt m.1)<XP z->XP z<XP (S.pt m.2)->0<xL (S.pt m.1) (S.pt m.2) z->(dr S).h m (2*XP z)<=(dr S).h e (2*XP z)
theorem Under.W(F:a9 S){z:Pt}(c:uG S z){e:Dt}(u:Under S z e){N:Dt->Int} (C:(dr S).Cons N):Wz S N z=(dr S).Wd N e:=by
 have O:=F.ok;have hl:=F.bT u.mem;unfold Dr.Wd;rw[Wi (by exact hl),O.cY C u.mem (u:=XP z) ⟨Qau _,hl⟩ ⟨by show XP (S.pt e.1)<=XP z;have:=u.l;lia,u.r⟩];unfold Wz Dr.bl;rw[<-ZT O.nodup u.mem N,<-ZL];apply Qt;intro m j;have n:=F.bT j;have G:=c.ne F (d:=m) (G1 j);have I:=u.l;have J:=u.r;by_cases q:m=e
 ·subst q;rw[Wi ⟨u.l,u.r,u.up⟩,Wh L,Wi Z];lia
 ·rw[Wh q];have B:=(F.de u.mem z).1;have sm:=(F.de j z).1;by_cases a:XP (S.pt m.1)<XP z/\XP z<XP (S.pt m.2)
  ·have d:=O.distinct j u.mem q (t:=2*XP z) (by show 2*XP (S.pt m.1)<_;lia) (by show 2*XP (S.pt e.1)<_;lia) (by show _<2*XP (S.pt m.2);lia) (by show _<2*XP (S.pt e.2);lia)
   have o:=O.order j u.mem (t:=2*XP z) (u:=2*XP z+1) (by show 2*XP (S.pt m.1)<_;lia) (by show 2*XP (S.pt e.1)<_;lia) (by show _<2*XP (S.pt m.2);lia) (by show _<2*XP (S.pt e.2);lia)
    (by show 2*XP (S.pt m.1)<_;lia) (by show 2*XP (S.pt e.1)<_;lia) (by show _<2*XP (S.pt m.2);lia) (by show _<2*XP (S.pt e.2);lia)
   have act:(dr S).act m (XP z):=⟨by show XP (S.pt m.1)<=XP z;lia,a.2⟩;have M:=B.1 u.up;by_cases w:0<xL (S.pt m.1) (S.pt m.2) z
   ·have U:=u.top m j a.1 a.2 w;rw[Wi ⟨a.1,a.2,w⟩,Wi ⟨act,o.1 L⟩];lia
   ·rw[Wh L,Wh (fun h=>w (sm.2 (by have:=o.2 h.2;lia)))];lia
  ·rw[Wh L,Wh (fun h=>a (by
    have h1:XP (S.pt m.1)<=XP z:=h.1.1;have h2:XP z<XP (S.pt m.2):=h.1.2;lia))];lia
theorem Good.ed(G:Good S){z:Pt}(c:uG S z){e:Dt}(u:Under S z e){r:Dt} (hr:(dr S).aZ r) (h0:G.d0∉G.bG r) :
  Qbh S (G.vs r) z=true↔e∈G.bG r:=by
 rw[G.inside c hr,u.W G.fine c (G.cO hr),G.W hr (G1 u.mem),Wh h0];lia
theorem Q2(S:Plan)(on:Pt->Bool):(Gm S on).Pairwise (·<·):=by unfold Gm;apply List.Pairwise.filter;rw[UV];grind
theorem XM:∀{l:List Nat},GO S l=true->l.Pairwise (·<·)->∀{v w:Nat},v∈l->w∈l->v<w->∃x∈l,v<x/\S.joined v x=true
 |[],_,_,_,_,z,_,_=>by simp at z
 |[a],_,_,_,_,z,hw,B=>by simp at z hw;lia
 | a::b::r,hc,hp,v,w,z,hw,B=>by
  have j:=hc;unfold GO at j;simp only[GQ,G4,VF,UM,Gf]at j;have n:=List.pairwise_cons.1 hp;rcases List.mem_cons.1 z with e|F
  ·subst e;exact⟨b,by simp,n.1 b We,j.1⟩
  ·have I:w∈b::r:=by
    rcases List.mem_cons.1 hw with e|J
    ·have:=n.1 v F;lia
    ·exact J
   have G:GO S (b::r)=true:=by unfold GO;simpa using j.2
   obtain⟨x,M,h1,h2⟩:=XM G n.2 F I B;exact⟨x,by simp[M],h1,h2⟩
theorem XN:∀{l:List Nat},GO S l=true->l.Pairwise (·<·)->∀{v w:Nat},v∈l->w∈l->w<v->∃x∈l,x<v/\S.joined x v=true
 |[],_,_,_,_,n,_,_=>by simp at n
 |[a],_,_,_,_,n,hw,G=>by simp at n hw;lia
 | a::b::r,hc,hp,v,w,n,hw,G=>by
  have j:=hc;unfold GO at j;simp only[GQ,G4,VF,UM,Gf]at j;have z:=List.pairwise_cons.1 hp;rcases List.mem_cons.1 n with e|B
  ·grind
  ·have F:GO S (b::r)=true:=by unfold GO;simpa using j.2
   by_cases q:v=b
   ·grind
   ·have J:b<v:=by
     rcases List.mem_cons.1 B with e|I
     ·lia
     ·exact(List.pairwise_cons.1 z.2).1 v I
    obtain⟨x,M,h1,h2⟩:=XN F z.2 B (w:=b) We J;grind
theorem XY(S:Plan)(i j:Nat):S.joined i j=S.joined j i:=by unfold Plan.joined;grind
structure Frame(S:Plan):Prop where
 c00:∃i,i<S.pts.length/\S.pt i=⟨0,0⟩
 cw0:∃i,i<S.pts.length/\S.pt i=⟨S.w,0⟩
 c0h:∃i,i<S.pts.length/\S.pt i=⟨0,S.h⟩
 cwh:∃i,i<S.pts.length/\S.pt i=⟨S.w,S.h⟩
 bot:GO S (Gm S (fun(p:Pt)=>p.y==0))=true
 top:GO S (Gm S (fun(p:Pt)=>p.y==S.h))=true
 lef:GO S (Gm S (fun(p:Pt)=>p.x==0))=true
 rig:GO S (Gm S (fun(p:Pt)=>p.x==S.w))=true
theorem ew(j:UD S=true):Frame S:=by
 unfold UD at j;simp only[Gf]at j;obtain⟨c1,c2,z,B,F,G,I,J⟩:=j
 have ex:∀p,S.pts.contains p=true->∃i,i<S.pts.length/\S.pt i=p:=by intro p n;rw[UT]at n;obtain⟨i,hi,h⟩:=List.mem_iff_getElem.1 n;exact⟨i,hi,by rw[bE hi,h]⟩
 exact⟨ex _ c1,ex _ c2,ex _ z,ex _ B,F,G,I,J⟩
theorem a9.lt_iff(F:a9 S){i j:Nat}(hi:i<S.pts.length)(n:j<S.pts.length):i<j↔(S.pt i).y<(S.pt j).y\/((S.pt i).y=(S.pt j).y/\(S.pt i).x<(S.pt j).x):=by
 have key:∀i j,i<S.pts.length->j<S.pts.length->i<j->(S.pt i).y<(S.pt j).y\/((S.pt i).y=(S.pt j).y/\(S.pt i).x<(S.pt j).x):=by intro i j hi n z;have:=F.pts i j z n;rw[bE hi,bE n];unfold Pt.below at this;simpa using this
 constructor
 ·exact key i j hi n
 ·intro h;rcases Ut i j with q | q | q
  ·exact q
  ·subst q;lia
  ·have:=key j i n hi q;lia
def Fr(S:Plan)(d:Dt):Prop:=
 ((S.pt d.1).y=0/\(S.pt d.2).y=0/\(S.pt d.2).x<(S.pt d.1).x)\/
 ((S.pt d.1).x=0/\(S.pt d.2).x=0/\(S.pt d.1).y<(S.pt d.2).y)\/
 ((S.pt d.1).y=S.h/\(S.pt d.2).y=S.h/\(S.pt d.1).x<(S.pt d.2).x)\/
 ((S.pt d.1).x=S.w/\(S.pt d.2).x=S.w/\(S.pt d.2).y<(S.pt d.1).y)
theorem half_lt{r c b:Int×Int}(h:¬Vl r c b=true):Vn r b<=Vn r c/\(Vn r b=Vn r c->0<=c.1*b.2-c.2*b.1):=by unfold Vl at h;lia
structure De(f g:Int×Int->Int):Prop where
 cross:∀a b:Int×Int,a.1*b.2-a.2*b.1=g a*f b-f a*g b
 dot:∀a b:Int×Int,a.1*b.1+a.2*b.2=f a*f b+g a*g b
theorem J3{f g:Int×Int->Int}(K:De f g){r c b:Int×Int}(h:¬Vl r c b=true)(z:f r<0)(j:g r=0)
  (c1:0<f c) (c2:g c=0) (B:0<=g b):0<f b/\g b=0:=by
 obtain⟨h1,_⟩:=half_lt h
 have hc:Vn r c=1:=by unfold Vn;simp only;rw[K.cross,K.dot,j,c2];have:f r*f c<0:=Ua z c1;lia
 rw[hc]at h1;unfold Vn at h1;simp only at h1;rw[K.cross,K.dot,j]at h1
 have p:0<=- (f r*g b):=by have:=US (a:=f r) (b:=g b) L B;lia
 rw[VT,VT]at h1;rw[Wh L]at h1;by_cases q:0<0-f r*g b
 ·lia
 ·rw[Wh q] at h1
  have F:g b=0:=by
   have:f r*g b=0:=by lia
   rcases Int.mul_eq_zero.1 this with h|h;all_goals lia
  refine⟨?_,F⟩;by_cases w:f r*f b+0<0
  ·apply xH;intro n;have:=GB (a:=f r) (b:=f b) L L;lia
  lia
theorem xp{f g:Int×Int->Int}(K:De f g){r c b:Int×Int}(h:¬Vl r c b=true)(z:f r<0)(j:g r=0)
  (c1:f c=0) (c2:0<g c) (B:f b<=0) (F:0<=g b):f b=0/\0<g b:=by
 obtain⟨h1,h2⟩:=half_lt h
 have hc:Vn r c=2:=by unfold Vn;simp only;rw[K.cross,K.dot,j,c1];have:f r*g c<0:=Ua z c2;lia
 rw[hc]at h1 h2;have p:f r*g b<=0:=US (a:=f r) (b:=g b) L F;have p2:0<=f r*f b:=GB L B
 have G:Vn r b=2/\f r*g b<0:=by unfold Vn at h1 ⊢;simp only at h1 ⊢;rw[K.cross,K.dot,j]at h1 ⊢;lia
 have I:=h2 G.1;rw[K.cross,c1,VT]at I;refine⟨?_,?_⟩
 ·apply xH;intro n;have:=Gu (a:=g c) (b:=f b) c2 L;lia
 lia
theorem a9.i7(F:a9 S){u v c:Nat} (h:(dr S).aZ (u,v)) (hc:(dr S).aZ (v,c)) :
  ¬Vl (xI S v u) (xI S v c) (xI S v (S.next u v))=true:=by
 have n:=F.eO h;intro j;exact n.2 c hc ((F.dq h.rev hc n.1).1 j)
theorem Dq:De (fun d=>- d.1) (fun d=>d.2):=⟨fun a b=>by grind,fun a b=>by grind⟩
theorem DH:De (fun d=>d.2) (fun d=>d.1):=⟨fun a b=>by grind,fun a b=>by grind⟩
theorem Fn:De (fun d=>d.1) (fun d=>- d.2):=⟨fun a b=>by grind,fun a b=>by grind⟩
theorem DD:De (fun d=>- d.2) (fun d=>- d.1):=⟨fun a b=>by grind,fun a b=>by grind⟩
theorem Fr.next(F:a9 S)(A:Frame S)(hw:0<S.w)(hh:0<S.h) (hd:(dr S).aZ d) (h:Fr S d):Fr S (cW S d):=by
 obtain⟨u,v⟩:=d;have lt:=F.cA hd;simp only at lt;have nd:(dr S).aZ (v,S.next u v):=F.eD.dG hd;have J:=(F.cA nd).2;simp only at J;have O:=F.cB lt.2;have U:=F.cB lt.1;have aa:=F.cB J;show Fr S (v,S.next u v);unfold Fr at h ⊢;simp only at h ⊢;have ns:=fun c (hc:(dr S).aZ (v,c))=>F.i7 hd hc;generalize S.next u v=b at *;rcases h with⟨h1,h2,M⟩|⟨h1,h2,M⟩|⟨h1,h2,M⟩|⟨h1,h2,M⟩
 ·-- the lower ze,to the left
  by_cases q:(S.pt v).x=0
  ·obtain⟨i,hi,n⟩:=A.c0h
   obtain⟨c,hc,z,B⟩:=XM A.lef (Q2 S _) (v:=v) (w:=i) (QG.2 ⟨lt.2,by simp[q]⟩) (QG.2 ⟨hi,by simp[n]⟩)
    ((F.lt_iff lt.2 hi).2 (by rw[n];simp only;lia))
   have j:=(QG.1 hc);have G:(S.pt c).x=0:=by simpa using j.2
   have I:=(F.lt_iff lt.2 j.1).1 z
   have:=xp Dq (ns c (Q9 F B)) (by unfold xI GD;simp only;lia) (by unfold xI GE;simp only;lia)
    (by unfold xI GD;simp only;lia) (by unfold xI GE;simp only;lia) (by unfold xI GD;simp only;lia) (by unfold xI GE;simp only;lia)
   unfold xI GD GE at this;lia
  ·obtain⟨i,hi,n⟩:=A.c00
   obtain⟨c,hc,z,B⟩:=XN A.bot (Q2 S _) (v:=v) (w:=i) (QG.2 ⟨lt.2,by simp[h2]⟩) (QG.2 ⟨hi,by simp[n]⟩)
    ((F.lt_iff hi lt.2).2 (by rw[n];simp only;lia))
   have j:=(QG.1 hc);have I:(S.pt c).y=0:=by simpa using j.2
   have G:=(F.lt_iff j.1 lt.2).1 z
   have:=J3 Dq (ns c (Q9 F (by rw[XY];exact B))) (by unfold xI GD;simp only;lia) (by unfold xI GE;simp only;lia)
    (by unfold xI GD;simp only;lia) (by unfold xI GE;simp only;lia) (by unfold xI GE;simp only;lia)
   unfold xI GD GE at this;lia
 ·-- the left ze,up
  by_cases q:(S.pt v).y=S.h
  ·obtain⟨i,hi,n⟩:=A.cwh
   obtain⟨c,hc,z,B⟩:=XM A.top (Q2 S _) (v:=v) (w:=i) (QG.2 ⟨lt.2,by simp[q]⟩) (QG.2 ⟨hi,by simp[n]⟩)
    ((F.lt_iff lt.2 hi).2 (by rw[n];simp only;lia))
   have j:=(QG.1 hc);have G:(S.pt c).y=S.h:=by simpa using j.2
   have I:=(F.lt_iff lt.2 j.1).1 z
   have:=xp DH (ns c (Q9 F B)) (by unfold xI GE;simp only;lia) (by unfold xI GD;simp only;lia)
    (by unfold xI GE;simp only;lia) (by unfold xI GD;simp only;lia) (by unfold xI GE;simp only;lia) (by unfold xI GD;simp only;lia)
   unfold xI GD GE at this;lia
  ·obtain⟨i,hi,n⟩:=A.c0h
   obtain⟨c,hc,z,B⟩:=XM A.lef (Q2 S _) (v:=v) (w:=i) (QG.2 ⟨lt.2,by simp[h2]⟩) (QG.2 ⟨hi,by simp[n]⟩)
    ((F.lt_iff lt.2 hi).2 (by rw[n];simp only;lia))
   have j:=(QG.1 hc);have G:(S.pt c).x=0:=by simpa using j.2
   have I:=(F.lt_iff lt.2 j.1).1 z
   have:=J3 DH (ns c (Q9 F B)) (by unfold xI GE;simp only;lia) (by unfold xI GD;simp only;lia)
    (by unfold xI GE;simp only;lia) (by unfold xI GD;simp only;lia) (by unfold xI GD;simp only;lia)
   unfold xI GD GE at this;lia
 ·-- the upper ze,to the right
  by_cases q:(S.pt v).x=S.w
  ·obtain⟨i,hi,n⟩:=A.cw0
   obtain⟨c,hc,z,B⟩:=XN A.rig (Q2 S _) (v:=v) (w:=i) (QG.2 ⟨lt.2,by simp[q]⟩) (QG.2 ⟨hi,by simp[n]⟩)
    ((F.lt_iff hi lt.2).2 (by rw[n];simp only;lia))
   have j:=(QG.1 hc);have G:(S.pt c).x=S.w:=by simpa using j.2
   have I:=(F.lt_iff j.1 lt.2).1 z
   have:=xp Fn (ns c (Q9 F (by rw[XY];exact B))) (by unfold xI GD;simp only;lia) (by unfold xI GE;simp only;lia)
    (by unfold xI GD;simp only;lia) (by unfold xI GE;simp only;lia) (by unfold xI GD;simp only;lia) (by unfold xI GE;simp only;lia)
   unfold xI GD GE at this;lia
  ·obtain⟨i,hi,n⟩:=A.cwh
   obtain⟨c,hc,z,B⟩:=XM A.top (Q2 S _) (v:=v) (w:=i) (QG.2 ⟨lt.2,by simp[h2]⟩) (QG.2 ⟨hi,by simp[n]⟩)
    ((F.lt_iff lt.2 hi).2 (by rw[n];simp only;lia))
   have j:=(QG.1 hc);have G:(S.pt c).y=S.h:=by simpa using j.2
   have I:=(F.lt_iff lt.2 j.1).1 z
   have:=J3 Fn (ns c (Q9 F B)) (by unfold xI GD;simp only;lia) (by unfold xI GE;simp only;lia)
    (by unfold xI GD;simp only;lia) (by unfold xI GE;simp only;lia) (by unfold xI GE;simp only;lia)
   unfold xI GD GE at this;lia
 ·-- the right ze,down
  by_cases q:(S.pt v).y=0
  ·obtain⟨i,hi,n⟩:=A.c00
   obtain⟨c,hc,z,B⟩:=XN A.bot (Q2 S _) (v:=v) (w:=i) (QG.2 ⟨lt.2,by simp[q]⟩) (QG.2 ⟨hi,by simp[n]⟩)
    ((F.lt_iff hi lt.2).2 (by rw[n];simp only;lia))
   have j:=(QG.1 hc);have G:(S.pt c).y=0:=by simpa using j.2
   have I:=(F.lt_iff j.1 lt.2).1 z
   have:=xp DD (ns c (Q9 F (by rw[XY];exact B))) (by unfold xI GE;simp only;lia) (by unfold xI GD;simp only;lia)
    (by unfold xI GE;simp only;lia) (by unfold xI GD;simp only;lia) (by unfold xI GE;simp only;lia) (by unfold xI GD;simp only;lia)
   unfold xI GD GE at this;lia
  ·obtain⟨i,hi,n⟩:=A.cw0
   obtain⟨c,hc,z,B⟩:=XN A.rig (Q2 S _) (v:=v) (w:=i) (QG.2 ⟨lt.2,by simp[h2]⟩) (QG.2 ⟨hi,by simp[n]⟩)
    ((F.lt_iff hi lt.2).2 (by rw[n];simp only;lia))
   have j:=(QG.1 hc);have G:(S.pt c).x=S.w:=by simpa using j.2
   have I:=(F.lt_iff j.1 lt.2).1 z
   have:=J3 DD (ns c (Q9 F (by rw[XY];exact B))) (by unfold xI GE;simp only;lia) (by unfold xI GD;simp only;lia)
    (by unfold xI GE;simp only;lia) (by unfold xI GD;simp only;lia) (by unfold xI GD;simp only;lia)
   unfold xI GD GE at this;lia
theorem Good.pZ(G:Good S){e:Dt}(h:e∈G.bG G.d0):Fr S e:=by
 obtain⟨j,n,rfl⟩:=Zv.1 h;clear h n;induction j with
 |zero=>exact G1 G.Eg
 |succ j z=>exact Fr.next G.fine (ew G.frame) G.wpos G.nE (G.fine.eD.bD G.eT j) z
theorem Good.gU(G:Good S){z:Pt}(c:uG S z){e:Dt}(u:Under S z e):G.d0∉G.bG e:=by
 intro h;have fr:=G.pZ (G.cg (G1 u.mem) h);have hl:=u.l;have hr:=u.r;have j:=u.up;have J:=G.fine.cB (G.fine.dY u.mem).1;have M:=G.fine.cB (G.fine.dY u.mem).2;have O:=G.fine.h;have U:=c.x0;have B:=c.x1;have cy:=c.y0;have F:=c.y1;unfold XP at hl hr;rcases fr with⟨h1,h2,n⟩|⟨h1,h2,n⟩|⟨h1,h2,n⟩|⟨h1,h2,n⟩
 ·lia
 ·lia
 ·unfold xL GD GE at j;rw[h1,h2] at j;have I:((S.h:Int)-S.h)=0:=by lia
  rw[I,VT]at j;have:=Gu (a:=((S.pt e.2).x:Int)-(S.pt e.1).x) (b:=(z.y:Int)-S.h) L L;lia
 ·lia
theorem cover(f:Nat->Int)(x:Int):∀{l:List Nat},GO S l=true->(∀i∈l,f i≠x)->∀{a:Nat},l.head?=some a->f a<x->(∃b∈l,x<f b)->
  ∃p q,p∈l/\q∈l/\f p<x/\x<f q/\S.joined p q=true
 |[],_,_,_,h,_,_=>by simp at h
 | [a],_,_,_,h,F,⟨b,G,I⟩=>by
  simp at h G;subst h;subst G;lia
 | a::b::r,hc,hn,_,h,F,⟨w,hw,I⟩=>by
  simp at h;subst h;have j:=hc;unfold GO at j;simp only[GQ,G4,VF,UM,Gf]at j;by_cases q:x<f b
  ·exact⟨a,b,by simp,by simp,F,q,j.1⟩
  ·have n:GO S (b::r)=true:=by unfold GO;simpa using j.2
   have z:w∈b::r:=by
    rcases List.mem_cons.1 hw with e|B
    ·subst e;lia
    ·exact B
   have:=hn b We;obtain⟨p,q,h1,h2,J⟩:=cover f x n (fun i hi=>hn i (by simp[hi])) (a:=b) Z L ⟨w,z,I⟩;exact⟨p,q,by simp[h1],by simp[h2],J⟩
theorem Good.tH(G:Good S){z:Pt}(c:uG S z):∃m∈(dr S).E,XP (S.pt m.1)<XP z/\XP z<XP (S.pt m.2)/\0<xL (S.pt m.1) (S.pt m.2) z:=by
 have A:=ew G.frame;have F:=G.fine;obtain⟨i,hi,pi⟩:=A.c00;obtain⟨j,hj,pj⟩:=A.cw0;have B:i∈Gm S (fun(p:Pt)=>p.y==0):=QG.2 ⟨hi,by rw[pi];rfl⟩;have mj:j∈Gm S (fun(p:Pt)=>p.y==0):=QG.2 ⟨hj,by rw[pj];rfl⟩;have hh:=F.h;have cx:=c.x0;have aa:=c.x1;have cy:=c.y0;have ab:=c.y1
 have hn:∀k∈Gm S (fun(p:Pt)=>p.y==0),XP (S.pt k)≠XP z:=by
  intro k hk e;have I:=QG.1 hk;have:(S.pt k).y=0:=by simpa using I.2
  have:S.pt k=z:=kR L L e;lia
 have hy:∀k∈Gm S (fun(p:Pt)=>p.y==0),(S.pt k).y=0:=by intro k hk;simpa using(QG.1 hk).2
 have ac:XP (S.pt i)<XP z:=by rw[pi];unfold XP;simp only;lia
 have J:XP z<XP (S.pt j):=by rw[pj];unfold XP;simp only;lia
 have so:=Q2 S (fun(p:Pt)=>p.y==0);have ch:=A.bot;have M:∀k∈Gm S (fun(p:Pt)=>p.y==0),k<S.pts.length:=fun k hk=>(QG.1 hk).1;generalize Gm S (fun(p:Pt)=>p.y==0)=l at *
 obtain⟨a,n⟩:∃a,l.head?=some a:=by
  cases l with
  |nil=>simp at B
  |cons a r=>exact⟨a,Z⟩
 have O:XP (S.pt a)<XP z:=by
  have U:a∈l:=List.mem_of_mem_head? (by rw[n];rfl);cases l with
  |nil=>simp at B
  | cons b r=>
   simp at n;subst n;rcases List.mem_cons.1 B with e|h
   ·lia
   ·have lt:=(List.pairwise_cons.1 so).1 i h;have:=(F.lt_iff (M _ U) hi).1 lt;lia
 obtain⟨p,q,hp,hq,h1,h2,h3⟩:=cover (fun k=>XP (S.pt k)) (XP z) ch hn n O ⟨j,mj,J⟩;have yp:=hy p hp;have yq:=hy q hq
 have hE:(p,q)∈(dr S).E:=by
  rcases F.ok.cH (Q9 F h3) with⟨_,h⟩|⟨h,_⟩
  ·exact h
  ·exfalso;have h:XP (S.pt q)<XP (S.pt p):=h;lia
 refine⟨(p,q),hE,h1,h2,?_⟩;have h1:XP (S.pt p)<XP z:=h1;have h2:XP z<XP (S.pt q):=h2;unfold XP at h1 h2;unfold xL GD GE;show 0<(((S.pt q).x:Int)-(S.pt p).x)*((z.y:Int)-(S.pt q).y)-(((S.pt q).y:Int)-(S.pt p).y)*((z.x:Int)-(S.pt q).x);rw[yp,yq];have:=UN (a:=((S.pt q).x:Int)-(S.pt p).x) (b:=(z.y:Int)) L L;simp;lia
theorem gy{l:List α}{p:α->Bool}{a:α}(j:a∈l)(n:p a=true)(z:∀x∈l,p x=true->x=a):l.find? p=some a:=by
 cases h:l.find? p with
 | none=>
  rw[Uz]at h;exact Wm n (h a j)
 |some x=>rw[z x (List.mem_of_find?_eq_some h) (List.find?_some h)]
theorem Good.uy(G:Good S){z:Pt}(hz:U0 S z=true){e:Dt}(u:Under S z e):S.among S.outlines z=some (G.vs (G.lead e)):=by
 have c:=i4 hz;have j:(dr S).aZ e:=G1 u.mem;have h0:=G.gU c u;unfold Plan.among;rw[Wi hz];apply gy
 ·exact G.bX.2 ⟨e,j,h0,Z⟩
 ·have hl:=(G.bA j).1;exact(G.ed c u (G.bu j hl) (fun h=>h0 (G.bJ j hl h))).2 (G.cg j hl)
 ·intro x I B;obtain⟨d,hd,F,rfl⟩:=G.bX.1 I;have hl:=(G.bA hd).1;have n:=G.bu hd hl;have:=(G.ed c u n (fun h=>F (G.bJ hd hl h))).1 B;rw[G.cN n this,G.cN hd hl]
theorem Good.kC(G:Good S){d e:Dt} (hd:(dr S).aZ d) (j:(dr S).aZ e):some (G.vs (G.lead d))=some (G.vs (G.lead e))↔d∈G.bG e:=by
 have n:=(G.bA hd).1;have le:=(G.bA j).1;constructor
 ·intro h;have:=Wn lN (Wo h);rw[G.cP (G.bu hd n),G.cP (G.bu j le)] at this;have h1:G.lead d∈G.bG e:=by rw[this];exact le
  exact G.bJ j h1 (G.cg hd n)
 ·intro h;rw[G.cN j h]
def cv(n a b:Int):Bool:=if a<b then decide (a<=n)&&decide (n<=b) else decide (b<=n)&&decide (n<=a)
theorem J8(n a b:Nat):cv n a b=Vt a b n:=by unfold cv Vt;grind
theorem wt(p q r:Pt):Up p q r=if !cv r.y p.y q.y || !cv r.x p.x q.x then false else decide (xL p q r=0):=by rw[J8,J8];unfold Up;lia
def di(a b:Int):Bool:=if a=0 then false else if b=0 then false else decide (0<a) != decide (0<b)
theorem zW(a b:Int):di a b=decide (a*b<0):=by unfold di;have s:=qb a b;have j:=qb b a;lia
theorem eQ(p q r s:Pt):GZ p q r s=(di (xL p q r) (xL p q s)&&di (xL r s p) (xL r s q)):=by rw[zW,zW];rfl
theorem ig (G:∀(i j:Nat)(_:i<j)(z:j<S.pts.length),(S.pts[i]).below S.pts[j]=true) {l:Nat×Nat} (h1:l.1<l.2) (h2:l.2<S.pts.length)
  (hk:k<S.pts.length) (n:Up (S.pt l.1) (S.pt l.2) (S.pt k)=true):l.1<=k/\k<=l.2:=by
 have lt:∀i j,i<S.pts.length->j<S.pts.length->i<j->(S.pt i).y<(S.pt j).y\/((S.pt i).y=(S.pt j).y/\(S.pt i).x<(S.pt j).x):=by intro i j hi z B;have:=G i j B z;rw[bE hi,bE z];unfold Pt.below at this;lia
 have I:=lt l.1 l.2 L h2 h1;unfold Up Vt at n;simp only[Gf,beq_iff_eq,Wp]at n;obtain⟨t,⟨x1,O⟩,y1,U⟩:=n;unfold xL GD GE at t;have J:k<l.1->(S.pt k).y<(S.pt l.1).y\/((S.pt k).y=(S.pt l.1).y/\(S.pt k).x<(S.pt l.1).x):=fun h=>lt k l.1 hk L h;have M:l.2<k->(S.pt l.2).y<(S.pt k).y\/((S.pt l.2).y=(S.pt k).y/\(S.pt l.2).x<(S.pt k).x):=fun h=>lt l.2 k h2 hk h;generalize S.pt l.1=p at *;generalize S.pt l.2=q at *;generalize S.pt k=r at *;constructor
 ·apply xH;intro hc;have a:=J L;have F:(r.y:Int)=p.y:=by lia
  rw[F]at t
  have f:((q.y:Int)-p.y)*((r.x:Int)-p.x)=0:=by grind
  rcases Int.mul_eq_zero.1 f with h|h<;>lia
 ·apply xH;intro hc;have a:=M L;have F:(r.y:Int)=q.y:=by lia
  rw[F]at t
  have f:((q.y:Int)-p.y)*((r.x:Int)-q.x)=0:=by
   have:((q.y:Int)-p.y)*((r.x:Int)-q.x) = - (((q.x:Int)-p.x)*((q.y:Int)-q.y)-((q.y:Int)-p.y)*((r.x:Int)-q.x)):=by grind
   rw[this,t];rfl
  rcases Int.mul_eq_zero.1 f with h|h<;>lia
def bg(S:Plan)(l:Nat×Nat):Nat×Nat:=if(S.pt l.1).x<(S.pt l.2).x then l else(l.2,l.1)
def bb(S:Plan)(s:Nat×Nat)(z:Pt):Bool:=decide ((S.pt s.1).x<=z.x)&&(decide (z.x<(S.pt s.2).x)&&decide (0<xL (S.pt s.1) (S.pt s.2) z))
def bR(S:Plan)(s o:Nat×Nat):Bool:=
 if s.1=o.1 then decide (0<xL (S.pt o.1) (S.pt o.2) (S.pt s.2))
 else if(S.pt s.1).x<(S.pt o.1).x then decide (xL (S.pt s.1) (S.pt s.2) (S.pt o.1)<0)
 else decide (0<xL (S.pt o.1) (S.pt o.2) (S.pt s.1))
def ba(S:Plan)(z:Pt) (j:Option (Nat×Nat)) (l:Nat×Nat):Option (Nat×Nat):=
 if bb S (bg S l) z&&(match j with|none=>true|some b=>bR S (bg S l) b) then some (bg S l) else j
theorem a9.d6(F:a9 S){z:Pt}(hz:z.y<=1048575){l:Nat×Nat}(hl:l∈S.lines) :
  (bb S (bg S l) z=true↔XP (S.pt (dX S l).1)<XP z/\XP z<XP (S.pt (dX S l).2)/\0<xL (S.pt (dX S l).1) (S.pt (dX S l).2) z)/\
  (bb S (bg S l) z=true->bg S l=dX S l):=by
 have lt:=F.lines l hl;have M:=F.cB (i:=l.1) L;have O:=F.cB (i:=l.2) L;have U:=F.h;have G:=F.bH hl
 have key:∀(p q:Pt),p.y<=1048575->q.y<=1048575->p.x<=q.x->((p.x<=z.x/\z.x<q.x/\0<xL p q z)↔(XP p<XP z/\XP z<XP q/\0<xL p q z)):=by
  intro p q hp hq J;constructor
  ·rintro⟨h1,h2,j⟩;refine⟨?_,by unfold XP;lia,j⟩;by_cases e:p.x=z.x
   ·unfold xL GD GE at j
    have:((q.x:Int)-p.x)*((z.y:Int)-q.y)-((q.y:Int)-p.y)*((z.x:Int)-q.x)=((q.x:Int)-p.x)*((z.y:Int)-p.y):=by grind
    rw[this]at j;have s:=qb ((q.x:Int)-p.x) ((z.y:Int)-p.y);unfold XP;lia
   ·unfold XP;lia
  ·rintro⟨h1,h2,j⟩;unfold XP at h1 h2;refine⟨by lia,?_,j⟩;apply xH;intro hc;have e:z.x=q.x:=by lia
   unfold xL GD GE at j;have n:((z.x:Int)-q.x)=0:=by lia
   rw[n,Qbe]at j;have:=Gn (a:=(q.x:Int)-p.x) (b:=(z.y:Int)-q.y) L L;lia
 by_cases I:(S.pt l.1).x<(S.pt l.2).x
 ·have B:bg S l=l:=Wi I
  have n:dX S l=l:=by
   rcases G with⟨_,b⟩|⟨a,_⟩
   ·exact b
   ·exfalso;unfold XP at a;lia
  rw[B,n];refine⟨?_,fun _=>rfl⟩;unfold bb;grind
 ·have B:bg S l=(l.2,l.1):=Wh I;rw[B];by_cases he:(S.pt l.1).x=(S.pt l.2).x
  ·have f:bb S (l.2,l.1) z=false:=by unfold bb;rw[Bool.eq_false_iff];simp only[ne_eq,Gf,Wp];lia
   grind
  ·have n:dX S l=(l.2,l.1):=by
    rcases G with⟨a,_⟩|⟨_,b⟩
    ·exfalso;unfold XP at a;lia
    ·exact b
   rw[n];refine⟨?_,fun _=>rfl⟩;unfold bb;grind
theorem sJ{A B p t u:Int}(h0:A+B*p=0)(G:p<t)(I:p<u):(0<A+B*t↔0<A+B*u):=by
 have j:A+B*t=(t-p)*B:=by rw[Int.sub_mul];grind
 have n:A+B*u=(u-p)*B:=by rw[Int.sub_mul];grind
 rw[j,n];have z:=Yg (c:=t-p) (x:=B) L rfl;have F:=Yg (c:=u-p) (x:=B) L rfl;rw[z.1,F.1]
theorem a9.d9(F:a9 S){z:Pt}(hz:z.y<=1048575){s o:Dt} (B:s∈(dr S).E) (G:o∈(dr S).E) (U:s≠o)
  (s1:XP (S.pt s.1)<XP z) (s2:XP z<XP (S.pt s.2)) (s3:0<xL (S.pt s.1) (S.pt s.2) z)
  (o1:XP (S.pt o.1)<XP z) (o2:XP z<XP (S.pt o.2)) (o3:0<xL (S.pt o.1) (S.pt o.2) z) (ac:(S.pt s.1).x<(S.pt s.2).x) (ab:(S.pt o.1).x<(S.pt o.2).x) :
  bR S s o=true↔(dr S).h o (2*XP z)<(dr S).h s (2*XP z):=by
 have O:=F.ok;have ls:=F.dY B;have lo:=F.dY G;have d:=(dr S).dn s o (2*XP z);have J:((dr S).h o (2*XP z)<(dr S).h s (2*XP z)↔0<(dr S).h s 0-(dr S).h o 0+((dr S).s s-(dr S).s o)*(2*XP z)):=by lia
 rw[J];have bl:=F.fP B G U (by show max (XP (S.pt s.1)) (XP (S.pt o.1))<min (XP (S.pt s.2)) (XP (S.pt o.2));lia)
 have inner:((dr S).below o s->0<(dr S).h s 0-(dr S).h o 0+((dr S).s s-(dr S).s o)*(2*XP z))/\((dr S).below s o->¬0<(dr S).h s 0-(dr S).h o 0+((dr S).s s-(dr S).s o)*(2*XP z)):=by
  constructor
  ·intro b;have:=Dr.bM b (t:=2*XP z) (by show 2*XP (S.pt o.1)<_;lia) (by show 2*XP (S.pt s.1)<_;lia) (by show _<2*XP (S.pt o.2);lia) (by show _<2*XP (S.pt s.2);lia);lia
  ·intro b;have:=Dr.bM b (t:=2*XP z) (by show 2*XP (S.pt s.1)<_;lia) (by show 2*XP (S.pt o.1)<_;lia) (by show _<2*XP (S.pt s.2);lia) (by show _<2*XP (S.pt o.2);lia);lia
 unfold bR;by_cases q:s.1=o.1
 ·rw[Wi q,Wp];have k:=(F.ej (e:=s) G s.2 (F.F0 B)).2.2;rw[<-k]
  have z0:(dr S).h s 0-(dr S).h o 0+((dr S).s s-(dr S).s o)*(2*XP (S.pt s.1))=0:=by have d0:=(dr S).dn s o (2*XP (S.pt s.1));rw[<-d0,a9.uF,q,a9.uF];lia
  exact sJ z0 L L
 ·rw[Wh q]
  have j:∀(k:Nat),k<S.pts.length->(k=o.1\/k=s.1)->XP (S.pt s.1)<=XP (S.pt k)->XP (S.pt o.1)<=XP (S.pt k)->
    (0<(dr S).h s 0-(dr S).h o 0+((dr S).s s-(dr S).s o)*(2*XP (S.pt k))↔0<(dr S).h s 0-(dr S).h o 0+((dr S).s s-(dr S).s o)*(2*XP z))/\
    (dr S).h s 0-(dr S).h o 0+((dr S).s s-(dr S).s o)*(2*XP (S.pt k))≠0:=by
   intro k hk M k1 k2;have hm:max (XP (S.pt s.1)) (XP (S.pt o.1))=XP (S.pt k):=by rcases M with rfl|rfl<;>lia
   have aa:max (XP (S.pt o.1)) (XP (S.pt s.1))=XP (S.pt k):=by rw[Int.max_comm];exact hm
   have dk:=(dr S).dn s o (2*XP (S.pt k))
   have nz:(dr S).h s 0-(dr S).h o 0+((dr S).s s-(dr S).s o)*(2*XP (S.pt k))≠0:=by
    rcases M with e|e
    ·subst e;intro h0;have t:=(F.eo (f:=o) B o.1 (a9.uF o)).2.1.1 h0;have on:=Xu t (F.bT B) k1 L;rw[F.iX B lo.1 (fun e=>q e.symm) (by intro e;rw[e]at o1;lia)]at on;cases on
    ·subst e;intro h0;have t:=(F.ej (e:=s) G s.1 (a9.uF s)).2.1.1 h0;have on:=Xu t (F.bT G) k2 L;rw[F.iX G ls.1 q (by intro e;rw[e]at s1;lia)]at on;cases on
   refine⟨?_,nz⟩;rcases bl with b|b
   ·have I:=b.1;have I:(dr S).h s (2*max (XP (S.pt s.1)) (XP (S.pt o.1)))<=(dr S).h o (2*max (XP (S.pt s.1)) (XP (S.pt o.1))):=I;rw[hm]at I;have:=inner.2 b;lia
   ·have I:=b.1;have I:(dr S).h o (2*max (XP (S.pt o.1)) (XP (S.pt s.1)))<=(dr S).h s (2*max (XP (S.pt o.1)) (XP (S.pt s.1))):=I;rw[aa]at I;have:=inner.1 b;lia
  have bs:=F.cB ls.1;have bo:=F.cB lo.1;have hh:=F.h;by_cases hx:(S.pt s.1).x<(S.pt o.1).x
  ·rw[Wi hx,Wp];have k:=(F.eo (f:=o) B o.1 (a9.uF o)).2.2;rw[<-k];exact(j o.1 lo.1 (G1 Z) (by unfold XP;lia) (Qau _)).1
  ·rw[Wh hx,Wp];by_cases hX:XP (S.pt o.1)<=XP (S.pt s.1)
   ·have k:=(F.ej (e:=s) G s.1 (a9.uF s)).2.2;rw[<-k];exact(j s.1 ls.1 (UJ Z) (Qau _) hX).1
   ·-- one abscissa,s below o
    have ex:(S.pt s.1).x=(S.pt o.1).x:=by unfold XP at hX;lia
    have ey:(S.pt s.1).y<(S.pt o.1).y:=by unfold XP at hX;lia
    have e:=j o.1 lo.1 (G1 Z) L (Qau _);have k:=(F.eo (f:=o) B o.1 (a9.uF o))
    have t1:0<xL (S.pt s.1) (S.pt s.2) (S.pt o.1):=by
     unfold xL GD GE
     have:((S.pt s.2).x-(S.pt s.1).x:Int)*((S.pt o.1).y-(S.pt s.2).y)-((S.pt s.2).y-(S.pt s.1).y)*((S.pt o.1).x-(S.pt s.2).x)=((S.pt s.2).x-(S.pt s.1).x:Int)*((S.pt o.1).y-(S.pt s.1).y):=by rw[<-ex];grind
     rw[this];exact UN L L
    have t2:¬0<xL (S.pt o.1) (S.pt o.2) (S.pt s.1):=by
     unfold xL GD GE
     have:((S.pt o.2).x-(S.pt o.1).x:Int)*((S.pt s.1).y-(S.pt o.2).y)-((S.pt o.2).y-(S.pt o.1).y)*((S.pt s.1).x-(S.pt o.2).x) = - (((S.pt o.2).x-(S.pt o.1).x:Int)*((S.pt o.1).y-(S.pt s.1).y)):=by rw[ex];grind
     rw[this];have:=UN (a:=((S.pt o.2).x-(S.pt o.1).x:Int)) (b:=((S.pt o.1).y-(S.pt s.1).y:Int)) L L;lia
    have n:=k.1.2 t1;constructor
    ·intro h;exact Wm h t2
    ·intro h;have:=e.1.2 h;lia
theorem hG{s:Dt}{z:Pt}(h:bb S s z=true):(S.pt s.1).x<(S.pt s.2).x:=by unfold bb at h;lia
structure uo(S:Plan)(z:Pt) (seen:List (Nat×Nat)) (best:Option (Nat×Nat)):Prop where
 none_:best=none->∀l∈seen,bb S (bg S l) z=false
 some_:∀b,best=some b->b∈(dr S).E/\(S.pt b.1).x<(S.pt b.2).x/\XP (S.pt b.1)<XP z/\XP z<XP (S.pt b.2)/\0<xL (S.pt b.1) (S.pt b.2) z/\
  ∀l∈seen,bb S (bg S l) z=true->(dr S).h (dX S l) (2*XP z)<=(dr S).h b (2*XP z)
theorem a9.iN(F:a9 S){z:Pt}(hz:z.y<=1048575) {seen:List (Nat×Nat)} {B:Option (Nat×Nat)} (I:uo S z seen B) {l:Nat×Nat} (hl:l∈S.lines) :
  uo S z (seen++[l]) (ba S z B l):=by
 have st:=F.d6 hz hl;have J:dX S l∈(dr S).E:=List.mem_map.2 ⟨l,hl,Z⟩;unfold ba;by_cases h:bb S (bg S l) z=true
 ·have e:=st.2 h;have hc:=st.1.1 h;have G:=hG h;rw[e] at G;cases B with
  | none=>
   simp only[h,Bool.and_self,Wq];refine⟨fun q=>(by cases q),?_⟩;intro b j;simp only[Option.some.injEq]at j;subst j;rw[e];refine⟨J,G,hc.1,hc.2.1,hc.2.2,?_⟩;intro m n j;rcases List.mem_append.1 n with n|n
   ·rw[I.none_ Z m n]at j;cases j
   ·grind
  | some o=>
   obtain⟨M,O,U,o4,o5,o6⟩:=I.some_ o rfl;simp only[h,UA];by_cases q:bR S (bg S l) o=true
   ·rw[Wi q];refine⟨fun q=>(by cases q),?_⟩;intro b j;simp only[Option.some.injEq] at j;subst j;rw[e] at q ⊢;refine⟨J,G,hc.1,hc.2.1,hc.2.2,?_⟩
    have hi:(dr S).h o (2*XP z)<=(dr S).h (dX S l) (2*XP z):=by
     by_cases ne:dX S l=o
     ·lia
     ·have:=(F.d9 hz J M ne hc.1 hc.2.1 hc.2.2 U o4 o5 G O).1 q;lia
    grind
   ·rw[Wh q];refine⟨fun q=>(by cases q),?_⟩;intro b j;simp only[Option.some.injEq] at j;subst j;refine⟨M,O,U,o4,o5,?_⟩;intro m n j;rcases List.mem_append.1 n with n | n
    ·grind
    ·simp only[GW] at n;subst n;rw[e] at q;by_cases ne:dX S m=o
     ·lia
     ·have:=F.d9 hz J M ne hc.1 hc.2.1 hc.2.2 U o4 o5 G O;lia
 ·have h':bb S (bg S l) z=false:=by simpa using h
  simp only[h',VU,G6,Wr];refine⟨?_,?_⟩
  ·intro j m n;rcases List.mem_append.1 n with n | n
   ·exact I.none_ j m n
   grind
  ·intro b j;obtain⟨M,O,U,o4,o5,o6⟩:=I.some_ b j;grind
theorem Good.n0(G:Good S){z:Pt}(hz:U0 S z=true) {j:Option (Nat×Nat)} (I:uo S z S.lines j):∃e,j=some e/\Under S z e:=by
 have c:=i4 hz;have F:=G.fine;have J:z.y<=1048575:=by have:=c.y1;have:=F.h;lia
 cases j with
 | none=>
  exfalso;obtain⟨m,n,h1,h2,B⟩:=G.tH c;obtain⟨l,hl,rfl⟩:=List.mem_map.1 n;have:=I.none_ Z l hl;rw[(F.d6 J hl).1.2 ⟨h1,h2,B⟩]at this;cases this
 | some b=>
  obtain⟨M,_,O,U,o5,o6⟩:=I.some_ b rfl;refine⟨b,Z,M,O,U,o5,?_⟩;intro m n h1 h2 B;obtain⟨l,hl,rfl⟩:=List.mem_map.1 n;exact o6 l hl ((F.d6 J hl).1.2 ⟨h1,h2,B⟩)
def ck(n:Int):Int:=if 0<n then 1 else if n<0 then -1 else 0
def b'(S:Plan)(s:Dt)(one j:Nat):Bool:=
 if ck (xL (S.pt s.1) (S.pt s.2) (S.pt one))≠ck (xL (S.pt s.1) (S.pt s.2) (S.pt j))
 then decide (ck (xL (S.pt s.1) (S.pt s.2) (S.pt j))<ck (xL (S.pt s.1) (S.pt s.2) (S.pt one)))
 else decide (0<xL (S.pt s.2) (S.pt j) (S.pt one))
def cz(S:Plan)(s:Dt)(j:Option Nat)(n:Nat):Option Nat:=
 if n≠s.1/\(match j with|none=>true|some b=>b' S s n b)=true then some n else j
theorem a9.gs(F:a9 S){u v a b:Nat} (j:(dr S).aZ (v,u)) (n:(dr S).aZ (v,a)) (z:(dr S).aZ (v,b)) (G:a≠u) (nb:b≠u) :
  b' S (u,v) a b=true↔sn ((dr S).ky v u) ((dr S).ky v a) ((dr S).ky v b):=by
 have I:=F.cG j n;have cb:=F.cG j z;have C1:=F.cG n z
 have ta:xL (S.pt u) (S.pt v) (S.pt a) = - ((xI S v u).1*(xI S v a).2-(xI S v u).2*(xI S v a).1):=by unfold xL xI GD GE;grind
 have tb:xL (S.pt u) (S.pt v) (S.pt b) = - ((xI S v u).1*(xI S v b).2-(xI S v u).2*(xI S v b).1):=by unfold xL xI GD GE;grind
 have B:xL (S.pt v) (S.pt b) (S.pt a) = - ((xI S v a).1*(xI S v b).2-(xI S v a).2*(xI S v b).1):=by unfold xL xI GD GE;grind
 have J:=kY ((dr S).ky v u) ((dr S).ky v a);have M:=kY ((dr S).ky v u) ((dr S).ky v b)
 have O:¬(cr ((dr S).ky v u) ((dr S).ky v a)=0/\((dr S).ky v u).1=((dr S).ky v a).1):=by rintro⟨h1,h2⟩;apply G;apply F.ok.dM n j;unfold cr at h1;grind
 have U:¬(cr ((dr S).ky v u) ((dr S).ky v b)=0/\((dr S).ky v u).1=((dr S).ky v b).1):=by rintro⟨h1,h2⟩;apply nb;apply F.ok.dM z j;unfold cr at h1;grind
 unfold b' sn;simp only;rw[ta,tb,B];generalize (xI S v u).1*(xI S v a).2-(xI S v u).2*(xI S v a).1=x at *;generalize (xI S v u).1*(xI S v b).2-(xI S v u).2*(xI S v b).1=y at *;generalize (xI S v a).1*(xI S v b).2-(xI S v a).2*(xI S v b).1=w at *;generalize cr ((dr S).ky v u) ((dr S).ky v a)=p at *;generalize cr ((dr S).ky v u) ((dr S).ky v b)=q at *;generalize cr ((dr S).ky v a) ((dr S).ky v b)=r at *;generalize hf ((dr S).ky v u) ((dr S).ky v a)=f at *;generalize hf ((dr S).ky v u) ((dr S).ky v b)=g at *
 have sa:ck (-x)=if p<0 then 1 else if 0<p then -1 else 0:=by unfold ck;lia
 have sb:ck (-y)=if q<0 then 1 else if 0<q then -1 else 0:=by unfold ck;lia
 lia
theorem yI(O:K.Ok){u v a b:Nat}(j:K.dQ u v a)(n:K.dQ u v b):a=b:=by apply xH;intro z;have h1:=j.2 b n.1;have h2:=n.2 a j.1;exact h2 (kW h1 (fun e=>z (O.dM j.1 n.1 e)))
structure ub(S:Plan)(u v:Nat)(seen:List Nat)(best:Option Nat):Prop where
 none_:best=none->∀c∈seen,c=u
 some_:∀b,best=some b->(dr S).aZ (v,b)/\b≠u/\∀c∈seen,c≠u->¬sn ((dr S).ky v u) ((dr S).ky v c) ((dr S).ky v b)
theorem a9.ik(F:a9 S){u v:Nat} (O:(dr S).aZ (v,u)) {seen:List Nat} {j:Option Nat} (G:∀c∈seen,(dr S).aZ (v,c)) (I:ub S u v seen j) {n:Nat} (J:(dr S).aZ (v,n)) :
  ub S u v (seen++[n]) (cz S (u,v) j n):=by
 unfold cz;simp only;by_cases q:n=u
 ·rw[Wh (fun h=>h.1 q)];refine⟨?_,?_⟩
  ·intro z c hc;rcases List.mem_append.1 hc with hc | hc
   ·exact I.none_ z c hc
   grind
  ·intro b z;obtain⟨h1,h2,M⟩:=I.some_ b z;grind
 ·cases j with
  | none=>
   rw[Wi ⟨q,Z⟩];refine⟨fun h=>(by cases h),?_⟩;intro b z;simp only[Option.some.injEq]at z;subst z;refine⟨J,q,?_⟩;intro c hc B;rcases List.mem_append.1 hc with hc|hc
   ·exact Wm (I.none_ Z c hc) B
   ·simp only[GW]at hc;subst hc;exact jG
  | some o=>
   obtain⟨h1,h2,M⟩:=I.some_ o rfl;have U:=F.gs O J h1 q h2;by_cases w:b' S (u,v) n o=true
   ·rw[Wi ⟨q,w⟩];refine⟨fun h=>(by cases h),?_⟩;intro b z;simp only[Option.some.injEq] at z;subst z;refine⟨J,q,?_⟩;intro c hc B;rcases List.mem_append.1 hc with hc | hc
    ·exact fun h=>M c hc B (fb h (U.1 w))
    ·simp only[GW]at hc;subst hc;exact jG
   ·rw[Wh (fun h=>w h.2)];refine⟨fun h=>(by cases h),?_⟩;grind
theorem a9.kB(F:a9 S)(v:Nat):(S.near v).Nodup:=by
 unfold Plan.near
 have key:∀(l:List (Nat×Nat)),l.Nodup->(∀x∈l,x.1<x.2)->(l.filterMap fun(l:Nat×Nat)=>if l.1=v then some l.2 else if l.2=v then some l.1 else none).Nodup:=by
  intro l;induction l with
  |nil=>intro _ _;simp
  | cons a l z=>
   intro n hl;rw[UZ]at n;have B:=z n.2 (fun x j=>hl x (by simp[j]));have G:=hl a We;rw[Vz];by_cases q:a.1=v
   ·grind
   ·grind
 exact key S.lines F.nodup (fun x j=>(F.lines x j).1)
theorem a9.oJ(F:a9 S){u v:Nat} (h:(dr S).aZ (u,v)) (j:2<=(S.near v).length) {n:Option Nat} (I:ub S u v (S.near v) n):n=some (S.next u v):=by
 have B:(dr S).aZ (v,u):=h.rev;cases n with
 | none=>
  exfalso;have all:=I.none_ rfl;have nd:=F.kB v;match G:S.near v,j,nd,all with
  | a::b::r,_,nd,all=>
   have h1:=all a We;have h2:=all b We;rw[UZ]at nd;apply nd.1;rw[h1,h2];simp
  |[a],j,_,_=>simp at j
  |[],j,_,_=>simp at j
 | some b=>
  obtain⟨h1,h2,z⟩:=I.some_ b rfl
  have nb:(dr S).dQ u v b:=by
   refine⟨h1,?_⟩;intro c hc;by_cases q:c=u
   ·rw[q];exact mx
   ·exact z c (F.cj.2 hc) q
  rw[yI F.ok nb (F.eO h)]
open Gla (Pt Plan Mark)
theorem zG(S:Plan) (all:List (List Nat)):∀(B:List Mark) (k:Nat) (n:List (Option (List Nat))),
  (∀ i (h:i<B.length),(∀ j (I:j<i),¬ (S.among all (B[j]'(by lia)).at_∈n\/∃ z,∃ _:z<j,S.among all (B[z]'(by lia)).at_=S.among all (B[j]'(by lia)).at_))->
   (S.among all (B[i]).at_∈n\/∃j,∃_:j<i,S.among all (B[j]'(by lia)).at_=S.among all (B[i]).at_)->V7 S all k n B=some (k+i))/\
  ((∀i (h:i<B.length),¬(S.among all (B[i]).at_∈n\/∃j,∃_:j<i,S.among all (B[j]'(by lia)).at_=S.among all (B[i]).at_))->V7 S all k n B=none)
 |[],k,n=>⟨fun i h=>by simp at h,fun _=>rfl⟩
 | m::r,k,n=>by
  have M:=zG S all r (k+1) (S.among all m.at_::n);have F:V7 S all k n (m::r)=if n.contains (S.among all m.at_)=true then some k else V7 S all (k+1) (S.among all m.at_::n) r:=rfl
  have conv:∀j (I:j<r.length),(S.among all (r[j]).at_∈S.among all m.at_::n\/∃z,∃_:z<j,S.among all (r[z]'(by lia)).at_=S.among all (r[j]).at_)↔
    (S.among all ((m::r)[j+1]'(by simp;lia)).at_∈n\/∃z,∃_:z<j+1,S.among all ((m::r)[z]'(by simp;lia)).at_=S.among all ((m::r)[j+1]'(by simp;lia)).at_):=by
   intro j I;constructor
   ·rintro (h | ⟨z,J,e⟩)
    ·rcases List.mem_cons.1 h with e | h
     ·exact UJ ⟨0,by lia,by simpa using e.symm⟩
     ·exact G1 (by simpa using h)
    ·exact UJ ⟨z+1,by lia,by simpa using e⟩
   ·rintro (h | ⟨z,J,e⟩)
    ·left;simp only[Qba]at h;simp[h]
    ·cases z with
     |zero=>left;simp only[List.getElem_cons_zero,Qba]at e;simp[e]
     |succ z=>right;exact⟨z,by lia,by simpa using e⟩
  constructor
  ·intro i hi O hd;rw[F];cases i with
   | zero=>
    rcases hd with h|⟨j,I,_⟩
    ·rw[Wi (List.contains_iff_mem.2 (by simpa using h))];rfl
    ·lia
   | succ i=>
    have h0:=O 0 L;rw[Wh (fun h=>h0 (G1 (by simpa using List.contains_iff_mem.1 h)))];have G:i<r.length:=by simp at hi;lia
    rw[M.1 i G (fun j I h=>O (j+1) L ((conv j L).1 h)) ((conv i G).2 hd)];congr 1;lia
  ·intro h;rw[F];have h0:=h 0 We;rw[Wh (fun q=>h0 (G1 (by simpa using List.contains_iff_mem.1 q)))];exact M.2 (fun i hi q=>h (i+1) (by simp;lia) ((conv i hi).1 q))
theorem Good.mS(G:Good S){es:List Dt}(hl:es.length=S.marks.length)(hc:∀m∈S.marks,U0 S m.at_=true)
  (z:∀i (h:i<S.marks.length),Under S (S.marks[i]).at_ (es[i]'(by lia))) :
  (∀ i (h:i<S.marks.length),(∀ j (n:j<i),∀ k (hk:k<j),es[j]'(by lia)∉G.bG (es[k]'(by lia)))->(∃ j,∃(n:j<i),es[i]'(by lia)∈G.bG (es[j]'(by lia)))->
   V7 S S.outlines 0 [] S.marks=some i)/\
  ((∀i (h:i<S.marks.length),∀k (hk:k<i),es[i]'(by lia)∉G.bG (es[k]'(by lia)))->V7 S S.outlines 0 [] S.marks=none):=by
 have t:=zG S S.outlines S.marks 0 []
 have am:∀i (h:i<S.marks.length),S.among S.outlines (S.marks[i]).at_=some (G.vs (G.lead (es[i]'(by lia)))):=
  fun i h=>G.uy (hc _ (xP h)) (z i h)
 have conv:∀i (h:i<S.marks.length) j (n:j<i),S.among S.outlines (S.marks[j]'(by lia)).at_=S.among S.outlines (S.marks[i]).at_↔es[i]'(by lia)∈G.bG (es[j]'(by lia)):=by intro i h j n;rw[am i h,am j L,eq_comm];exact G.kC (G1 (z i h).mem) (G1 (z j L).mem)
 constructor
 ·intro i h B hd
  have:=t.1 i h (fun j n=>by
   rintro(q|⟨k,hk,e⟩)
   ·simp at q
   ·exact B j n k hk ((conv j L k hk).1 e)) (by
   obtain⟨j,n,e⟩:=hd;exact UJ ⟨j,n,(conv i h j n).2 e⟩)
  rw[this];congr 1;lia
 ·intro h;apply t.2;intro i hi;rintro (q | ⟨k,hk,e⟩)
  ·simp at q
  ·exact h i hi k hk ((conv i hi k hk).1 e)
def cp(bar:Int)(a:List Nat×List Nat)(j:Nat):List Nat×List Nat:=if(j:Int)≠bar/\j∉a.2 then(a.1++[j],a.2++[j]) else a
structure eh(n:Nat)(bar:Int)(ws fk todo:List Nat)(seen:Array Bool):Prop where
 size:seen.size=n
 ws:ws=todo.reverse
 nd:fk.Nodup
 lt:∀j∈fk,j<n
 nb:∀j∈fk,(j:Int)≠bar
 sub:∀j∈todo,j<n
 iff_:∀j,j<n->(seen.getD j true=true↔(j∈fk\/(j:Int)=bar))
theorem mX{n:Nat}{bar:Int}{ws z todo:List Nat}{seen:Array Bool}(R:eh n bar ws z todo seen){j:Nat}(O:j<n) :
  eh n bar (cp bar (ws,z) j).1 (cp bar (ws,z) j).2 (XE (todo,seen) j).1 (XE (todo,seen) j).2/\
  (XE (todo,seen) j).1.length+(n-(cp bar (ws,z) j).2.length)=todo.length+(n-z.length):=by
 unfold cp XE;simp only;have e:=R.iff_ j O;have len:=bN (l:=z) (m:=xN n) R.nd (fun x I=>List.mem_range.2 (R.lt x I));rw[U4]at len;by_cases q:seen.getD j true=true
 ·rw[Wi q,Wh (fun h=>by rcases e.1 q with h1|h1<;>simp_all)];exact⟨R,rfl⟩
 ·have J:(j:Int)≠bar/\j∉z:=⟨fun h=>q (e.2 (UJ h)),fun h=>q (e.2 (G1 h))⟩;rw[Wh q,Wi J]
  have B:(z++[j]).Nodup:=by rw[VO];refine⟨R.nd,by simp,?_⟩;intro a U b M;simp only[GW]at M;subst M;intro e;subst e;exact J.2 U
  have F:∀i∈z++[j],i<n:=by
   intro i hi;rcases List.mem_append.1 hi with h|h
   ·exact R.lt i h
   ·simp only[GW]at h;lia
  have G:=bN (l:=z++[j]) (m:=xN n) B (fun x I=>List.mem_range.2 (F x I));rw[U4,xF,G0]at G;refine⟨⟨by simp[R.size],by simp[R.ws],B,F,?_,?_,?_⟩,by simp only[xO,xF,UX];lia⟩
  ·intro i hi;rcases List.mem_append.1 hi with h | h
   ·exact R.nb i h
   ·simp only[GW]at h;subst h;exact J.1
  ·intro i hi;rcases List.mem_cons.1 hi with h | h
   ·lia
   ·exact R.sub i h
  ·intro i hi;rw[Zy];by_cases c:j=i
   ·subst c;rw[Wi ⟨Z,by rw[R.size];exact hi⟩];simp
   ·rw[Wh (fun h=>c h.1),R.iff_ i hi];have:¬i=j:=fun h=>c h.symm;simp[this]
theorem dI{n:Nat}{bar:Int}:∀(l:List Nat) {ws z todo:List Nat} {seen:Array Bool},eh n bar ws z todo seen->(∀j∈l,j<n)->
  eh n bar (l.foldl (cp bar) (ws,z)).1 (l.foldl (cp bar) (ws,z)).2 (l.foldl XE (todo,seen)).1 (l.foldl XE (todo,seen)).2/\
  (l.foldl XE (todo,seen)).1.length+(n-(l.foldl (cp bar) (ws,z)).2.length)=todo.length+(n-z.length)
 |[],_,_,_,_,R,_=>⟨R,Z⟩
 | j::l,ws,z,todo,seen,R,h=>by
  obtain⟨B,F⟩:=mX R (h j We);have:=dI l B (fun i hi=>h i (by simp[hi]));rw[UE,UE];exact⟨this.1,this.2.trans F⟩
theorem kO{n:Nat}{bar:Int}{st:Nat}(B:st<n) (F:(st:Int)≠bar) :
  eh n bar [st] [st] [st] ((if 0<=bar then(Gh n).setIfInBounds bar.toNat true else Gh n).setIfInBounds st true) where
 size:=by by_cases q:0<=bar<;>simp[q,Gh]
 ws:=rfl
 nd:=by simp
 lt:=by intro j z;simp only[GW]at z;lia
 nb:=by intro j z;simp only[GW]at z;subst z;exact F
 sub:=by intro j z;simp only[GW]at z;lia
 iff_:=by
  intro j z;have none_:(Gh n).getD j true=false:=by simp[Gh,x9,z]
  rw[Zy];by_cases c:st=j
  ·grind
  ·rw[Wh (fun h=>c h.1)];have G:¬ j=st:=fun h=>c h.symm;by_cases q:0<=bar
   ·rw[Wi q,Zy,none_];grind
   grind
theorem rF{n:Nat}{bar:Int}{ws j:List Nat}{seen:Array Bool}(R:eh n bar ws j [] seen)(i:Nat)(hi:i<n) (z:(i:Int)≠bar):seen.getD i false=true↔i∈j:=by
 have:=R.iff_ i hi
 have e:seen.getD i false=seen.getD i true:=by rw[x9,x9,GV (by rw[R.size];exact hi)];rfl
 rw[e,this];simp[z]
theorem eL{n v:Nat}(J:v<n){ws j:List Nat}{seen:Array Bool}(R:eh n v ws j [] seen):seen.contains false=true↔j.length<n-1:=by
 have B:∀x∈j,x∈(xN n).erase v:=by intro x z;have h1:=R.lt x z;have h2:=R.nb x z;grind
 have len:=bN R.nd B;have M:((xN n).erase v).length=n-1:=by rw[Ue (List.mem_range.2 J),U4]
 rw[M]at len;constructor
 ·intro h;rw[Qbg] at h;obtain⟨i,hi,e⟩:=Array.mem_iff_getElem.1 h;have G:i<n:=by rw[<-R.size];exact hi
  have g:seen.getD i true=false:=by rw[x9,GV hi,e];rfl
  have I:=R.iff_ i G;have O:i∉j:=fun h=>by rw[I.2 (G1 h)]at g;cases g
  have n2:i≠v:=fun h=>by rw[I.2 (UJ L)]at g;cases g
  have:=bN (l:=i::j) (m:=(xN n).erase v) (List.nodup_cons.2 ⟨O,R.nd⟩) (fun x z=>by
   grind)
  grind
 ·intro h;apply xH;intro hc
  have all:∀x∈(xN n).erase v,x∈j:=by
   intro x z;have F:=List.mem_range.1 (Uy z);have U:x≠v:=by intro e;subst e;exact(List.Nodup.not_mem_erase Qa5) z
   apply xH;intro hn;apply hc;rw[Qbg]
   have g:¬seen.getD x true=true:=fun q=>by
    rcases(R.iff_ x F).1 q with h|h;all_goals lia
   rw[x9,GV (by rw[R.size];exact F)]at g;grind
  have:=bN (l:=(xN n).erase v) (m:=j) (List.nodup_range.erase v) all;lia
open Gla
def seg(b:Bytes)(p n:Nat):Bytes:=(b.drop p).take n
theorem mz{b:Bytes}{p n:Nat}(h:p+n<=b.length):(seg b p n).length=n:=by unfold seg;grind
theorem ZK(b:Bytes)(p m n:Nat):seg b p m++seg b (p+m) n=seg b p (m+n):=by unfold seg;rw[List.take_add,G5]
theorem Yi(b:Bytes)(p m n:Nat)(r:Bytes):seg b p m++(seg b (p+m) n++r)=seg b p (m+n)++r:=by rw[<-GS,ZK]
theorem lM(b:Bytes){n:Nat}(h:n=b.length):seg b 0 n=b:=by unfold seg;grind
theorem wB(b:Bytes)(p:Nat):seg b p 0=[]:=by simp[seg]
theorem gp:∀l:Bytes,le l.length (numLe l)=l
 |[]=>rfl
 | c::r=>by
  have h:=c.toNat_lt;show UInt8.ofNat ((c.toNat+256*numLe r)%256)::le r.length ((c.toNat+256*numLe r)/256)=c::r;rw[show(c.toNat+256*numLe r)%256=c.toNat by lia,show(c.toNat+256*numLe r)/256=numLe r by lia,gp r,UInt8.ofNat_toNat]
theorem QZ{b:Bytes}{p w:Nat}(h:p+w<=b.length):le w (num b p w)=seg b p w:=by have:=gp (seg b p w);rw[mz h]at this;exact this
theorem Zr(b:Bytes)(p k:Nat){f:Nat->Bytes}:∀n,(∀i,i<n->f i=seg b (p+k*i) k)->(xN n).flatMap f=seg b p (k*n)
 |0,_=>by rw[Nat.mul_zero,wB];rfl
 | n+1,h=>by
  rw[UY,Qai,Zr b p k n fun i hi=>h i L];simp only[VQ,List.flatMap_nil,Uw];rw[h n L,ZK,Qbc]
theorem ZY{α β:Type}(f:Nat->α)(g:α->List β)(n:Nat):((xN n).map f).flatMap g=(xN n).flatMap fun i=>g (f i):=by rw[List.flatMap_map]
theorem iI{c:Bytes}(h1:c.take 4=MAGIC)(h2:num c 18 2=0)(U:c.length=20+8*num c 12 2+4*num c 14 2+12*num c 16 2):writePlan (parts c)=c:=by
 unfold writePlan;have B:(parts c).pts.length=num c 12 2:=by unfold parts;simp
 have F:(parts c).lines.length=num c 14 2:=by unfold parts;simp
 have G:(parts c).marks.length=num c 16 2:=by unfold parts;simp
 have I:MAGIC=seg c 0 4:=by rw[<-h1];simp[seg]
 have z:le 2 0=seg c 18 2:=by rw[<-h2,QZ L]
 have J:(parts c).pts.flatMap (fun(p:Pt)=>le 4 p.x++le 4 p.y)=seg c 20 (8*num c 12 2):=by show((xN (num c 12 2)).map _).flatMap _=_;rw[ZY];refine Zr c 20 8 _ fun i hi=>?_;show le 4 (num c (20+8*i) 4)++le 4 (num c (20+8*i+4) 4)=_;rw[QZ L,QZ L,ZK]
 have p2:(parts c).lines.flatMap (fun(l:Nat×Nat)=>le 2 l.1++le 2 l.2)=seg c (20+8*num c 12 2) (4*num c 14 2):=by show((xN (num c 14 2)).map _).flatMap _=_;rw[ZY];refine Zr c (20+8*num c 12 2) 4 _ fun i hi=>?_;show le 2 (num c (20+8*num c 12 2+4*i) 2)++le 2 (num c (20+8*num c 12 2+4*i+2) 2)=_;rw[QZ L,QZ L,ZK]
 have M:(parts c).marks.flatMap (fun(m:Mark)=>le 4 m.at_.x++(le 4 m.at_.y++(le 2 m.glass++le 2 m.painting)))=seg c (20+8*num c 12 2+4*num c 14 2) (12*num c 16 2):=by
  show((xN (num c 16 2)).map _).flatMap _=_;rw[ZY];refine Zr c (20+8*num c 12 2+4*num c 14 2) 12 _ fun i hi=>?_;generalize j:20+8*num c 12 2+4*num c 14 2+12*i=q;have O:q+12<=c.length:=by lia
  show le 4 (num c (HEAD+8*num c 12 2+4*num c 14 2+12*i) 4)++(le 4 (num c (HEAD+8*num c 12 2+4*num c 14 2+12*i+4) 4)++(le 2 (num c (HEAD+8*num c 12 2+4*num c 14 2+12*i+8) 2)++le 2 (num c (HEAD+8*num c 12 2+4*num c 14 2+12*i+10) 2)))=_;rw[show HEAD+8*num c 12 2+4*num c 14 2+12*i=q from j,QZ L,QZ L,QZ L,QZ L,Yi,Yi,show q+10=q+(4+4+2) by lia,ZK]
 rw[B,F,G,J,p2,M,z,I];show seg c 0 4++(le 4 (num c 4 4)++(le 4 (num c 8 4)++(le 2 (num c 12 2)++(le 2 (num c 14 2)++(le 2 (num c 16 2)++(seg c 18 2++(seg c 20 (8*num c 12 2)++(seg c (20+8*num c 12 2) (4*num c 14 2)++seg c (20+8*num c 12 2+4*num c 14 2) (12*num c 16 2)))))))))=c;rw[QZ L,QZ L,QZ (b:=c) (p:=12) L,QZ (b:=c) (p:=14) L,QZ (b:=c) (p:=16) L];have s:∀(p m n:Nat)(r:Bytes)(q:Nat),q=p+m->seg c p m++(seg c q n++r)=seg c p (m+n)++r:=fun p m n r q j=>by rw[j,Yi]
 rw[s 0 4 4 _ 4 Z,s 0 8 4 _ 8 Z,s 0 12 2 _ 12 Z,s 0 14 2 _ 14 Z,s 0 16 2 _ 16 Z,s 0 18 2 _ 18 Z,s 0 20 _ _ 20 Z,s 0 _ _ _ _ L];have t:∀(p m n q:Nat),q=p+m->seg c p m++seg c q n=seg c p (m+n):=fun p m n q j=>by rw[j,ZK]
 rw[t 0 _ _ _ L];exact lM c L
theorem jc{b:Bytes}{p:Nat}(h:p+64<=b.length):lightBytes (lightAt b p)=seg b p 64:=by unfold lightBytes lightAt BANDS;rw[ZY];exact Zr b p 2 32 fun i hi=>QZ L
theorem ra{ks:List Kind}{b:Bytes}{p:Nat}(h:p+69<=b.length)(j:badCoat ks b p=none):coatBytes (coatsAt b p)=seg b (p+64) 5:=by
 unfold badCoat at j;simp only at j;split at j
 ·cases j
 ·rename_i q
  have q:1<=num b (p+64) 1/\num b (p+64) 1<=4:=by unfold within at q;simpa using q
  rw[VW,Uz]at j;have e:(coatsAt b p).length=num b (p+64) 1:=by unfold coatsAt;simp
  unfold coatBytes;rw[e,QZ L]
  have c1:(coatsAt b p).flatMap (le 1)=seg b (p+65) (1*num b (p+64) 1):=by unfold coatsAt;rw[ZY];refine Zr b (p+65) 1 _ fun i hi=>?_;rw[Qas];exact QZ L
  have z:∀i,num b (p+64) 1<=i->i<4->seg b (p+65+i) 1=[0]:=by
   intro i h1 h2;have:=j i (List.mem_range.2 h2);rw[Wh L]at this;have:num b (p+65+i) 1=0:=by simpa using this
   rw[<-QZ L,this];rfl
  have c2:xS (4-num b (p+64) 1) (0:UInt8)=seg b (p+65+num b (p+64) 1) (1*(4-num b (p+64) 1)):=by
   rw[<-Zr b (p+65+num b (p+64) 1) 1 (f:=fun _=>[0]) (4-num b (p+64) 1) (fun i hi=>by
    rw[Qas,Gs,z _ L L])]
   generalize 4-num b (p+64) 1=k;induction k with
   |zero=>rfl
   |succ k n=>rw[List.replicate_succ',n,UY,Qai];rfl
  rw[c1,c2,Qas,Qas,ZK,show p+65=p+64+1 by lia,ZK];congr 1;lia
theorem iO{b:Bytes}{ks:List Kind}(h1:b.take 4=WORKSHOP) (h2:b.length=(partsAt b).2.2.2.2) (z:writePlan S=seg b 80 (num b 4 4)) (B:∀i,i<num b 68 4->badCoat ks b ((partsAt b).2.2.2.1+69*i)=none) :
  writeShop (shopParts b S)=b:=by
 have hl:b.length=80+num b 4 4+16*num b 56 4+8*num b 60 4+64*num b 64 4+69*num b 68 4:=h2;have F:WORKSHOP=seg b 0 4:=by rw[<-h1];simp[seg]
 have G:(writePlan S).length=num b 4 4:=by rw[z,mz L]
 have I:(shopParts b S).sheets.length=num b 56 4:=by unfold shopParts;simp
 have J:(shopParts b S).kinds.length=num b 60 4:=by unfold shopParts;simp
 have M:(shopParts b S).glass.length=num b 64 4:=by unfold shopParts;simp
 have O:(shopParts b S).paint.length=num b 68 4:=by unfold shopParts;simp
 have U:(shopParts b S).numbers.flatMap (le 4)=seg b 8 64:=by unfold Workshop.numbers;rw[I,J,M,O];show [num b 8 4,num b 12 4,num b 16 4,num b 20 4,num b 24 4,num b 28 4,num b 32 4,num b 36 4,num b 40 4,num b 44 4,num b 48 4,num b 52 4,num b 56 4,num b 60 4,num b 64 4,num b 68 4].flatMap (le 4)=_;have:=Zr b 8 4 (f:=fun i=>le 4 (num b (8+4*i) 4)) 16 fun i hi=>QZ L;rw[<-this];rfl
 have s1:(shopParts b S).sheets.flatMap (fun(s:Sheet)=>le 4 s.glass++(le 4 s.w++(le 4 s.h++le 4 s.turns)))=seg b (80+num b 4 4) (16*num b 56 4):=by
  show((xN (num b 56 4)).map _).flatMap _=_;rw[ZY];refine Zr b _ 16 _ fun i hi=>?_;generalize j:80+num b 4 4+16*i=q;have:q+16<=b.length:=by lia
  show le 4 (num b (FRONT+num b 4 4+16*i) 4)++(le 4 (num b (FRONT+num b 4 4+16*i+4) 4)++(le 4 (num b (FRONT+num b 4 4+16*i+8) 4)++le 4 (num b (FRONT+num b 4 4+16*i+12) 4)))=_;rw[show FRONT+num b 4 4+16*i=q from j,QZ L,QZ L,QZ L,QZ L,Yi,Yi,show q+12=q+(4+4+4) by lia,ZK]
 have s2:(shopParts b S).kinds.flatMap (fun(k:Kind)=>le 4 k.heat++le 4 k.hold)=seg b (80+num b 4 4+16*num b 56 4) (8*num b 60 4):=by show((xN (num b 60 4)).map _).flatMap _=_;rw[ZY];refine Zr b _ 8 _ fun i hi=>?_;show le 4 (num b (80+num b 4 4+16*num b 56 4+8*i) 4)++le 4 (num b (80+num b 4 4+16*num b 56 4+8*i+4) 4)=_;rw[QZ L,QZ L,ZK]
 have s3:(shopParts b S).glass.flatMap lightBytes=seg b (80+num b 4 4+16*num b 56 4+8*num b 60 4) (64*num b 64 4):=by show((xN (num b 64 4)).map _).flatMap _=_;rw[ZY];have q:(partsAt b).2.2.1=80+num b 4 4+16*num b 56 4+8*num b 60 4:=rfl;exact Zr b _ 64 _ fun i hi=>jc (by rw[q];lia)
 have s4:(shopParts b S).paint.flatMap (fun(p:Light×Coats)=>lightBytes p.1++coatBytes p.2)=seg b (80+num b 4 4+16*num b 56 4+8*num b 60 4+64*num b 64 4) (69*num b 68 4):=by show((xN (num b 68 4)).map _).flatMap _=_;rw[ZY];refine Zr b _ 69 _ fun i hi=>?_;have:=B i hi;have q:(partsAt b).2.2.2.1=80+num b 4 4+16*num b 56 4+8*num b 60 4+64*num b 64 4:=rfl;show lightBytes (lightAt b ((partsAt b).2.2.2.1+69*i))++coatBytes (coatsAt b ((partsAt b).2.2.2.1+69*i))=_;rw[jc L,ra L this,ZK,q]
 unfold writeShop;rw[U,s1,s2,s3,s4];show WORKSHOP++(le 4 (writePlan S).length++(seg b 8 64++(le 8 (num b 72 8)++(writePlan S++_))))=b;rw[G,z,F,QZ L,QZ L];have s:∀(p m n:Nat)(r:Bytes)(q:Nat),q=p+m->seg b p m++(seg b q n++r)=seg b p (m+n)++r:=fun p m n r q j=>by rw[j,Yi]
 rw[s 0 4 4 _ 4 Z,s 0 8 64 _ 8 Z,s 0 72 8 _ 72 Z,s 0 80 _ _ 80 Z,s 0 _ _ _ _ L,s 0 _ _ _ _ L,s 0 _ _ _ _ L];have t:∀(p m n q:Nat),q=p+m->seg b p m++seg b q n=seg b p (m+n):=fun p m n q j=>by rw[j,ZK]
 rw[t 0 _ _ _ L];exact lM b L
theorem eW(c:UInt8)(t:Bytes):oneOf [[c]] t=if t.head?=some c then .ok (0,1) else .error 0:=by
 unfold oneOf firstAt;cases t with
 |nil=>simp[agree]
 | cons d r=>
  by_cases h:d=c
  ·subst h;simp
  ·have h':¬c=d:=fun e=>h e.symm;simp[h,h',agree]
def cf(most:Nat):Option Nat->Bytes->Option Nat×Nat
 |v,[]=>(v,0)
 | v,c::r=>if isDigit c=false then (v,0) else
  let u:=10*v.getD 0+(c.toNat-48)
  if v=some 0\/most<u then(v,0) else
   let x:=cf most (some u) r
   (x.1,x.2+1)
def cq(most:Nat)(t:Bytes):Option Nat×Nat:=cf most none t
theorem yQ(most:Nat):∀(t:Bytes)(v k:Nat),0<v->match moreDigits most v k t with
  |.ok x=>cf most (some v) t=(some x.1,x.2-k)/\k<=x.2/\0<x.1
  |.error e=>∃u,cf most (some v) t=(some u,e-k)/\k<=e/\∃c,(t.drop (e-k)).head?=some c/\isDigit c=true
 |[],v,k,_=>by simp[moreDigits,cf];assumption
 | c::r,v,k,hv=>by
  unfold moreDigits;by_cases h:isDigit c=true
  ·rw[Wi h];simp only;have G:¬ isDigit c=false:=by rw[h];simp
   by_cases m:most<10*v+(c.toNat-48)
   ·rw[Wi m];refine⟨v,?_,xM _,c,by simp,h⟩;unfold cf;grind
   ·rw[Wh m];have j:=yQ most r (10*v+(c.toNat-48)) (k+1) L
    have e:cf most (some v) (c::r)=((cf most (some (10*v+(c.toNat-48))) r).1,(cf most (some (10*v+(c.toNat-48))) r).2+1):=by
     conv=>lhs;unfold cf
     grind
    cases q:moreDigits most (10*v+(c.toNat-48)) (k+1) r with
    | ok x=>
     rw[q]at j;obtain⟨i1,z,n⟩:=j;refine⟨?_,by lia,n⟩;rw[e,i1];simp only[Prod.mk.injEq,true_and];lia
    | error x=>
     rw[q]at j;obtain⟨u,i1,z,B,n,F⟩:=j;refine⟨u,?_,by lia,B,?_,F⟩
     ·grind
     ·rw[show x-k=(x-(k+1))+1 by lia];grind
  ·rw[Wh h];have hf:isDigit c=false:=by simpa using h
   refine⟨?_,xM _,hv⟩;unfold cf;lia
theorem hC{c:UInt8}(h:isDigit c=true):48<=c.toNat/\c.toNat<=57:=by unfold isDigit at h;simpa using h
theorem jy{most:Nat}(n:9<=most)(t:Bytes):match number most t with
  |.ok x=>cq most t=(some x.1,x.2)
  |.error 0=>cq most t=(none,0)
  |.error (k+1)=>∃u,cq most t=(some u,k+1)/\∃c,(t.drop (k+1)).head?=some c/\isDigit c=true:=by
 cases t with
 |nil=>simp[number,cq,cf]
 | cons c r=>
  unfold number;simp only;by_cases h:isDigit c=false
  ·rw[Wi h];simp only[cq];unfold cf;lia
  ·rw[Wh h];have hd:isDigit c=true:=by simpa using h
   have B:=hC hd
   have e:cq most (c::r)=((cf most (some (c.toNat-48)) r).1,(cf most (some (c.toNat-48)) r).2+1):=by
    unfold cq
    conv=>lhs;unfold cf
    grind
   by_cases z:c=48
   ·rw[Wi z];subst z;rw[e]
    have:cf most (some ((48:UInt8).toNat-48)) r=(some 0,0):=by
     cases r with
     |nil=>rfl
     | cons d r=>
      unfold cf;by_cases q:isDigit d=false
      ·lia
      ·lia
    rw[this]
   ·rw[Wh z]
    have j:0<c.toNat-48:=by
     have:c.toNat≠48:=fun q=>z (by
      have:c.toNat=(48:UInt8).toNat:=q;exact UInt8.toNat_inj.1 this)
     lia
    have F:=yQ most r (c.toNat-48) 1 j;grind
def bf:List Nat->Bytes->Option (List Nat)×Nat
 |[],_=>(some [],0)
 | m::r,t=>match cq m t with
  |(none,k)=>(none,k)
  | (some v,k)=>if (t.drop k).head?=some (if r=[] then 10 else 32) then
    match bf r (t.drop (k+1)) with
    |(none,j)=>(none,k+1+j)
    |(some l,j)=>(some (v::l),k+1+j)
   else(none,k)
theorem jX{c:UInt8}(h:isDigit c=true):c≠10/\c≠32:=by
 have:=hC h;constructor
 ·intro e;subst e;revert this;decide
 ·intro e;subst e;revert this;decide
theorem gK:∀(z:List Nat)(t:Bytes),z≠[]->(∀m∈z,9<=m)->numbers z (32::t)=match bf z t with
  |(some l,j)=>.ok (l,1+j)
  |(none,j)=>.error (1+j)
 |[],_,h,_=>Wm Z h
 | m::r,t,_,hm=>by
  have n:=jy (hm m We) t;unfold numbers bf;rw[eW,Wi Wg];simp only[GQ,G4];cases q:number m t with
  | error k=>
   rw[q]at n;match k,n with
   | 0,n=>
    rw[n]
   | k+1,n=>
    obtain⟨u,h1,c,h2,F⟩:=n;rw[h1];simp only;rw[Wh];rw[h2];have:=jX F;intro e;have e:c=if r=[] then 10 else 32:=Wo e
    split at e
    ·lia
    ·lia
  | ok x=>
   rw[q]at n;simp only at n;rw[n];simp only;rw[show 1+x.2=x.2+1 by lia,GQ];by_cases hr:r=[]
   ·subst hr;simp only[Wq];unfold numbers bf;rw[eW];by_cases h:(t.drop x.2).head?=some 10
    ·rw[Wi h,Wi h];simp[Except.map];lia
    ·rw[Wh h,Wh h];simp[Except.map];lia
   ·rw[Wh hr];by_cases h:(t.drop x.2).head?=some 32
    ·rw[Wi h]
     have e:t.drop x.2=32::t.drop (x.2+1):=by
      cases d:t.drop x.2 with
      |nil=>rw[d]at h;cases h
      | cons a b=>
       rw[d]at h;cases h;rw[<-G5,d];rfl
     rw[e,gK r _ hr fun B h'=>hm B (xR _ h')];lia
    ·rw[Wh h];match r,hr with
     | B::r',_=>
      unfold numbers;rw[eW,Wh h];simp only[Except.error.injEq];lia
def bh:Nat->Bytes->Option (List Nat)×Nat
 |0,_=>(none,0)
 | n+1,t=>match cq 255 t with
  |(none,k)=>(none,k)
  | (some v,k)=>if (t.drop k).head?=some 10 then (some [v],k+1)
   else if n=0 then(none,k)
   else if(t.drop k).head?=some 32 then
    match bh n (t.drop (k+1)) with
    |(none,j)=>(none,k+1+j)
    |(some l,j)=>(some (v::l),k+1+j)
   else(none,k)
theorem head_drop{t:Bytes}{c:UInt8} (h:(t.drop k).head?=some c):t.drop k=c::t.drop (k+1):=by
 cases d:t.drop k with
 |nil=>rw[d]at h;cases h
 | cons a b=>
  rw[d]at h;cases h;rw[<-G5,d];rfl
theorem oS:∀(n:Nat)(t:Bytes),someNumbers (n+1) (32::t)=match bh (n+1) t with
  |(some l,j)=>.ok (l,1+j)
  |(none,j)=>.error (1+j):=by
 intro n;induction n with
 | zero=>
  intro t;have z:=jy (most:=255) Wa t;unfold someNumbers bh;rw[eW,Wi Wg];simp only[GQ,G4];cases q:number 255 t with
  | error k=>
   rw[q]at z;match k,z with
   |0,z=>rw[z]
   | k+1,z=>
    obtain⟨u,h1,c,h2,B⟩:=z;rw[h1];simp only;have:=jX B;rw[Wh (by rw[h2];intro e;exact this.1 (Wo e)),Wi trivial]
  | ok x=>
   rw[q]at z;simp only at z;rw[z];simp only;rw[show 1+x.2=x.2+1 by lia,GQ];by_cases h:(t.drop x.2).head?=some 10
   ·lia
   ·rw[Wh h,Wh h,Wi trivial,Wi trivial,eW,Wh h];simp[Except.map];lia
 | succ n F=>
  intro t;have z:=jy (most:=255) Wa t;unfold someNumbers bh;rw[eW,Wi Wg];simp only[GQ,G4];cases q:number 255 t with
  | error k=>
   rw[q]at z;match k,z with
   |0,z=>rw[z]
   | k+1,z=>
    obtain⟨u,h1,c,h2,B⟩:=z;rw[h1];simp only;have:=jX B;rw[Wh (by rw[h2];intro e;exact this.1 (Wo e)),Wh L,Wh (by rw[h2];intro e;exact this.2 (Wo e))]
  | ok x=>
   rw[q]at z;simp only at z;rw[z];simp only;rw[show 1+x.2=x.2+1 by lia,GQ];by_cases h:(t.drop x.2).head?=some 10
   ·lia
   ·rw[Wh h,Wh h,Wh L,Wh L];by_cases h2:(t.drop x.2).head?=some 32
    ·rw[Wi h2,head_drop h2,F];lia
    ·rw[Wh h2];unfold someNumbers;rw[eW,Wh h2];lia
end Pl
namespace L2
open PySem PySem.Spec PyProof.Rows
theorem PE.imp{X:Cx}{e:Expr}{t t':TE}(h:PE X e t)(f:∀σ H Q,t' σ H Q->t σ H Q):PE X e t':=fun pins s σ H Q I q=>h pins s σ H Q I (f σ H Q q)
inductive KP(K:xz)(i:Nat)(σ:St)(H:Hp)(Q:VK):Prop
 |mk (a:_) (x:_) (y:_):σ[i]?=some (some (.ref a))->bV K H a [.int x,.int y]->Q (.int x) H->KP K i σ H Q
inductive KO(K:xz)(i:Nat)(σ:St)(H:Hp)(Q:VK):Prop
 |mk (a:_) (x:_) (y:_):σ[i]?=some (some (.ref a))->bV K H a [.int x,.int y]->Q (.int y) H->KO K i σ H Q
theorem QX{X:Cx}(i:Nat){x:Str}{pos pos' n:Pos}{B:Nat}(F:X.N[i]?=some x:=by rfl) (G:vO X.env.scope x:=by first|exact G1 rfl|exact UJ (G1 Z)|exact UJ (UJ Z)) (hd:(x==("__debug__" : Str))=false:=by decide)
  (z:(x==("__classdict__" : Str))=false:=by decide):PE X (.Subscript (.Name x pos) (.Constant (.int 0) B n) pos') (KP X.K i):=
 (Qy QO (jU F G hd z) Qi (fun _ _=>rfl)).imp fun σ H Q ⟨a,p,q,h1,h2,I⟩=>⟨_,h1,a,_,_,_,Z,Z,h2,Qm (j:=0) Z,I⟩
theorem Q5{X:Cx}(i:Nat){x:Str}{pos pos' n:Pos}{B:Nat}(F:X.N[i]?=some x:=by rfl) (G:vO X.env.scope x:=by first|exact G1 rfl|exact UJ (G1 Z)|exact UJ (UJ Z)) (hd:(x==("__debug__" : Str))=false:=by decide)
  (z:(x==("__classdict__" : Str))=false:=by decide):PE X (.Subscript (.Name x pos) (.Constant (.int 1) B n) pos') (KO X.K i):=
 (Qy QO (jU F G hd z) Qi (fun _ _=>rfl)).imp fun σ H Q ⟨a,p,q,h1,h2,I⟩=>⟨_,h1,a,_,_,_,Z,Z,h2,Qm (j:=1) Z,I⟩
end L2
variable {P:PySem.Program} {w:PySem.World} {K:xz} {mg:PySem.Str->Option PySem.Value} {base:PySem.Heap} {C f a:PySem.Addr} {fd:PySem.FuncData} {c:String->List xA} {t b:xA}
namespace Gp
open PySem PySem.Spec PyProof.Rows L2
open Gla (Pt Plan)
def Xg(K:xz)(H:Hp)(a:Addr)(p:Pt):Prop:=bV K H a [.int (p.x:Int),.int (p.y:Int)]
def Sm(p:Pt):Prop:=p.x<4294967296/\p.y<4294967296
inductive JO(K:xz)(vs:List V)(H:Hp)(Q:VK)(E:XK):Prop
 |mk (a b c:Addr) (p q r:Pt):vs=[.ref a,.ref b,.ref c]->Xg K H a p->Xg K H b q->Xg K H c r->Sm p->Sm q->Sm r->Q (.int (xL p q r)) H->JO K vs H Q E
inductive pP(vs:List V)(H:Hp)(Q:VK)(E:XK):Prop
 |mk (n a b:Int):vs=[.int n,.int a,.int b]->Q (.bl (Pl.cv n a b)) H->pP vs H Q E
inductive vD(K:xz)(vs:List V)(H:Hp)(Q:VK)(E:XK):Prop
 |mk (a b c:Addr) (r p q:Pt):vs=[.ref a,.ref b,.ref c]->Xg K H a r->Xg K H b p->Xg K H c q->Sm p->Sm q->Sm r->Q (.bl (Up p q r)) H->vD K vs H Q E
inductive jD(K:xz)(vs:List V)(H:Hp)(Q:VK)(E:XK):Prop
 |mk (a b c d:Addr) (p q r s:Pt):vs=[.ref a,.ref b,.ref c,.ref d]->Xg K H a p->Xg K H b q->Xg K H c r->Xg K H d s->Sm p->Sm q->Sm r->Sm s->Q (.bl (Pl.di (xL p q r) (xL p q s))) H->jD K vs H Q E
inductive jF(K:xz)(vs:List V)(H:Hp)(Q:VK)(E:XK):Prop
 |mk (a b c d:Addr) (p q r s:Pt):vs=[.ref a,.ref b,.ref c,.ref d]->Xg K H a p->Xg K H b q->Xg K H c r->Xg K H d s->Sm p->Sm q->Sm r->Sm s->Q (.bl (GZ p q r s)) H->jF K vs H Q E
inductive J4(K:xz)(vs:List V)(H:Hp)(Q:VK)(E:XK):Prop
 |mk (a b:Addr) (p q:Pt):vs=[.ref a,.ref b]->Xg K H a p->Xg K H b q->Q (.bl (q.below p)) H->J4 K vs H Q E
abbrev sL:Stmt:=top 16
abbrev BM:Stmt:=top 17
abbrev Ij:Stmt:=top 18
abbrev ka:Stmt:=top 19
abbrev kA:Stmt:=top 20
abbrev jN:Stmt:=top 21
theorem p7:a7 ["first","second","third","right"] ["first","second","third"] (a6 sL):=.mk'
theorem Fg:a7 ["number","one","other"] ["number","one","other"] (a6 BM):=.mk'
theorem Im:a7 ["point","start","end"] ["point","start","end"] (a6 Ij):=.mk'
theorem jK:a7 ["start","end","one","other","one_turn","other_turn"] ["start","end","one","other"] (a6 ka):=.mk'
theorem vA:a7 ["start","end","other_start","other_end"] ["start","end","other_start","other_end"] (a6 kA):=.mk'
theorem tX:a7 ["later","earlier"] ["later","earlier"] (a6 jN):=.mk'
section
theorem vm(F:bF K "turn" "turn" sL f fd):QC P w K mg base bB 1 f fd ["first","second","third"] (JO K):=by
 apply F.bL p7;rintro _ H Q E ⟨a,b,c,p,q,r,rfl,n,j,hc,sp,sq,z,k⟩;refine⟨Z,fun _ _ _ _ _=>?_⟩
 refine⟨_,Qb (bz 3 p7.nd (QA ZN (QA Xi (QX 1) (QX 0)) (QA Xi (Q5 2) (Q5 1))))
  (Qd (Qj (QA Xi (pv 3) (QA ZN (QA Xi (Q5 1) (Q5 0)) (QA Xi (QX 2) (QX 1)))))),?_⟩
 unfold Sm at sp sq z;refine⟨b,_,_,Z,j,a,_,_,Z,n,_,_,Z,Z,c,_,_,Z,hc,b,_,_,Z,j,_,_,Z,Z,_,_,Z,Z,.inl ⟨by lia,by lia⟩,?_⟩;refine⟨_,Z,b,_,_,Z,j,a,_,_,Z,n,_,_,Z,Z,c,_,_,Z,hc,b,_,_,Z,j,_,_,Z,Z,_,_,Z,Z,.inl ⟨by lia,by lia⟩,_,_,Z,Z,?_⟩;exact k
theorem CZ(F:bF K "is_between" "is_between" BM f fd):QC P w K mg base bB 1 f fd ["number","one","other"] pP:=by
 apply F.bL Fg;rintro _ H Q E ⟨n,a,b,rfl,k⟩;refine⟨Z,fun _ _ _ _ _=>?_⟩
 refine⟨_,Qb (QD (Qs ZE (pv 1) (pv 2) (Qo _))
   (Qd (Qj (Y4 (QM jb (pv 1) (pv 0) (Qo _)) (Y3 (QM jb (pv 0) (pv 2) (Qo _)))))) Qq)
  (Qd (Qj (Y4 (QM jb (pv 2) (pv 0) (Qo _)) (Y3 (QM jb (pv 0) (pv 1) (Qo _)))))),?_⟩
 refine⟨_,Z,_,Z,_,_,Z,Z,_,Z,?_⟩;unfold Pl.cv at k;refine Qz (fun h=>?_) (fun h=>?_)
 ·have h:a<b:=Wj h;rw[Wi h] at k;refine⟨_,Z,_,Z,_,_,Z,Z,_,Z,Qz (fun h1=>?_) (fun h1=>?_)⟩
  ·refine⟨_,Z,_,Z,_,_,Z,Z,?_⟩;lia
  lia
 ·have h:¬ a<b:=fun z=>h (Wk z);rw[Wh h] at k;refine⟨_,Z,_,Z,_,_,Z,Z,_,Z,Qz (fun h1=>?_) (fun h1=>?_)⟩
  ·refine⟨_,Z,_,Z,_,_,Z,Z,?_⟩;lia
  lia
structure bq(P:Program)(w:World)(K:xz)(mg:Str->Option Value)(base:Heap)(k:Nat)(x:Str)(ps:List Str)(sp:Sp):Prop where
 ex:∃(f:Addr)(fd:FuncData),mg x=some (.ref f)/\GR K (.ref f)=true/\Xr K fd ps []/\QC P w K mg base bB k f fd ps sp
theorem Qr{X:Cx}{k:Nat}{x:Str}{ps:List Str}{sp:Sp}{p pos:Pos}{e:Expr}{es:List Expr}{t:TA}(D:bq X.prog X.w X.K X.mg X.base k x ps sp)(hr:ZJ k X.A) (z:PA X (e::es) t) (B:Gl X x:=by rfl)
  (j:(x==("__debug__" : Str))=false:=by decide) (G:starEach (e::es) X.env=(false,eval e X.env)::starEach es X.env:=by rfl) (n:(backTo pos (starEach es X.env)).any (·.1)=false:=by rfl) :
  PE X (.Call (.Name x p) (e::es) [] pos) (mE sp [] E0 t):=by
 obtain⟨f,fd,I,hk,J,F⟩:=D.ex;exact wh F hr B I hk J .nil Zc z j G n
theorem nU(F:bF K "comes_behind" "comes_behind" jN f fd):QC P w K mg base bB 1 f fd ["later","earlier"] (J4 K):=by
 apply F.bL tX;rintro _ H Q E ⟨a,b,p,q,rfl,j,n,k⟩;refine⟨Z,fun _ _ _ _ _=>?_⟩
 refine⟨_,Qb (QD (Qs qa (Q5 0) (Q5 1) (Qo _)) (Qd (Qj (QM Zn (Q5 0) (Q5 1) (Qo _)))) Qq)
  (Qd (Qj (QM Zn (QX 0) (QX 1) (Qo _)))),?_⟩
 refine⟨a,_,_,Z,j,b,_,_,Z,n,Z,_,Z,?_⟩;unfold Pt.below at k;refine Qz (fun h=>?_) (fun h=>?_)
 ·have h:¬ (p.y:Int)=q.y:=by simpa using h
  refine⟨a,_,_,Z,j,b,_,_,Z,n,_,_,Z,Z,?_⟩
  have e:(decide (q.y<p.y)||q.y==p.y&&decide (q.x<p.x))=decide ((q.y:Int)<p.y):=by rw[Gz];simp;lia
  rw[e]at k;exact k
 ·have h:(p.y:Int)=q.y:=by simpa using h
  refine⟨a,_,_,Z,j,b,_,_,Z,n,_,_,Z,Z,?_⟩
  have e:(decide (q.y<p.y)||q.y==p.y&&decide (q.x<p.x))=decide ((q.x:Int)<p.x):=by rw[Gz];simp;lia
  rw[e]at k;exact k
theorem EH(F:bF K "is_on" "is_on" Ij f fd)(B:bq P w K mg base 1 "is_between" ["number","one","other"] pP) (T:bq P w K mg base 1 "turn" ["first","second","third"] (JO K)) :
  QC P w K mg base bB 2 f fd ["point","start","end"] (vD K):=by
 apply F.bL Im;rintro _ H Q E ⟨a,b,c,r,p,q,rfl,j,n,hc,sp,sq,z,k⟩;refine⟨Z,fun _ _ _ _ hr=>?_⟩
 refine⟨_,Qb (QD (Xo (X5 (Zd (Qr B hr (Qa (Q5 0) (Qa (Q5 1) (Qa (Q5 2) Qc))))))
   (ZM (X5 (Zd (Qr B hr (Qa (QX 0) (Qa (QX 1) (Qa (QX 2) Qc)))))))).pt
   (Qd (Qj Xe)) Qq)
  (Qd (Qj (QM XI (Qr T hr (Qa (pv 1) (Qa (pv 2) (Qa (pv 0) Qc)))) Qi (Qo _)))),?_⟩
 rw[Pl.wt]at k;refine⟨a,_,_,Z,j,b,_,_,Z,n,c,_,_,Z,hc,_,_,_,Z,_,Z,Qz (fun h1=>ZG ?_) (fun h1=>?_)⟩
 ·rw[h1,Bool.true_or,Wi Z]at k;exact k
 ·have h1:(!Pl.cv r.y p.y q.y)=false:=by simpa using h1
  rw[h1,Qbu]at k;refine⟨a,_,_,Z,j,b,_,_,Z,n,c,_,_,Z,hc,_,_,_,Z,_,Z,Qz (fun h2=>?_) (fun h2=>?_)⟩
  ·rw[Wi h2]at k;exact k
  ·rw[Wh h2] at k;refine⟨_,Z,_,Z,_,Z,b,c,a,p,q,r,Z,n,hc,j,sp,sq,z,Z,?_⟩
   have e:decide (V.int (xL p q r)=V.int 0)=decide (xL p q r=0):=by lia
   lia
theorem t7(F:bF K "parts" "parts" ka f fd) (T:bq P w K mg base 1 "turn" ["first","second","third"] (JO K)) :
  QC P w K mg base bB 2 f fd ["start","end","one","other"] (jD K):=by
 apply F.bL jK;rintro _ H Q E ⟨a,b,c,d,p,q,r,z,rfl,j,n,hc,hd,sp,sq,B,sz,k⟩;refine⟨Z,fun _ _ _ _ hr=>?_⟩
 refine⟨_,Qb (bz 4 jK.nd (Qr T hr (Qa (pv 0) (Qa (pv 1) (Qa (pv 2) Qc)))))
  (Qb (QD (Qs XI (pv 4) Qi (Qo _)) (Qd (Qj Xe)) Qq)
  (Qb (bz 5 jK.nd (Qr T hr (Qa (pv 0) (Qa (pv 1) (Qa (pv 3) Qc)))))
  (Qd (Qj (Y4 (QM qa (pv 5) Qi (Qo _)) (Y3 (QM qa (QM Zn (pv 4) Qi (Qo _)) (QM Zn (pv 5) Qi (Qo _)) (Qo _)))))))),?_⟩
 unfold Pl.di at k;refine⟨_,Z,_,Z,_,Z,a,b,c,p,q,r,Z,j,n,hc,sp,sq,B,?_⟩;refine⟨_,Z,Z,_,Z,Qz (fun h1=>?_) (fun h1=>?_)⟩
 ·have h1:xL p q r=0:=by simpa using h1
  rw[Wi h1]at k;exact k
 ·have h1:¬ xL p q r=0:=by simpa using h1
  rw[Wh h1]at k;refine⟨_,Z,_,Z,_,Z,a,b,d,p,q,z,Z,j,n,hd,sp,sq,sz,?_⟩;refine⟨_,Z,Z,_,Z,Qz (fun h2=>?_) (fun h2=>?_)⟩
  ·have h2:¬ xL p q z=0:=by simpa using h2
   rw[Wh h2]at k;refine⟨_,Z,_,_,Z,Z,_,Z,_,_,Z,Z,Z,?_⟩
   have e:(!decide (V.bl (decide (0<xL p q r))=V.bl (decide (0<xL p q z))))=(decide (0<xL p q r) != decide (0<xL p q z)):=by cases decide (0<xL p q r)<;>cases decide (0<xL p q z)<;>rfl
   rw[<-e]at k;exact k
  ·have h2:xL p q z=0:=by simpa using h2
   rw[Wi h2]at k;exact k
theorem ux(F:bF K "crosses" "crosses" kA f fd) (T:bq P w K mg base 2 "parts" ["start","end","one","other"] (jD K)) :
  QC P w K mg base bB 3 f fd ["start","end","other_start","other_end"] (jF K):=by
 apply F.bL vA;rintro _ H Q E ⟨a,b,c,d,p,q,r,z,rfl,j,n,hc,hd,sp,sq,B,sz,k⟩;refine⟨Z,fun _ _ _ _ hr=>?_⟩;refine⟨_,Qd (Qj (Y4 (Qr T hr (Qa (pv 0) (Qa (pv 1) (Qa (pv 2) (Qa (pv 3) Qc))))) (Y3 (Qr T hr (Qa (pv 2) (Qa (pv 3) (Qa (pv 0) (Qa (pv 1) Qc)))))))),?_⟩;rw[Pl.eQ]at k;refine⟨_,Z,_,Z,_,Z,_,Z,a,b,c,d,p,q,r,z,Z,j,n,hc,hd,sp,sq,B,sz,_,Z,Qz (fun h1=>?_) (fun h1=>?_)⟩
 ·rw[h1,UA]at k;exact⟨_,Z,_,Z,_,Z,_,Z,c,d,a,b,r,z,p,q,Z,hc,hd,j,n,B,sz,sp,sq,k⟩
 lia
end
theorem Qn.tup{H H':Hp}{xs:List V}(e:Qn H H')(h:bV K H a xs):bV K H' a xs:=by
 rcases h with(h|⟨o,h⟩)|h
 ·exact .inl (.inl (e _ _ h))
 ·exact .inl (.inr ⟨o,e _ _ h⟩)
 ·exact .inr h
theorem Qk{H:Hp}{l:Addr}(o:HO)(h:H l=none):Qn H (upd H l o):=fun b u e=>by rw[Qh (Qg e h)];exact e
def cC(l:Addr)(H H':Hp):Prop:=∀b o,H b=some o->b≠l->H' b=some o
theorem cC.same{j H H':Hp}{l:Addr}(k:cC l H H')(hl:j l=none)(s:Qn j H):Qn j H':=fun b o e=>k b o (s b o e) (Qg e hl)
def GI(mg:Str->Option Value)(x:Str)(n:Int):Prop:=∃t,mg x=some (Value.int n t)
theorem QP{X:Cx}{x:Str}{n:Int}{pos:Pos}(h:GI X.mg x n)(j:Gl X x:=by rfl) (hd:(x==("__debug__" : Str))=false:=by decide):PE X (.Name x pos) (tC (.int n)):=by obtain⟨t,h⟩:=h;exact Zo j h ⟨t,Z⟩ hd
structure qY(K:xz)(H:Hp)(l:Addr)(as:List Addr) (ps:List (Nat×Nat)):Prop where
 lst:a' K H l (as.map V.ref)
 len:as.length=ps.length
 at_:∀(i:Nat)(a:Addr)(p:Nat×Nat),as[i]?=some a->ps[i]?=some p->H a=some (.tup [.int (p.1:Int),.int (p.2:Int)])
theorem qY.same{H H':Hp}{l:Addr}{as:List Addr} {ps:List (Nat×Nat)} (h:qY K H l as ps) (e:Qn H H'):qY K H' l as ps:=
 ⟨e.seq h.lst,h.len,fun i a p h1 h2=>e _ _ (h.at_ i a p h1 h2)⟩
def Xc(b:xA)(p st n j:Nat):List (Nat×Nat):=(xN n).map (fun i=>(xG b (p+st*i) j,xG b (p+st*i+j) j))
theorem jV(b:xA)(p st n j:Nat):Xc b p st (n+1) j=Xc b p st n j++[(xG b (p+st*n) j,xG b (p+st*n+j) j)]:=by simp[Xc,UY]
theorem XH(b:xA)(p st n j:Nat):(Xc b p st n j).length=n:=by simp[Xc]
abbrev iT:Stmt:=top 12
inductive jE(K:xz)(vs:List V)(H:Hp)(Q:VK)(E:XK):Prop
 |mk (a:Addr) (b:xA) (p st n wd:Nat) (i0 i1 i2 i3:Int):vs=[.ref a,.int i0,.int i1,.int i2,.int i3]->i0=(p:Int)->i1=(st:Int)->i2=(n:Int)->i3=(wd:Int)->a' K H a (bl b)->n<=65536->st<=1000->(∀H' l as,Qn H H'->qY K H' l as (Xc b p st n wd)->Q (.ref l) H')->jE K vs H Q E
theorem zl:a7 ["octets","place","step","count","size","pairs","number","start"] ["octets","place","step","count","size"] (a6 iT):=.mk'
theorem qg{α:Type}{l:List α}{x y:α}{i:Nat} (h:(l++[x])[i]?=some y):(i<l.length/\l[i]?=some y)\/(i=l.length/\y=x):=by grind
section
theorem tp(F:bF K "pairs_at" "pairs_at" iT f fd)(T:Txt K mg) (N:bq P w K mg base 1 "number_at" ["octets","place","size"] (JE K)) :
  QC P w K mg base bB 2 f fd ["octets","place","step","count","size"] (jE K):=by
 apply F.bL zl;rintro _ H Q E ⟨a,b,p,st,n,I,i0,i1,i2,i3,rfl,rfl,rfl,rfl,rfl,hS,hn,ac,k⟩;refine⟨Z,fun _ _ _ _ hr=>?_⟩
 refine⟨_,Qb (bz 5 zl.nd (QU Qc))
  (Qb (QL PassesOwn.never Z (Jp Z T.range (Qa (pv 3) Qc)) (b0 6 zl.nd)
   (Qb (bz 7 zl.nd (QA QV (pv 1) (QA ZN (pv 2) (pv 6))))
   (Qd (Zf (Xd xU Gw Gx ZD (pv 5)
    (Qa (Ze (Qa (Qr N hr (Qa (pv 0) (Qa (pv 7) (Qa (pv 4) Qc)))) (Qa (Qr N hr (Qa (pv 0) (Qa (QA QV (pv 7) (pv 4)) (Qa (pv 4) Qc)))) Qc))) Qc))))))
  (Qd (Qj (pv 5)))),?_⟩
 refine⟨x4 _,fun l hl=>?_⟩;have s0:=Qk (.lst []) hl
 refine⟨_,Z,_,Z,by lia,by lia,Ju (lo:=0) (n:=((n:Nat):Int).toNat) (fun i σ H'=>C7 fun(v6 v7:Option V) (as:List Addr)=>KJ (σ=[some (.ref a),some (.int p),some (.int st),some (.int n),some (.int I),some (.ref l),v6,v7]) (Qn H H') (i<=n) (H' l=some (.lst (as.map V.ref))) (as.length=i) (∀(j:Nat)(c:Addr)(q:Nat×Nat),as[j]?=some c->(Xc b p st i I)[j]?=some q->H' c=some (.tup [.int (q.1:Int),.int (q.2:Int)])))
  ⟨none,none,[],Z,s0,x4 _,Qe,Z,fun j c q h=>by simp at h⟩ ?_ ?_⟩
 ·rintro i σ H1 hi ⟨v6,v7,as,rfl,O,U,G,B,J⟩;rw[Ub] at hi;refine⟨_,Z,_,Z,_,Z,_,_,Z,Z,.inl ⟨by lia,by lia⟩,_,_,Z,Z,?_⟩;have ep:(p:Int)+(st:Int)*(0+(i:Int))=((p+st*i:Nat):Int):=by rw[Qbn,Int.natCast_mul,Int.zero_add]
  refine⟨_,Z,.inl ⟨Z,_,a'.of G⟩,_,Z,_,Z,_,Z,a,b,p+st*i,I,_,_,Z,ep,Z,O.seq hS,fun H2 s2=>?_⟩;refine⟨_,Z,_,Z,_,Z,_,_,Z,Z,_,Z,a,b,p+st*i+I,I,_,_,Z,(by show(p:Int)+(st:Int)*(0+(i:Int))+(I:Int)=_;rw[ep,Qbn (p+st*i)]),Z,s2.seq (O.seq hS),fun H3 s3=>?_⟩;refine⟨(by show 2<=sizeLine;decide),fun t ht=>?_⟩;have M:=s2.trans s3;have aa:l≠t:=Qg (M _ _ G) ht;have s4:=Qk (.tup [.int ((xG b (p+st*i) I:Nat):Int),.int ((xG b (p+st*i+I) I:Nat):Int)]) ht;refine⟨l,_,_,Z,Z,(by rw[Qh aa];exact M _ _ G),(by rw[xB,B];exact xV (xK U hn) Wa),?_⟩
  have kp:cC l H1 (upd (upd H3 t (.tup [.int ((xG b (p+st*i) I:Nat):Int),.int ((xG b (p+st*i+I) I:Nat):Int)])) l (.lst (as.map V.ref++[V.ref t]))):=fun c o e ab=>by
   rw[Qh ab,Qh (Qg (M _ _ e) ht)];exact M _ _ e
  refine⟨_,_,as++[t],Z,kp.same hl O,hi,?_,by simp[B],?_⟩
  ·rw[Qe,Gq];rfl
  ·intro j c q hj hq;rw[jV] at hq;rcases qg hj with ⟨h1,h2⟩ | ⟨h1,h2⟩
   ·rw[GU (by rw[XH];lia)]at hq;exact kp _ _ (J j c q h2 hq) (YG (J j c q h2 hq) G (by intro z;cases z))
   ·subst h2;rcases qg hq with ⟨h3,_⟩ | ⟨_,h4⟩
    ·rw[XH]at h3;lia
    ·subst h4;rw[Qh (fun e=>aa e.symm),Qe]
 ·rintro σ H1 ⟨v6,v7,as,rfl,O,U,G,B,J⟩;rw[Ub]at B J;refine⟨_,Z,?_⟩;exact k H1 l as O ⟨a'.of G,by rw[B,XH],J⟩
end
def df(w h:Nat)(lp ll lm:Addr):List (Str×V):=Zu "marks" (.ref lm) (Zu "lines" (.ref ll) (Zu "points" (.ref lp) (Zu "height" (.int (h:Int)) (Zu "width" (.int (w:Int)) []))))
theorem p6(w h:Nat)(lp ll lm:Addr):(df w h lp ll lm).lookup ("width" : Str)=some (.int (w:Int)):=by unfold df;rw[Qu,Wh Wb,Qu,Wh Wb,Qu,Wh Wb,Qu,Wh Wb,Qu,Wi Z]
theorem t8(w h:Nat)(lp ll lm:Addr):(df w h lp ll lm).lookup ("height" : Str)=some (.int (h:Int)):=by unfold df;rw[Qu,Wh Wb,Qu,Wh Wb,Qu,Wh Wb,Qu,Wi Z]
theorem XJ(w h:Nat)(lp ll lm:Addr):(df w h lp ll lm).lookup ("points" : Str)=some (.ref lp):=by unfold df;rw[Qu,Wh Wb,Qu,Wh Wb,Qu,Wi Z]
theorem yo(w h:Nat)(lp ll lm:Addr):(df w h lp ll lm).lookup ("lines" : Str)=some (.ref ll):=by unfold df;rw[Qu,Wh Wb,Qu,Wi Z]
theorem rp(w h:Nat)(lp ll lm:Addr):(df w h lp ll lm).lookup ("marks" : Str)=some (.ref lm):=by unfold df;rw[Qu,Wi Z]
theorem Xq(w h:Nat)(lp ll lm:Addr){m:Str}(h1:¬m = "marks")(h2:¬m = "lines")(j:¬m = "points")(n:¬m = "height")(z:¬m = "width"):(df w h lp ll lm).lookup m=none:=by unfold df;rw[Qu,Wh h1,Qu,Wh h2,Qu,Wh j,Qu,Wh n,Qu,Wh z];all_goals rfl
def xy(p:Pt):Nat×Nat:=(p.x,p.y)
structure Dw(K:xz)(C:Addr)(H:Hp)(d:Addr)(S:Plan)(dx lp ll lm:Addr)(ap al am:List Addr):Prop where
 ins:H d=some (.ins C dx (df S.w S.h lp ll lm))
 pts:qY K H lp ap (S.pts.map xy)
 cE:qY K H ll al S.lines
 mrk:qY K H lm am (S.marks.map fun m=>xy m.at_)
theorem Dw.same{H H':Hp}{d:Addr}{S:Plan}{dx lp ll lm:Addr}{ap al am:List Addr}(D:Dw K C H d S dx lp ll lm ap al am)(e:Qn H H'):Dw K C H' d S dx lp ll lm ap al am:=
 ⟨e _ _ D.ins,D.pts.same e,D.cE.same e,D.mrk.same e⟩
structure Z9(K:xz)(mg:Str->Option Value)(C:Addr):Prop where
 cl:ph K C
 nW:Q8 K C "width"
 nH:Q8 K C "height"
 nP:Q8 K C "points"
 nL:Q8 K C "lines"
 nM:Q8 K C "marks"
 mgC:mg "Drawing" = some (.ref C)
 g20:GI mg "HEAD_BYTES_drawing" 20
 g8:GI mg "POINT_BYTES" 8
 g4:GI mg "LINE_BYTES" 4
 g12:GI mg "MARK_BYTES" 12
abbrev lC:Stmt:=inClass (top 11) 0
abbrev Hk:Stmt:=inClass (top 11) 1
abbrev IQ:Stmt:=inClass (top 11) 2
abbrev HW:Stmt:=inClass (top 11) 3
abbrev Ir:Stmt:=inClass (top 11) 4
abbrev G':Stmt:=inClass (top 11) 5
inductive iV(C:Addr)(vs:List V)(H:Hp)(Q:VK)(E:XK):Prop
 |mk (p dx:Addr) (i j:Int) (w h:Nat) (lp ll lm:Addr):vs=[.ref p,.int i,.int j,.ref lp,.ref ll,.ref lm]->i=(w:Int)->j=(h:Int)->H p=some (.ins C dx [])->(∀H':Hp,H' p=some (.ins C dx (df w h lp ll lm))->cC p H H'->Q .bP H')->iV C vs H Q E
inductive gv(vs:List V)(H:Hp)(Q:VK)(E:XK):Prop
 |mk (d:V) (i:Int) (n:Nat):vs=[d,.int i]->i=(n:Int)->Q (.int ((20+8*n:Nat):Int)) H->gv vs H Q E
inductive ip(K:xz)(C:Addr)(vs:List V)(H:Hp)(Q:VK)(E:XK):Prop
 |mk (d:Addr) (i:Int) (n:Nat) (S:Plan) (dx lp ll lm:Addr) (ap al am:List Addr):vs=[.ref d,.int i]->i=(n:Int)->Dw K C H d S dx lp ll lm ap al am->Q (.int ((UB S n:Nat):Int)) H->ip K C vs H Q E
inductive nO(K:xz)(C:Addr)(vs:List V)(H:Hp)(Q:VK)(E:XK):Prop
 |mk (d:Addr) (i:Int) (n:Nat) (S:Plan) (dx lp ll lm:Addr) (ap al am:List Addr):vs=[.ref d,.int i]->i=(n:Int)->Dw K C H d S dx lp ll lm ap al am->Q (.int ((U8 S n:Nat):Int)) H->nO K C vs H Q E
inductive BL(K:xz)(C:Addr)(vs:List V)(H:Hp)(Q:VK)(E:XK):Prop
 |mk (d:Addr) (S:Plan) (dx lp ll lm:Addr) (ap al am:List Addr):vs=[.ref d]->Dw K C H d S dx lp ll lm ap al am->Q (.int ((S.size:Nat):Int)) H->BL K C vs H Q E
theorem Am:a7 ["self","width","height","points","lines","marks"] ["self","width","height","points","lines","marks"] (a6 lC):=.mk'
theorem IS:a7 ["self","number"] ["self","number"] (a6 Hk):=.mk'
theorem HR:a7 ["self","number"] ["self","number"] (a6 IQ):=.mk'
theorem Io:a7 ["self","number"] ["self","number"] (a6 HW):=.mk'
theorem Hv:a7 ["self"] ["self"] (a6 Ir):=.mk'
structure XQ(P:Program)(w:World)(K:xz)(mg:Str->Option Value)(base:Heap)(C:Addr)(k:Nat)(m:Str)(ps:List Str)(sp:Sp):Prop where
 ex:∃(f:Addr)(fd:FuncData),Meth K C m f/\Xr K fd ps []/\QC P w K mg base bB k f fd ps sp
theorem va(F:bF K "__init__" "Drawing.__init__" lC f fd)(T:Z9 K mg C):QC P w K mg base bB 1 f fd ["self","width","height","points","lines","marks"] (iV C):=by apply F.bL Am;rintro _ H Q E ⟨p,dx,i,j,w,h,lp,ll,lm,rfl,rfl,rfl,z,k⟩;refine⟨Z,fun _ _ _ _ _=>?_⟩;refine⟨_,Qb (Y1 (pv 0) (pv 1) Z) (Qb (Y1 (pv 0) (pv 2) Z) (Qb (Y1 (pv 0) (pv 3) Z) (Qb (Y1 (pv 0) (pv 4) Z) (Qd (Y1 (pv 0) (pv 5) Z))))),?_⟩;refine⟨_,Z,_,Z,p,C,dx,_,Z,z,T.cl,T.nW,(by show 0<1000;decide),?_⟩;refine⟨_,Z,_,Z,p,C,dx,_,Z,Qe,T.cl,T.nH,(by show 1<1000;decide),?_⟩;refine⟨_,Z,_,Z,p,C,dx,_,Z,Qe,T.cl,T.nP,(by show 2<1000;decide),?_⟩;refine⟨_,Z,_,Z,p,C,dx,_,Z,Qe,T.cl,T.nL,(by show 3<1000;decide),?_⟩;refine⟨_,Z,_,Z,p,C,dx,_,Z,Qe,T.cl,T.nM,(by show 4<1000;decide),?_⟩;refine k _ Qe fun b o e n=>?_;rw[Qh n,Qh n,Qh n,Qh n,Qh n];exact e
theorem DE(F:bF K "point_place" "Drawing.point_place" Hk f fd)(T:Z9 K mg C):QC P w K mg base bB 1 f fd ["self","number"] gv:=by apply F.bL IS;rintro _ H Q E ⟨d,i,n,rfl,rfl,k⟩;refine⟨Z,fun _ _ _ _ _=>?_⟩;refine⟨_,Qd (Qj (QA QV (QP T.g20) (QA ZN (QP T.g8) (pv 1)))),?_⟩;refine⟨_,Z,_,_,Z,Z,.inl ⟨by decide,by decide⟩,_,_,Z,Z,?_⟩;lia
theorem EW(F:bF K "line_place" "Drawing.line_place" IQ f fd)(T:Z9 K mg C)(U:Txt K mg)(M:XQ P w K mg base C 1 "point_place" ["self","number"] gv):QC P w K mg base bB 2 f fd ["self","number"] (ip K C):=by
 obtain⟨I,j,z,B,G⟩:=M.ex;apply F.bL HR;rintro _ H Q E ⟨d,i,n,S,dx,lp,ll,lm,ap,al,am,rfl,rfl,D,k⟩;refine⟨Z,fun _ _ _ _ hr=>?_⟩;refine⟨_,Qd (Qj (QA QV (Q4 (pv 0) T.cl z G hr B .nil Zc (Qa (Qx Qp Wg U.len Wx (Qa (Qw (pv 0) Z) Qc)) Qc)) (QA ZN (QP T.g4) (pv 1)))),?_⟩
 refine⟨_,Z,d,dx,_,Z,D.ins,Xq _ _ _ _ _ Wb Wb Wb Wb Wb,_,Z,d,C,dx,_,_,Z,D.ins,T.cl,T.nP,XJ _ _ _ _ _,lp,_,Z,.inl D.pts.lst,
  _,_,S.pts.length,Z,(by rw[xB,D.pts.len,xB]),_,Z,_,_,Z,Z,.inl ⟨by decide,by decide⟩,_,_,Z,Z,?_⟩
 have e:((UB S n:Nat):Int)=((20+8*S.pts.length:Nat):Int)+4*(n:Int):=by unfold UB Qb1;lia
 rw[e]at k;exact k
theorem D7(F:bF K "mark_place" "Drawing.mark_place" HW f fd)(T:Z9 K mg C)(U:Txt K mg) (M:XQ P w K mg base C 2 "line_place" ["self","number"] (ip K C)):QC P w K mg base bB 3 f fd ["self","number"] (nO K C):=by
 obtain⟨I,j,z,B,G⟩:=M.ex;apply F.bL Io;rintro _ H Q E ⟨d,i,n,S,dx,lp,ll,lm,ap,al,am,rfl,rfl,D,k⟩;refine⟨Z,fun _ _ _ _ hr=>?_⟩;refine⟨_,Qd (Qj (QA QV (Q4 (pv 0) T.cl z G hr B .nil Zc (Qa (Qx Qp Wg U.len Wx (Qa (Qw (pv 0) Z) Qc)) Qc)) (QA ZN (QP T.g12) (pv 1)))),?_⟩
 refine⟨_,Z,d,dx,_,Z,D.ins,Xq _ _ _ _ _ Wb Wb Wb Wb Wb,_,Z,d,C,dx,_,_,Z,D.ins,T.cl,T.nL,yo _ _ _ _ _,ll,_,Z,.inl D.cE.lst,
  d,_,S.lines.length,S,dx,lp,ll,lm,ap,al,am,Z,(by rw[xB,D.cE.len]),D,_,Z,_,_,Z,Z,.inl ⟨by decide,by decide⟩,_,_,Z,Z,?_⟩
 have e:((U8 S n:Nat):Int)=((UB S S.lines.length:Nat):Int)+12*(n:Int):=by unfold U8 UB Qb1;lia
 rw[e]at k;exact k
theorem DF(F:bF K "byte_count" "Drawing.byte_count" Ir f fd)(T:Z9 K mg C)(U:Txt K mg) (M:XQ P w K mg base C 3 "mark_place" ["self","number"] (nO K C)):QC P w K mg base bB 4 f fd ["self"] (BL K C):=by
 obtain⟨B,j,n,z,G⟩:=M.ex;apply F.bL Hv;rintro _ H Q E ⟨d,S,dx,lp,ll,lm,ap,al,am,rfl,D,k⟩;refine⟨Z,fun _ _ _ _ hr=>?_⟩;refine⟨_,Qd (Qj (Q4 (pv 0) T.cl n G hr z .nil Zc (Qa (Qx Qp Wg U.len Wx (Qa (Qw (pv 0) Z) Qc)) Qc))),?_⟩
 exact⟨_,Z,d,dx,_,Z,D.ins,Xq _ _ _ _ _ Wb Wb Wb Wb Wb,_,Z,d,C,dx,_,_,Z,D.ins,T.cl,T.nM,rp _ _ _ _ _,lm,_,Z,.inl D.mrk.lst,
  d,_,S.marks.length,S,dx,lp,ll,lm,ap,al,am,Z,(by rw[xB,D.mrk.len,xB]),D,k⟩
def ni(l:List Nat):List V:=l.map (fun(n:Nat)=>V.int (n:Int))
def ZO (ls:List (Nat×Nat)) (v:Nat):List Nat:=ls.filterMap fun(l:Nat×Nat)=>if l.1=v then some l.2 else if l.2=v then some l.1 else none
structure Bs(H0 H:Hp)(b:Addr)(as:List Addr) (ns:List (List Nat)):Prop where
 lst:H b=some (.lst (as.map V.ref))
 nd:as.Nodup
 len:as.length=ns.length
 at_:∀(i:Nat)(a:Addr)(l:List Nat),as[i]?=some a->ns[i]?=some l->H a=some (.lst (ni l))
 fr:∀a∈as,H0 a=none
 nb:b∉as
theorem Bs.app{F H:Hp}{b:Addr}{as:List Addr} {ns:List (List Nat)} (B:Bs F H b as ns) {j:Nat} {l:List Nat} (z:as[j]?=some a) (hl:ns[j]?=some l) (x:Nat) :
  Bs F (upd H a (.lst (ni l++[V.int (x:Int)]))) b as (ns.set j (l++[x])):=by
 have G:a∈as:=xZ z;have I:j<ns.length:=(List.getElem?_eq_some_iff.1 hl).1;refine⟨?_,B.nd,by rw[Qbl];exact B.len,?_,B.fr,B.nb⟩
 ·rw[Qh (fun e=>B.nb (by rw[e];exact G))];exact B.lst
 ·intro i c m hi n;by_cases q:i=j
  ·subst q;have e:c=a:=Wo (hi.symm.trans z);subst e;rw[Ur I]at n;rw[<-Wo n,Qe];simp[ni]
  ·rw[Um (fun e=>q e.symm)]at n;have ne:c≠a:=fun e=>q (DB B.nd hi (by rw[e];exact z));rw[Qh ne];exact B.at_ i c m hi n
theorem Bs.same{n H:Hp}{b:Addr}{as:List Addr} {ns:List (List Nat)} (B:Bs n H b as ns) {j:Nat} (z:as[j]?=some a) (o:HO) (s:Qn n H):Qn n (upd H a o):=fun c u e=>by
 rw[Qh (Qg e (B.fr a (xZ z)))];exact s c u e
def nears(n:Nat) (ls:List (Nat×Nat)):List (List Nat):=(xN n).map (ZO ls)
theorem ZC{n v:Nat} (ls:List (Nat×Nat)) (h:v<n):(nears n ls)[v]?=some (ZO ls v):=by simp[nears,h]
theorem ZX(n:Nat) (ls:List (Nat×Nat)):(nears n ls).length=n:=by simp[nears]
theorem i8{n:Nat} {ls:List (Nat×Nat)} {l:Nat×Nat} (h1:l.1<l.2) :
  ((nears n ls).set l.1 (ZO ls l.1++[l.2])).set l.2 (ZO ls l.2++[l.1])=nears n (ls++[l]):=by
 apply List.ext_getElem?;intro v;by_cases j:v<n
 ·rw[ZC (ls++[l]) j]
  have e:ZO (ls++[l]) v=ZO ls v++(if l.1=v then [l.2] else if l.2=v then [l.1] else []):=by unfold ZO;grind
  rw[e];by_cases z:l.2=v
  ·subst z;rw[Ur (by rw[Qbl,ZX];exact j),Wh L,Wi Z]
  ·rw[Um z];by_cases q:l.1=v
   ·subst q;rw[Ur (by rw[ZX];exact j),Wi Z]
   ·rw[Um q,ZC ls j,Wh q,Wh z];simp
 ·rw[Ud (by simp[nears];lia),Ud (by simp[nears];lia)]
structure yD(K:xz)(H:Hp)(b:Addr)(as:List Addr)(S:Plan):Prop where
 lst:a' K H b (as.map V.ref)
 len:as.length=S.pts.length
 at_:∀(v:Nat)(a:Addr),as[v]?=some a->a' K H a (ni (S.near v))
theorem yD.same{H H':Hp}{b:Addr}{as:List Addr}{S:Plan}(h:yD K H b as S)(e:Qn H H'):yD K H' b as S:=
 ⟨e.seq h.lst,h.len,fun v a j=>e.seq (h.at_ v a j)⟩
def X3(S:Plan):Prop:=∀l∈S.lines,l.1<l.2/\l.2<S.pts.length
def Ji(S:Plan):Prop:=S.pts.length<=65536/\S.lines.length<=65536/\S.marks.length<=65536
inductive mU(K:xz)(C:Addr)(vs:List V)(H:Hp)(Q:VK)(E:XK):Prop
 |mk (d:Addr) (S:Plan) (dx lp ll lm:Addr) (ap al am:List Addr):vs=[.ref d]->Dw K C H d S dx lp ll lm ap al am->X3 S->Ji S->(∀H' b as,Qn H H'->yD K H' b as S->Q (.ref b) H')->mU K C vs H Q E
theorem vS:a7 ["self","beside","line","point"] ["self"] (a6 G'):=.mk'
theorem vg (ls:List (Nat×Nat)) (v:Nat):(ZO ls v).length<=ls.length:=by unfold ZO;grind
theorem E8(F:bF K "neighbours" "Drawing.neighbours" G' f fd)(T:Z9 K mg C):QC P w K mg base bB 1 f fd ["self"] (mU K C):=by
 apply F.bL vS;rintro _ H Q E ⟨d,S,dx,lp,ll,lm,ap,al,am,rfl,D,hL,hZ,k⟩;refine⟨Z,fun _ _ _ _ _=>?_⟩
 refine⟨_,Qb (fD (i:=1) (own:=[("point",3)]) Z vS.nd Z Z (ml Z Z Z Z) (Q3 (Qw (pv 0) Z)) (ZI (N:=["self","beside","line","point"]) (sc:=a6 G') Wb) (fun _ _ _ _ _=>b0 3 vS.nd) (fun _ _ _ _ _=>Jm) (fun _ _ _ _ _=>QU Qc))
  (Qb (QL PassesOwn.never Z (Q3 (Qw (pv 0) Z)) (b0 2 vS.nd)
   (Qb (Zf (Xd xU Gw Gx ZD (Qy QE (pv 1) (QX 2) (fun _ _=>rfl)) (Qa (Q5 2) Qc)))
   (Qd (Zf (Xd xU Gw Gx ZD (Qy QE (pv 1) (Q5 2) (fun _ _=>rfl)) (Qa (QX 2) Qc))))))
  (Qd (Qj (pv 1)))),?_⟩
 refine⟨_,Z,d,C,dx,_,_,Z,D.ins,T.cl,T.nP,XJ _ _ _ _ _,lp,Z,⟨_,D.pts.lst⟩,fun b hb=>qd (K:=K) (a:=lp) (xs:=ap.map V.ref) (fun i H'=>∃as:List Addr,ek (Qn H H') (as.length=i) (Bs H H' b as (nears i [])))
  ⟨[],Qk _ hb,Z,Qe,by simp,by simp[nears],fun i a l h=>by simp at h,by simp,by simp⟩ (fun i H' _ ⟨_,U,_,_⟩=>(D.pts.same U).lst) ?_ ?_⟩
 ·rintro i x H1 hx ⟨as,U,n,B⟩;refine⟨Z,x4 _,fun c hc=>?_⟩;have ab:b≠c:=Qg B.lst hc;refine⟨as.map V.ref,by rw[Qh ab];exact B.lst,?_,?_⟩
  ·rw[xB,n]
   have:i<ap.length:=by grind
   have e:=D.pts.len;rw[xB]at e;exact xW this (by rw[e];exact xK hZ.1 Wa)
  ·have fc:H c=none:=U.free hc
   have ac:c∉as:=fun m=>by
    obtain⟨j,hj⟩:=List.mem_iff_getElem?.1 m;have ai:=(List.getElem?_eq_some_iff.1 hj).1;have:=B.at_ j c (ZO [] j) hj (ZC [] L);lia
   refine⟨as++[c],fun z o e=>?_,by simp[n],?_,lO B.nd ac,by simp[ZX,n],?_,?_,?_⟩
   ·rw[Qh (Qg e hb),Qh (Qg e fc)];exact U z o e
   ·rw[Qe,Gq];rfl
   ·intro j a l hj hl;rcases qg hj with ⟨h1,h2⟩ | ⟨h1,h2⟩
    ·have ad:(nears i [])[j]?=some l:=by rw[ZC [] L] at hl ⊢;exact hl
     have:=B.at_ j a l h2 ad;rw[Qh (fun e=>B.nb (by rw[<-e];exact xZ h2)),Qh (fun e=>ac (by rw[<-e];exact xZ h2))];exact this
    ·subst h2;rw[ZC [] L]at hl;rw[<-Wo hl,Qh (fun e=>ab e.symm),Qe];rfl
   ·intro a ha;rcases List.mem_append.1 ha with h | h
    ·exact B.fr a h
    grind
   ·intro m;rcases List.mem_append.1 m with h | h
    ·exact B.nb h
    grind
 ·rintro H1 ⟨as,U,n,B⟩;have D1:=D.same U
  refine⟨_,Z,d,C,dx,_,_,Z,D1.ins,T.cl,T.nL,yo _ _ _ _ _,ll,Z,⟨_,D1.cE.lst⟩,Zs (K:=K) (a:=ll) (xs:=al.map V.ref) (fun i σ H'=>∃v2:Option V,ek (σ=[some (.ref d),some (.ref b),v2,none]) (Qn H H') (Bs H H' b as (nears S.pts.length (S.lines.take i))))
   ⟨none,Z,U,?_⟩ (fun i σ H' _ ⟨_,_,O,_⟩=>(D.same O).cE.lst) ?_ ?_⟩
  ·have e:(ap.map V.ref).length=S.pts.length:=by have e:=D.pts.len;rw[xB] at e;rw[xB,e]
   grind
  ·rintro i x σ H2 hx ⟨v2,rfl,O,I⟩
   obtain⟨c,hc,rfl⟩:∃c,al[i]?=some c/\x=V.ref c:=by
    rw[xJ]at hx;cases e:al[i]? with
    |none=>rw[e]at hx;cases hx
    |some c=>rw[e]at hx;exact⟨c,Z,(Wo hx).symm⟩
   have D2:=D.same O;have aa:i<S.lines.length:=by rw[<-D.cE.len];exact(List.getElem?_eq_some_iff.1 hc).1
   have af:S.lines[i]?=some S.lines[i]:=xD aa;obtain⟨o1,o2⟩:=hL S.lines[i] (xP aa);have cT:=fun(H':Hp) (e:Qn H H')=>bV.of (K:=K) ((D.same e).cE.at_ i c _ hc af);have ah:as.length=S.pts.length:=by rw[I.len,ZX]
   obtain⟨a1,J⟩:∃a1,as[S.lines[i].1]?=some a1:=⟨as[S.lines[i].1]'(by lia),xD _⟩;obtain⟨a2,M⟩:∃a2,as[S.lines[i].2]?=some a2:=⟨as[S.lines[i].2]'(by lia),xD _⟩;have n1:=I.at_ _ a1 _ J (ZC _ L)
   have G:∀v,(ni (ZO (S.lines.take i) v)).length<sizeLine:=fun v=>by
    unfold ni;rw[xB];refine xV (vg _ v) ?_;rw[Gk];exact xV (xK (V5 _ _) hZ.2.1) Wa
   refine⟨_,Z,c,_,_,Z,cT H2 O,b,_,_,_,Z,Z,a'.of I.lst,Qm (j:=S.lines[i].1) (v:=V.ref a1) (by rw[xJ,J];rfl),.inl ⟨Z,_,a'.of n1⟩,c,_,_,Z,cT H2 O,a1,_,_,Z,Z,n1,G _,?_⟩;have B3:=I.app J (ZC _ L) S.lines[i].2;have s3:=I.same J (.lst (ni (ZO (S.lines.take i) S.lines[i].1)++[V.int (S.lines[i].2:Int)])) O
   have g2:((nears S.pts.length (S.lines.take i)).set S.lines[i].1 (ZO (S.lines.take i) S.lines[i].1++[S.lines[i].2]))[S.lines[i].2]?=some (ZO (S.lines.take i) S.lines[i].2):=by rw[Um L,ZC _ o2]
   have n2:=B3.at_ _ a2 _ M g2;refine⟨_,Z,c,_,_,Z,cT _ s3,b,_,_,_,Z,Z,a'.of B3.lst,Qm (j:=S.lines[i].2) (v:=V.ref a2) (by rw[xJ,M];rfl),.inl ⟨Z,_,a'.of n2⟩,c,_,_,Z,cT _ s3,a2,_,_,Z,Z,n2,G _,?_⟩;have B4:=B3.app M g2 S.lines[i].1;have s4:=B3.same M (.lst (ni (ZO (S.lines.take i) S.lines[i].2)++[V.int (S.lines[i].1:Int)])) s3;refine⟨_,Z,s4,?_⟩;rw[i8 o1]at B4;have et:S.lines.take (i+1)=S.lines.take i++[S.lines[i]]:=by rw[Uf aa]
   lia
  ·rintro σ H2 ⟨v2,rfl,O,I⟩;refine⟨_,Z,?_⟩;have e:(al.map V.ref).length=S.lines.length:=by rw[xB,D.cE.len]
   rw[e,Gy]at I;have ag:as.length=S.pts.length:=by rw[I.len,ZX]
   exact k H2 b as O ⟨a'.of I.lst,ag,fun v a hv=>a'.of (I.at_ v a _ hv (ZC _ (by have:=(List.getElem?_eq_some_iff.1 hv).1;lia)))⟩
theorem gk:∀(l:xA),Qbs l<256 ^ l.length
 |[]=>by show 0<1;decide
 | c::r=>by
  have:=gk r;have h:=c.toNat_lt;show c.toNat+256*Qbs r<256 ^ (r.length+1);rw[Nat.pow_succ];lia
theorem rf(b:xA)(p w:Nat):xG b p w<256 ^ w:=by unfold xG;refine xW (gk _) (Nat.pow_le_pow_right Wa ?_);grind
theorem Br(b:xA)(p:Nat):xG b p 2<65536:=rf b p 2
theorem EV(b:xA)(p:Nat):xG b p 4<4294967296:=rf b p 4
abbrev Cv:Stmt:=top 13
abbrev Au:Stmt:=top 14
def pU(b:xA):List V:=[.int ((20:Nat):Int),.int ((20+8*xG b 12 2:Nat):Int),.int ((20+8*xG b 12 2+4*xG b 14 2:Nat):Int),.int ((20+8*xG b 12 2+4*xG b 14 2+12*xG b 16 2:Nat):Int)]
inductive f'(K:xz)(vs:List V)(H:Hp)(Q:VK)(E:XK):Prop
 |mk (a:Addr) (b:xA):vs=[.ref a]->a' K H a (bl b)->(∀H' t,Qn H H'->H' t=some (.tup (pU b))->Q (.ref t) H')->f' K vs H Q E
inductive ma(K:xz)(C:Addr)(vs:List V)(H:Hp)(Q:VK)(E:XK):Prop
 |mk (a:Addr) (b:xA):vs=[.ref a]->a' K H a (bl b)->(∀H' d dx lp ll lm ap al am,Qn H H'->Dw K C H' d (U1 b) dx lp ll lm ap al am->Q (.ref d) H')->ma K C vs H Q E
theorem rb:a7 ["octets","lines","marks"] ["octets"] (a6 Cv):=.mk'
theorem wJ:a7 ["octets","places"] ["octets"] (a6 Au):=.mk'
theorem nG(b:xA):(U1 b).pts.map xy=Xc b 20 8 (xG b 12 2) 4:=by show((xN (xG b 12 2)).map _).map xy=_;rw[Vx];rfl
theorem fV(b:xA):(U1 b).lines=Xc b (20+8*xG b 12 2) 4 (xG b 14 2) 2:=rfl
theorem gm(b:xA):((U1 b).marks.map fun m=>xy m.at_)=Xc b (20+8*xG b 12 2+4*xG b 14 2) 12 (xG b 16 2) 4:=by show((xN (xG b 16 2)).map _).map _=_;rw[Vx];rfl
theorem Al(F:bF K "row_places" "row_places" Cv f fd)(T:Z9 K mg C) (N:bq P w K mg base 1 "number_at" ["octets","place","size"] (JE K)) :
  QC P w K mg base bB 2 f fd ["octets"] (f' K):=by
 apply F.bL rb;rintro _ H Q E ⟨a,b,rfl,n,k⟩;refine⟨Z,fun _ _ _ _ hr=>?_⟩
 refine⟨_,Qb (bz 1 rb.nd (QA QV (QP T.g20) (QA ZN (QP T.g8) (Qr N hr (Qa (pv 0) (Qa Qi (Qa Qi Qc)))))))
  (Qb (bz 2 rb.nd (QA QV (pv 1) (QA ZN (QP T.g4) (Qr N hr (Qa (pv 0) (Qa Qi (Qa Qi Qc)))))))
  (Qd (Qj (Ze (Qa (QP T.g20) (Qa (pv 1) (Qa (pv 2) (Qa (QA QV (pv 2) (QA ZN (QP T.g12) (Qr N hr (Qa (pv 0) (Qa Qi (Qa Qi Qc)))))) Qc)))))))),?_⟩
 refine⟨_,Z,a,b,12,2,_,_,Z,Z,Z,n,fun H1 z=>⟨_,_,Z,Z,.inl ⟨by decide,by decide⟩,_,_,Z,Z,?_⟩⟩;refine⟨_,Z,_,Z,a,b,14,2,_,_,Z,Z,Z,z.seq n,fun H2 B=>⟨_,_,Z,Z,.inl ⟨by decide,by decide⟩,_,_,Z,Z,?_⟩⟩;have j:=z.trans B;refine⟨_,Z,_,Z,_,Z,_,Z,a,b,16,2,_,_,Z,Z,Z,j.seq n,fun J G=>⟨_,_,Z,Z,.inl ⟨by decide,by decide⟩,_,_,Z,Z,(by show 4<=sizeLine;decide),fun t I=>?_⟩⟩;refine k _ t ((j.trans G).trans (Qk _ I)) ?_;rw[Qe];unfold pU;lia
theorem Bv{f fI:Addr}{fd O:FuncData}(F:bF K "drawing_of" "drawing_of" Au f fd)(T:Z9 K mg C) (N:bq P w K mg base 1 "number_at" ["octets","place","size"] (JE K)) (Rw:bq P w K mg base 2 "row_places" ["octets"] (f' K))
  (R:bq P w K mg base 2 "pairs_at" ["octets","place","step","count","size"] (jE K)) (M:Mk K C fI) (bI:Xr K O ["self","width","height","points","lines","marks"] []) (G:QC P w K mg base bB 1 fI O ["self","width","height","points","lines","marks"] (iV C)) :
  QC P w K mg base bB 3 f fd ["octets"] (ma K C):=by
 apply F.bL wJ;rintro _ H Q E ⟨a,b,rfl,n,k⟩;refine⟨Z,fun _ _ _ _ hr=>?_⟩;have eM:=hr.mono (j:=1) Wa
 refine⟨_,Qb (bz 1 wJ.nd (Qr Rw hr (Qa (pv 0) Qc)))
  (Qd (Qj (mM M G hr Z T.mgC bI .nil Zc
   (Qa (Qr N eM (Qa (pv 0) (Qa Qi (Qa Qi Qc))))
   (Qa (Qr N eM (Qa (pv 0) (Qa Qi (Qa Qi Qc))))
   (Qa (Qr R hr (Qa (pv 0) (Qa (Qy QO (pv 1) Qi (fun _ _=>rfl)) (Qa (QP T.g8) (Qa (Qr N eM (Qa (pv 0) (Qa Qi (Qa Qi Qc)))) (Qa Qi Qc))))))
   (Qa (Qr R hr (Qa (pv 0) (Qa (Qy QO (pv 1) Qi (fun _ _=>rfl)) (Qa (QP T.g4) (Qa (Qr N eM (Qa (pv 0) (Qa Qi (Qa Qi Qc)))) (Qa Qi Qc))))))
   (Qa (Qr R hr (Qa (pv 0) (Qa (Qy QO (pv 1) Qi (fun _ _=>rfl)) (Qa (QP T.g12) (Qa (Qr N eM (Qa (pv 0) (Qa Qi (Qa Qi Qc)))) (Qa Qi Qc)))))) Qc)))))))),?_⟩
 have q1:=Br b 12;have q2:=Br b 14;have q3:=Br b 16;refine⟨_,Z,a,b,Z,n,fun H2 t s2 ht=>?_⟩;refine⟨_,Z,a,b,4,4,_,_,Z,Z,Z,s2.seq n,fun H3 U=>?_⟩;have s3:=s2.trans U;refine⟨_,Z,a,b,8,4,_,_,Z,Z,Z,s3.seq n,fun H4 aa=>?_⟩;have s4:=s3.trans aa;have t4:=aa _ _ (U _ _ ht);refine⟨_,Z,_,Z,t,_,_,_,Z,Z,bV.of t4,Qm (j:=0) Z,_,Z,a,b,12,2,_,_,Z,Z,Z,s4.seq n,fun ah ab=>?_⟩;have ac:=s4.trans ab;refine⟨a,b,20,8,xG b 12 2,4,_,_,_,_,Z,Z,Z,Z,Z,ac.seq n,by lia,by decide,fun H5 lp ap ad A1=>?_⟩;have s5:=ac.trans ad;have t5:=ad _ _ (ab _ _ t4);refine⟨_,Z,_,Z,t,_,_,_,Z,Z,bV.of t5,Qm (j:=1) Z,_,Z,a,b,14,2,_,_,Z,Z,Z,s5.seq n,fun ai z=>?_⟩;have af:=s5.trans z;refine⟨a,b,20+8*xG b 12 2,4,xG b 14 2,2,_,_,_,_,Z,Z,Z,Z,Z,af.seq n,by lia,by decide,fun H6 ll al B A2=>?_⟩;have s6:=af.trans B;have t6:=B _ _ (z _ _ t5);refine⟨_,Z,_,Z,t,_,_,_,Z,Z,bV.of t6,Qm (j:=2) Z,_,Z,a,b,16,2,_,_,Z,Z,Z,s6.seq n,fun H7 I=>?_⟩;have s7:=s6.trans I;refine⟨a,b,20+8*xG b 12 2+4*xG b 14 2,12,xG b 16 2,4,_,_,_,_,Z,Z,Z,Z,Z,s7.seq n,by lia,by decide,fun H8 lm am J A3=>?_⟩;have s8:=s7.trans J;intro x dx nx ag ne;refine⟨x,dx,_,_,xG b 4 4,xG b 8 4,lp,ll,lm,Z,Z,Z,Qe,fun H9 hx kp=>⟨Z,?_⟩⟩;have s9:Qn H8 H9:=Qn.made nx ag kp;refine k H9 x dx lp ll lm ap al am (s8.trans s9) ⟨hx,?_,?_,?_⟩
 ·rw[nG];exact A1.same ((((z.trans B).trans I).trans J).trans s9)
 ·rw[fV];exact A2.same ((I.trans J).trans s9)
 ·rw[gm];exact A3.same s9
end Gp
namespace L2
open PySem PySem.Spec PyProof.Rows
theorem Yn{K:xz}{a:Addr}{xs:List V}{p q:Nat}{tb:TS}{D:JD}{σ:St}{H:Hp}(j:Nat->St->Hp->Prop)(h0:j 0 σ H)(hl:∀i σ H,i<=xs.length->j i σ H->a' K H a xs)
  (I:∀i x σ H H',xs[i]?=some x->j i σ H->Qn H H'->tb { D with nx:=j (i+1),ct:=j (i+1),bk:=D.nx } ((σ.set p (some (.int (i:Int)))).set q (some x)) H') (hd:∀σ H,j xs.length σ H->D.nx σ H) :
  ∃W:Nat->Nat->St->Hp->Prop,(∃m,W 0 m σ H)/\∀i m σ H,W i m σ H->
   ((Ei K a).stop i H/\D.nx σ H)\/((Ei K a).go i H/\∃N:St->Hp->Prop,(∀B H',N B H'->∃G,G<m/\W (i+1) G B H')/\∀x H',(Ei K a).yld i H x H'->yJ K 2 (Z4 (Zz p) (Z4 (Zz q) xc)) x σ H' fun J H2=>tb { D with nx:=N,ct:=N,bk:=D.nx } J H2):=by
 refine⟨fun i m σ H=>m=xs.length-i/\i<=xs.length/\j i σ H,⟨xs.length,by simp,x4 _,h0⟩,?_⟩;rintro i m σ H ⟨rfl,hi,pv⟩;have F:=hl i σ H hi pv;by_cases n:i<xs.length
 ·refine .inr ⟨⟨xs,xs[i],F,by simp[n]⟩,j (i+1),fun B H' M=>⟨xs.length-(i+1),by lia,Z,n,M⟩,fun x H' y=>?_⟩;obtain⟨T,z,rfl,O,rfl,y⟩:=y;refine⟨T,_,Z,bV.of Qe,Z,_,_,Z,_,_,Z,Z,?_⟩;exact I i z σ H _ (y xs F) pv fun b o e=>by rw[Qh (Qg e O)];exact e
 ·have e:i=xs.length:=by lia
  subst e;exact .inl ⟨⟨xs,F,xM _⟩,hd σ H pv⟩
end L2
namespace Gp
open PySem PySem.Spec PyProof.Rows L2
open Gla (Pt Plan)
theorem Zq{α:Type}{p:Nat->α->Bool}{l:List α}{i:Nat}(hi:i<l.length)(h:p i l[i]=true) (z:∀j (n:j<i),p j (l[j]'(by lia))=false):Gb p l=some i:=by
 unfold Gb
 have:l.zipIdx.find? (fun(x:α×Nat)=>p x.2 x.1)=some (l[i],i):=by rw[Va];refine⟨h,i,by simpa using hi,by simp,?_⟩;intro j n;have:=z j n;simp[this]
 rw[this];rfl
def JC:Option Nat->V
 |none=>.bP
 |some n=>.int (n:Int)
theorem Zm{as:List Addr}{i:Nat}{x:V} (h:(as.map V.ref)[i]?=some x):∃c,as[i]?=some c/\x=V.ref c:=by grind
section
variable {H:Hp} {d:Addr} {S:Plan} {dx lp ll lm:Addr} {ap al am:List Addr}
theorem Dw.pt(D:Dw K C H d S dx lp ll lm ap al am){i:Nat}(j:ap[i]?=some a):∃h:i<S.pts.length,Xg K H a S.pts[i]:=by
 have hl:=D.pts.len;rw[xB]at hl;have hi:i<S.pts.length:=by rw[<-hl];exact(List.getElem?_eq_some_iff.1 j).1
 exact⟨hi,bV.of (D.pts.at_ i a (xy S.pts[i]) j (by rw[xJ,xD hi];rfl))⟩
theorem Dw.eP(D:Dw K C H d S dx lp ll lm ap al am){i:Nat}(hi:i<S.pts.length):∃a,ap[i]?=some a/\Xg K H a S.pts[i]:=by have hl:=D.pts.len;rw[xB]at hl;obtain⟨a,j⟩:∃a,ap[i]?=some a:=⟨ap[i]'(by lia),xD _⟩;obtain⟨_,h⟩:=D.pt j;exact⟨a,j,h⟩
theorem Dw.ln(D:Dw K C H d S dx lp ll lm ap al am){i:Nat}(j:al[i]?=some a):∃h:i<S.lines.length,bV K H a [.int (S.lines[i].1:Int),.int (S.lines[i].2:Int)]:=by
 have hl:=D.cE.len;have hi:i<S.lines.length:=by rw[<-hl];exact(List.getElem?_eq_some_iff.1 j).1
 exact⟨hi,bV.of (D.cE.at_ i a S.lines[i] j (xD hi))⟩
theorem Dw.EA(D:Dw K C H d S dx lp ll lm ap al am){i:Nat}(hi:i<S.lines.length):∃a,al[i]?=some a/\bV K H a [.int (S.lines[i].1:Int),.int (S.lines[i].2:Int)]:=by have hl:=D.cE.len;obtain⟨a,j⟩:∃a,al[i]?=some a:=⟨al[i]'(by lia),xD _⟩;obtain⟨_,h⟩:=D.ln j;exact⟨a,j,h⟩
theorem Dw.Kd(D:Dw K C H d S dx lp ll lm ap al am){i:Nat}(j:am[i]?=some a):∃h:i<S.marks.length,Xg K H a S.marks[i].at_:=by
 have hl:=D.mrk.len;rw[xB]at hl;have hi:i<S.marks.length:=by rw[<-hl];exact(List.getElem?_eq_some_iff.1 j).1
 exact⟨hi,bV.of (D.mrk.at_ i a (xy S.marks[i].at_) j (by rw[xJ,xD hi];rfl))⟩
theorem Dw.Hl(D:Dw K C H d S dx lp ll lm ap al am){i:Nat}(hi:i<S.marks.length):∃a,am[i]?=some a/\Xg K H a S.marks[i].at_:=by have hl:=D.mrk.len;rw[xB]at hl;obtain⟨a,j⟩:∃a,am[i]?=some a:=⟨am[i]'(by lia),xD _⟩;obtain⟨_,h⟩:=D.Kd j;exact⟨a,j,h⟩
end
inductive XR(K:xz)(C:Addr)(ok:Plan->Prop)(f:Plan->Option Nat)(vs:List V)(H:Hp)(Q:VK)(E:XK):Prop
 |mk (d:Addr) (S:Plan) (dx lp ll lm:Addr) (ap al am:List Addr):vs=[.ref d]->Dw K C H d S dx lp ll lm ap al am->ok S->(∀H',Qn H H'->Q (JC (f S)) H')->XR K C ok f vs H Q E
def YE(S:Plan):Option Nat:=(Ul (fun(p:Pt)=>decide (p.x<=S.w)&&decide (p.y<=S.h)) Pt.below S.pts).map U7
def Yj(S:Plan):Option Nat:=(Ul (fun(l:Nat×Nat)=>decide (l.1<l.2)&&decide (l.2<S.pts.length)) Uh S.lines).map (UB S)
abbrev Ib:Stmt:=top 23
abbrev Kn:Stmt:=top 24
abbrev HD:Stmt:=top 25
theorem Cd:a7 ["drawing","number","point"] ["drawing"] (a6 Ib):=.mk'
theorem IK:a7 ["later","earlier"] ["later","earlier"] (a6 Kn):=.mk'
theorem A8:a7 ["drawing","number","line"] ["drawing"] (a6 HD):=.mk'
inductive B6(K:xz)(vs:List V)(H:Hp)(Q:VK)(E:XK):Prop
 |mk (a b:Addr) (p q:Nat×Nat):vs=[.ref a,.ref b]->bV K H a [.int (p.1:Int),.int (p.2:Int)]->bV K H b [.int (q.1:Int),.int (q.2:Int)]->Q (.bl (Uh q p)) H->B6 K vs H Q E
def qK(S:Plan)(i:Nat)(p:Pt):Bool:=!(decide (p.x<=S.w)&&decide (p.y<=S.h))||(decide (0<i)&&(match S.pts[i-1]? with
 |some y=>!y.below p
 |none=>false))
def qJ(S:Plan)(i:Nat)(l:Nat×Nat):Bool:=!(decide (l.1<l.2)&&decide (l.2<S.pts.length))||(decide (0<i)&&(match S.lines[i-1]? with
 |some y=>!Gla.lineBelow y l
 |none=>false))
theorem gL(S:Plan):YE S=(Gb (qK S) S.pts).map U7:=by unfold YE Ul;congr 2;funext i x;unfold qK;cases S.pts[i-1]?<;>rfl
theorem gA(S:Plan):Yj S=(Gb (qJ S) S.lines).map (UB S):=by unfold Yj Ul;congr 2;funext i x;unfold qJ;cases S.lines[i-1]?<;>rfl
theorem ED(F:bF K "wrong_point" "wrong_point" Ib f fd)(T:Z9 K mg C)(U:Txt K mg)(M:XQ P w K mg base C 1 "point_place" ["self","number"] gv) (B:bq P w K mg base 1 "comes_behind" ["later","earlier"] (J4 K)) :
  QC P w K mg base bB 2 f fd ["drawing"] (XR K C (fun _=>True) YE):=by
 obtain⟨fm,ah,hm,bm,G⟩:=M.ex;apply F.bL Cd;rintro _ H Q E ⟨d,S,dx,lp,ll,lm,ap,al,am,rfl,D,_,k⟩;refine⟨Z,fun _ _ _ _ hr=>?_⟩
 refine⟨_,Qb (QL PassesOwn.never Z (Jq Z U.enum (Qa (Qw (pv 0) Z) Qc)) (ZF (n:=2) Z (QF (b0 1 Cd.nd) (QF (b0 2 Cd.nd) Zl)))
   (Qb (QD (Xo (Qs Zn (QX 2) (Qw (pv 0) Z) (Qo _)) (ZM (Qs Zn (Q5 2) (Qw (pv 0) Z) (Qo _)))).pt
    (Qd (Qj (Q4 (pv 0) T.cl hm G hr bm .nil Zc (Qa (pv 1) Qc)))) Qq)
   (Qd (QD (Y0 (Qs Zn (pv 1) Qi (Qo _)) (XW (X5 (Zd (Qr B hr (Qa (pv 2) (Qa (Qy QE (Qw (pv 0) Z) (QA Xi (pv 1) Qi) (fun _ _=>rfl)) Qc))))))).pt
    (Qd (Qj (Q4 (pv 0) T.cl hm G hr bm .nil Zc (Qa (pv 1) Qc)))) Qq))))
  (Qd (Qj QT)),?_⟩
 have ab:=Xq S.w S.h lp ll lm (m := "point_place") Wb Wb Wb Wb Wb
 refine⟨_,Z,d,C,dx,_,_,Z,D.ins,T.cl,T.nP,XJ _ _ _ _ _,lp,_,Z,D.pts.lst,Yn (K:=K) (a:=lp) (xs:=ap.map V.ref) (fun i σ H'=>∃J O:Option V,σ=[some (.ref d),J,O]/\Qn H H'/\∀j (hj:j<i) (hl:j<S.pts.length),qK S j S.pts[j]=false)
  ⟨none,none,Z,Qn.refl H,fun j hj=>by lia⟩ (fun i σ H' _ ⟨_,_,_,s1,_⟩=>(D.same s1).pts.lst) ?_ ?_⟩
 ·rintro i x σ H1 H2 hx ⟨J,O,rfl,s1,hb⟩ ac;obtain⟨c,hc,rfl⟩:=Zm hx;have s2:=s1.trans ac;have I:=D.same s2;obtain⟨hi,hp⟩:=I.pt hc
  have ret:qK S i S.pts[i]=true->rH (yP C "point_place" gv [] E0 (ZH 0) (YD (ZH 1) jz)) { nx:=fun _ H'=>Q V.bP H',rt:=Q } [some (.ref d),some (.int (i:Int)),some (.ref c)] H2:=fun aa=>by
   refine⟨_,Z,d,dx,_,Z,I.ins,ab,_,Z,_,_,i,Z,Z,?_⟩
   have e:YE S=some (U7 i):=by rw[gL,Zq (p:=qK S) (l:=S.pts) hi aa (fun j hj=>hb j hj L)];rfl
   have:=k H2 s2;rw[e]at this;exact this
  have good:qK S i S.pts[i]=false->∃J O:Option V,[some (V.ref d),some (V.int (i:Int)),some (V.ref c)]=[some (.ref d),J,O]/\Qn H H2/\∀j (hj:j<i+1) (hl:j<S.pts.length),qK S j S.pts[j]=false:=fun hg=>by
   grind
  refine⟨c,_,_,Z,hp,_,Z,d,C,dx,_,_,Z,I.ins,T.cl,T.nW,p6 _ _ _ _ _,_,_,Z,Z,_,Z,Qz (fun h1=>ZG (ret ?_)) (fun h1=>?_)⟩
  ·have h1:(S.w:Int)<S.pts[i].x:=Wj h1;unfold qK;lia
  ·have h1:¬ (S.w:Int)<S.pts[i].x:=fun z=>h1 (Wk z);refine⟨c,_,_,Z,hp,_,Z,d,C,dx,_,_,Z,I.ins,T.cl,T.nH,t8 _ _ _ _ _,_,_,Z,Z,_,Z,Qz (fun h2=>ret ?_) (fun h2=>?_)⟩
   ·have h2:(S.h:Int)<S.pts[i].y:=Wj h2;unfold qK;lia
   ·have h2:¬ (S.h:Int)<S.pts[i].y:=fun z=>h2 (Wk z);have x1:S.pts[i].x<=S.w:=by lia
    have x2:S.pts[i].y<=S.h:=by lia
    refine⟨_,Z,_,_,Z,Z,_,Z,Qz (fun h3=>?_) (fun h3=>?_)⟩
    ·have h3:(0:Int)<i:=Wj h3;obtain⟨c',ad,af⟩:=I.eP (i:=i-1) L;have ag:S.pts[i-1]?=some (S.pts[i-1]'(by lia)):=xD _;refine⟨_,Z,_,Z,d,C,dx,_,_,Z,I.ins,T.cl,T.nP,XJ _ _ _ _ _,_,Z,_,_,Z,Z,lp,_,_,_,Z,Z,I.pts.lst,at_of (j:=i-1) (v:=V.ref c') L (by rw[xJ,ad];rfl),c,c',_,_,Z,hp,af,_,Z,Qz (fun h4=>ret ?_) (fun h4=>good ?_)⟩
     ·unfold qK;lia
     ·unfold qK;lia
    ·have h3:¬(0:Int)<i:=fun z=>h3 (Wk z);refine good ?_;unfold qK;lia
 ·rintro σ H1 ⟨J,O,rfl,s1,hb⟩
  have e:YE S=none:=by have:Gb (qK S) S.pts=none:=Pl.bw.2 fun i hi=>hb i (by rw[xB,D.pts.len,xB];exact hi) hi;rw[gL,this];rfl
  have:=k H1 s1;rw[e]at this;exact this
theorem EC(F:bF K "line_comes_behind" "line_comes_behind" Kn f fd):QC P w K mg base bB 1 f fd ["later","earlier"] (B6 K):=by
 apply F.bL IK;rintro _ H Q E ⟨a,b,p,q,rfl,j,n,k⟩;refine⟨Z,fun _ _ _ _ _=>?_⟩
 refine⟨_,Qb (QD (Qs qa (QX 0) (QX 1) (Qo _)) (Qd (Qj (QM Zn (QX 0) (QX 1) (Qo _)))) Qq)
  (Qd (Qj (QM Zn (Q5 0) (Q5 1) (Qo _)))),?_⟩
 refine⟨a,_,_,Z,j,b,_,_,Z,n,Z,_,Z,?_⟩;unfold Uh at k;refine Qz (fun h=>?_) (fun h=>?_)
 ·have h:¬ (p.1:Int)=q.1:=by simpa using h
  refine⟨a,_,_,Z,j,b,_,_,Z,n,_,_,Z,Z,?_⟩
  have e:(decide (q.1<p.1)||q.1==p.1&&decide (q.2<p.2))=decide ((q.1:Int)<p.1):=by rw[Gz];simp;lia
  rw[e]at k;exact k
 ·have h:(p.1:Int)=q.1:=by simpa using h
  refine⟨a,_,_,Z,j,b,_,_,Z,n,_,_,Z,Z,?_⟩
  have e:(decide (q.1<p.1)||q.1==p.1&&decide (q.2<p.2))=decide ((q.2:Int)<p.2):=by rw[Gz];simp;lia
  rw[e]at k;exact k
theorem Ft(F:bF K "wrong_line" "wrong_line" HD f fd)(T:Z9 K mg C)(U:Txt K mg) (M:XQ P w K mg base C 2 "line_place" ["self","number"] (ip K C)) (B:bq P w K mg base 1 "line_comes_behind" ["later","earlier"] (B6 K)) :
  QC P w K mg base bB 3 f fd ["drawing"] (XR K C (fun _=>True) Yj):=by
 obtain⟨fm,ah,hm,bm,G⟩:=M.ex;apply F.bL A8;rintro _ H Q E ⟨d,S,dx,lp,ll,lm,ap,al,am,rfl,D,_,k⟩;refine⟨Z,fun _ _ _ _ hr=>?_⟩
 refine⟨_,Qb (QL PassesOwn.never Z (Jq Z U.enum (Qa (Qw (pv 0) Z) Qc)) (ZF (n:=2) Z (QF (b0 1 A8.nd) (QF (b0 2 A8.nd) Zl)))
   (Qb (QD (Xo (Qs fx (QX 2) (Q5 2) (Qo _)) (ZM (Qs fx (Q5 2) (Qx Qp Wg U.len Wx (Qa (Qw (pv 0) Z) Qc)) (Qo _)))).pt
    (Qd (Qj (Q4 (pv 0) T.cl hm G hr bm .nil Zc (Qa (pv 1) Qc)))) Qq)
   (Qd (QD (Y0 (Qs Zn (pv 1) Qi (Qo _)) (XW (X5 (Zd (Qr B (hr.mono Wa) (Qa (pv 2) (Qa (Qy QE (Qw (pv 0) Z) (QA Xi (pv 1) Qi) (fun _ _=>rfl)) Qc))))))).pt
    (Qd (Qj (Q4 (pv 0) T.cl hm G hr bm .nil Zc (Qa (pv 1) Qc)))) Qq))))
  (Qd (Qj QT)),?_⟩
 have ab:=Xq S.w S.h lp ll lm (m := "line_place") Wb Wb Wb Wb Wb
 refine⟨_,Z,d,C,dx,_,_,Z,D.ins,T.cl,T.nL,yo _ _ _ _ _,ll,_,Z,D.cE.lst,Yn (K:=K) (a:=ll) (xs:=al.map V.ref) (fun i σ H'=>∃O v2:Option V,σ=[some (.ref d),O,v2]/\Qn H H'/\∀j (hj:j<i) (hl:j<S.lines.length),qJ S j S.lines[j]=false)
  ⟨none,none,Z,Qn.refl H,fun j hj=>by lia⟩ (fun i σ H' _ ⟨_,_,_,s1,_⟩=>(D.same s1).cE.lst) ?_ ?_⟩
 ·rintro i x σ H1 H2 hx ⟨O,v2,rfl,s1,hb⟩ ac;obtain⟨c,hc,rfl⟩:=Zm hx;have s2:=s1.trans ac;have I:=D.same s2;obtain⟨hi,hp⟩:=I.ln hc
  have ret:qJ S i S.lines[i]=true->rH (yP C "line_place" (ip K C) [] E0 (ZH 0) (YD (ZH 1) jz)) { nx:=fun _ H'=>Q V.bP H',rt:=Q } [some (.ref d),some (.int (i:Int)),some (.ref c)] H2:=fun aa=>by
   refine⟨_,Z,d,dx,_,Z,I.ins,ab,_,Z,d,_,i,S,dx,lp,ll,lm,ap,al,am,Z,Z,I,?_⟩
   have e:Yj S=some (UB S i):=by rw[gA,Zq (p:=qJ S) (l:=S.lines) hi aa (fun j hj=>hb j hj L)];rfl
   have:=k H2 s2;rw[e]at this;exact this
  have good:qJ S i S.lines[i]=false->∃O v2:Option V,[some (V.ref d),some (V.int (i:Int)),some (V.ref c)]=[some (.ref d),O,v2]/\Qn H H2/\∀j (hj:j<i+1) (hl:j<S.lines.length),qJ S j S.lines[j]=false:=fun hg=>by
   grind
  have J:((ap.map V.ref).length:Int)=S.pts.length:=by rw[xB,D.pts.len,xB]
  refine⟨c,_,_,Z,hp,c,_,_,Z,hp,_,_,Z,Z,_,Z,Qz (fun h1=>ZG (ret ?_)) (fun h1=>?_)⟩
  ·have h1:(S.lines[i].2:Int)<=S.lines[i].1:=Wj h1;unfold qJ;lia
  ·have h1:¬ (S.lines[i].2:Int)<=S.lines[i].1:=fun z=>h1 (Wk z);refine⟨c,_,_,Z,hp,_,Z,d,C,dx,_,_,Z,I.ins,T.cl,T.nP,XJ _ _ _ _ _,lp,_,Z,.inl I.pts.lst,_,_,Z,Z,_,Z,Qz (fun h2=>ret ?_) (fun h2=>?_)⟩
   ·have h2:((ap.map V.ref).length:Int)<=S.lines[i].2:=Wj h2;rw[J]at h2;unfold qJ;lia
   ·have h2:¬ ((ap.map V.ref).length:Int)<=S.lines[i].2:=fun z=>h2 (Wk z);rw[J] at h2;have x1:S.lines[i].1<S.lines[i].2:=by lia
    have x2:S.lines[i].2<S.pts.length:=by lia
    refine⟨_,Z,_,_,Z,Z,_,Z,Qz (fun h3=>?_) (fun h3=>?_)⟩
    ·have h3:(0:Int)<i:=Wj h3;obtain⟨c',ad,af⟩:=I.EA (i:=i-1) L;have ag:S.lines[i-1]?=some (S.lines[i-1]'(by lia)):=xD _;refine⟨_,Z,_,Z,d,C,dx,_,_,Z,I.ins,T.cl,T.nL,yo _ _ _ _ _,_,Z,_,_,Z,Z,ll,_,_,_,Z,Z,I.cE.lst,at_of (j:=i-1) (v:=V.ref c') L (by rw[xJ,ad];rfl),c,c',_,_,Z,hp,af,_,Z,Qz (fun h4=>ret ?_) (fun h4=>good ?_)⟩
     ·unfold qJ;lia
     ·unfold qJ;lia
    ·have h3:¬(0:Int)<i:=fun z=>h3 (Wk z);refine good ?_;unfold qJ;lia
 ·rintro σ H1 ⟨O,v2,rfl,s1,hb⟩
  have e:Yj S=none:=by have:Gb (qJ S) S.lines=none:=Pl.bw.2 fun i hi=>hb i (by rw[xB,D.cE.len];exact hi) hi;rw[gA,this];rfl
  have:=k H1 s1;rw[e]at this;exact this
structure nN(S:Plan):Prop where
 cE:X3 S
 siz:Ji S
 srt:∀(i j:Nat)(_:i<j)(hj:j<S.pts.length),(S.pts[i]).below S.pts[j]=true
 sm:∀p∈S.pts,Sm p
 smm:∀m∈S.marks,Sm m.at_
theorem fZ{xs:List V}{p q:Nat}:X7 xs (some (p:Int)) (some (q:Int))=(xs.drop p).take (q-p):=by
 unfold X7;rw[HT.dj,HT.dj];by_cases h:p<=xs.length
 ·rw[Qaf h,V1,Ga];lia
 ·rw[GH (as:=xs) (i:=min p xs.length) L,GH (as:=xs) (i:=p) L];simp
theorem yr{xs:List V}{q:Nat}:X7 xs none (some (q:Int))=xs.take q:=by unfold X7;rw[HT.dj,HT.px,G4,Nat.sub_zero,V1];lia
def jj(S:Plan)(l:Nat×Nat):Bool:=(xN S.pts.length).any fun(k:Nat)=>k != l.1&&(k != l.2&&Up (S.pt l.1) (S.pt l.2) (S.pt k))
def oH(S:Plan)(i:Nat)(l:Nat×Nat):Bool:=(S.lines.take i).any fun(m:Nat×Nat)=>GZ (S.pt l.1) (S.pt l.2) (S.pt m.1) (S.pt m.2)
theorem JL(S:Plan)(i:Nat)(l:Nat×Nat):U6 S i l=(jj S l||oH S i l):=rfl
def YY(S:Plan):Option Nat:=(Gb (U6 S) S.lines).map (UB S)
inductive Ay(K:xz)(C:Addr)(vs:List V)(H:Hp)(Q:VK)(E:XK):Prop
 |mk (d a:Addr) (l:Nat×Nat) (S:Plan) (dx lp ll lm:Addr) (ap al am:List Addr):vs=[.ref d,.ref a]->Dw K C H d S dx lp ll lm ap al am->bV K H a [.int (l.1:Int),.int (l.2:Int)]->l.1<l.2->l.2<S.pts.length->nN S->(∀H',Qn H H'->Q (.bl (jj S l)) H')->Ay K C vs H Q E
inductive An(K:xz)(C:Addr)(vs:List V)(H:Hp)(Q:VK)(E:XK):Prop
 |mk (d:Addr) (n:Int) (i:Nat) (S:Plan) (dx lp ll lm:Addr) (ap al am:List Addr):vs=[.ref d,.int n]->n=(i:Int)->Dw K C H d S dx lp ll lm ap al am->nN S->(∃h:i<S.lines.length,∀H',Qn H H'->Q (.bl (oH S i S.lines[i])) H')->An K C vs H Q E
abbrev Iw:Stmt:=top 29
abbrev HQ:Stmt:=top 30
abbrev IH:Stmt:=top 31
theorem wg:a7 ["drawing","line","start","end","point"] ["drawing","line"] (a6 Iw):=.mk'
theorem tI:a7 ["drawing","number","line","start","end","other"] ["drawing","number"] (a6 HQ):=.mk'
theorem AI:a7 ["drawing","number","line"] ["drawing"] (a6 IH):=.mk'
theorem Dn(F:bF K "holds_point" "holds_point" Iw f fd)(T:Z9 K mg C) (B:bq P w K mg base 2 "is_on" ["point","start","end"] (vD K)) :
  QC P w K mg base bB 3 f fd ["drawing","line"] (Ay K C):=by
 apply F.bL wg;rintro _ H Q E ⟨d,a,l,S,dx,lp,ll,lm,ap,al,am,rfl,D,G,h1,h2,O,k⟩;refine⟨Z,fun _ _ _ _ hr=>?_⟩
 refine⟨_,Qb (bz 2 wg.nd (Qy QE (Qw (pv 0) Z) (QX 1) (fun _ _=>rfl)))
  (Qb (bz 3 wg.nd (Qy QE (Qw (pv 0) Z) (Q5 1) (fun _ _=>rfl)))
  (Qb (QL PassesOwn.never Z (Q3 (XF Ys (Qw (pv 0) Z) (Xb (QA QV (QX 1) Qi)) (Xb (Q5 1)))) (b0 4 wg.nd)
   (Qd (QD (Zd (Qr B hr (Qa (pv 4) (Qa (pv 2) (Qa (pv 3) Qc))))) (Qd (Qj Xe)) Qq)))
  (Qd (Qj Xe)))),?_⟩
 obtain⟨c1,I,J⟩:=D.eP (i:=l.1) L;obtain⟨c2,M,U⟩:=D.eP (i:=l.2) h2;refine⟨_,Z,d,C,dx,_,_,Z,D.ins,T.cl,T.nP,XJ _ _ _ _ _,a,_,_,Z,G,lp,_,_,_,Z,Z,D.pts.lst,Qm (j:=l.1) (v:=V.ref c1) (by rw[xJ,I];rfl),?_⟩;refine⟨_,Z,d,C,dx,_,_,Z,D.ins,T.cl,T.nP,XJ _ _ _ _ _,a,_,_,Z,G,lp,_,_,_,Z,Z,D.pts.lst,Qm (j:=l.2) (v:=V.ref c2) (by rw[xJ,M];rfl),?_⟩;refine⟨_,Z,d,C,dx,_,_,Z,D.ins,T.cl,T.nP,XJ _ _ _ _ _,a,_,_,Z,G,_,_,Z,Z,_,Z,a,_,_,Z,G,_,Z,lp,_,Z,D.pts.lst,fun q hq=>?_⟩
 have ec:X7 (ap.map V.ref) (some ((l.1:Int)+1)) (some (l.2:Int))=((ap.drop (l.1+1)).take (l.2-(l.1+1))).map V.ref:=by rw[show(l.1:Int)+1=((l.1+1:Nat):Int) by lia,fZ,Vo,V8]
 rw[ec];have s0:=Qk (.lst (((ap.drop (l.1+1)).take (l.2-(l.1+1))).map V.ref)) hq;have ac:ap.length=S.pts.length:=by have:=D.pts.len;rwa [xB]at this
 have xl:(((ap.drop (l.1+1)).take (l.2-(l.1+1))).map V.ref).length=l.2-(l.1+1):=by grind
 refine⟨q,Z,⟨_,a'.of Qe⟩,Zs (K:=K) (a:=q) (xs:=((ap.drop (l.1+1)).take (l.2-(l.1+1))).map V.ref) (fun i σ H'=>∃v4:Option V,Dd (σ=[some (.ref d),some (.ref a),some (.ref c1),some (.ref c2),v4]) (Qn H H') (H' q=some (.lst (((ap.drop (l.1+1)).take (l.2-(l.1+1))).map V.ref))) (∀j,j<i->l.1+1+j<l.2->Up (S.pt l.1) (S.pt l.2) (S.pt (l.1+1+j))=false))
  ⟨none,Z,s0,Qe,fun j hj=>by lia⟩ (fun i σ H' _ ⟨_,_,_,h,_⟩=>a'.of h) ?_ ?_⟩
 ·rintro i x σ H1 hx ⟨v4,rfl,n,z,hb⟩;obtain⟨c,hc,rfl⟩:=Zm hx
  have ad:i<l.2-(l.1+1):=by grind
  have aa:ap[l.1+1+i]?=some c:=by grind
  have D1:=D.same n;obtain⟨hk,hp⟩:=D1.pt aa;refine⟨_,Z,_,Z,_,Z,c,c1,c2,S.pts[l.1+1+i],S.pts[l.1]'(by lia),S.pts[l.2],Z,hp,Qn.tup n J,Qn.tup n U,O.sm _ (xP _),O.sm _ (xP _),O.sm _ (xP _),_,Z,Qz (fun h3=>?_) (fun h3=>?_)⟩
  ·have e:jj S l=true:=by
    unfold jj;rw[UQ];refine⟨l.1+1+i,List.mem_range.2 hk,?_⟩;rw[Pl.bE (i:=l.1) L,Pl.bE h2,Pl.bE hk,h3];have x1:(l.1+1+i != l.1)=true:=by simp;lia
    have x2:(l.1+1+i != l.2)=true:=by simp;lia
    rw[x1,x2];rfl
   have:=k H1 n;rw[e]at this;exact this
  ·refine⟨_,Z,n,z,fun j hj af=>?_⟩;by_cases qj:j=i
   ·subst qj;rw[Pl.bE (i:=l.1) L,Pl.bE h2,Pl.bE hk];lia
   grind
 ·rintro σ H1 ⟨v4,rfl,n,z,hb⟩;rw[xl] at hb
  have e:jj S l=false:=by
   unfold jj;rw[U3];intro m hm;have hm:=List.mem_range.1 hm;by_cases x1:m=l.1
   ·simp[x1]
   ·by_cases x2:m=l.2
    ·simp[x2]
    ·simp only[Gf,not_and];intro _ _ ab;have bt:=Pl.ig O.srt h1 h2 hm ab;have:=hb (m-(l.1+1)) L L;grind
  have:=k H1 n;rw[e]at this;exact this
theorem FA(F:bF K "crosses_earlier" "crosses_earlier" HQ f fd)(T:Z9 K mg C) (B:bq P w K mg base 3 "crosses" ["start","end","other_start","other_end"] (jF K)) :
  QC P w K mg base bB 4 f fd ["drawing","number"] (An K C):=by
 apply F.bL tI;rintro _ H Q E ⟨d,n,i,S,dx,lp,ll,lm,ap,al,am,rfl,rfl,D,O,hi,k⟩;refine⟨Z,fun _ _ _ _ hr=>?_⟩
 refine⟨_,Qb (bz 2 tI.nd (Qy QE (Qw (pv 0) Z) (pv 1) (fun _ _=>rfl)))
  (Qb (bz 3 tI.nd (Qy QE (Qw (pv 0) Z) (QX 2) (fun _ _=>rfl)))
  (Qb (bz 4 tI.nd (Qy QE (Qw (pv 0) Z) (Q5 2) (fun _ _=>rfl)))
  (Qb (QL PassesOwn.never Z (Q3 (XF Ys (Qw (pv 0) Z) zo (Xb (pv 1)))) (b0 5 tI.nd)
   (Qd (QD (Zd (Qr B hr (Qa (pv 3) (Qa (pv 4) (Qa (Qy QE (Qw (pv 0) Z) (QX 5) (fun _ _=>rfl)) (Qa (Qy QE (Qw (pv 0) Z) (Q5 5) (fun _ _=>rfl)) Qc)))))) (Qd (Qj Xe)) Qq)))
  (Qd (Qj Xe))))),?_⟩
 obtain⟨a,ha,hL⟩:=D.EA hi;obtain⟨h1,h2⟩:=O.cE S.lines[i] (xP hi);obtain⟨c1,aa,ab⟩:=D.eP (i:=S.lines[i].1) L;obtain⟨c2,ac,ad⟩:=D.eP (i:=S.lines[i].2) h2;refine⟨_,Z,d,C,dx,_,_,Z,D.ins,T.cl,T.nL,yo _ _ _ _ _,_,Z,ll,_,_,_,Z,Z,D.cE.lst,Qm (j:=i) (v:=V.ref a) (by rw[xJ,ha];rfl),?_⟩;refine⟨_,Z,d,C,dx,_,_,Z,D.ins,T.cl,T.nP,XJ _ _ _ _ _,a,_,_,Z,hL,lp,_,_,_,Z,Z,D.pts.lst,Qm (j:=S.lines[i].1) (v:=V.ref c1) (by rw[xJ,aa];rfl),?_⟩;refine⟨_,Z,d,C,dx,_,_,Z,D.ins,T.cl,T.nP,XJ _ _ _ _ _,a,_,_,Z,hL,lp,_,_,_,Z,Z,D.pts.lst,Qm (j:=S.lines[i].2) (v:=V.ref c2) (by rw[xJ,ac];rfl),?_⟩;refine⟨_,Z,d,C,dx,_,_,Z,D.ins,T.cl,T.nL,yo _ _ _ _ _,_,Z,_,Z,ll,_,Z,D.cE.lst,fun q hq=>?_⟩;have ec:X7 (al.map V.ref) none (some (i:Int))=(al.take i).map V.ref:=by rw[yr,Vo]
 rw[ec];have s0:=Qk (.lst ((al.take i).map V.ref)) hq;have all:al.length=S.lines.length:=D.cE.len;have xl:((al.take i).map V.ref).length=i:=by rw[xB,Gk];lia
 refine⟨q,Z,⟨_,a'.of Qe⟩,Zs (K:=K) (a:=q) (xs:=(al.take i).map V.ref) (fun j σ H'=>∃v5:Option V,Dd (σ=[some (.ref d),some (.int (i:Int)),some (.ref a),some (.ref c1),some (.ref c2),v5]) (Qn H H') (H' q=some (.lst ((al.take i).map V.ref))) (∀m,m<j->(I:m<S.lines.length)->GZ (S.pt S.lines[i].1) (S.pt S.lines[i].2) (S.pt S.lines[m].1) (S.pt S.lines[m].2)=false))
  ⟨none,Z,s0,Qe,fun j hj=>by lia⟩ (fun i σ H' _ ⟨_,_,_,h,_⟩=>a'.of h) ?_ ?_⟩
 ·rintro j x σ H1 hx ⟨v5,rfl,z,J,hb⟩;obtain⟨c,hc,rfl⟩:=Zm hx
  have hj:j<i:=by have:=(List.getElem?_eq_some_iff.1 hx).1;rw[xl]at this;exact this
  have af:al[j]?=some c:=by rw[Qay hj]at hc;exact hc
  have G:=D.same z;obtain⟨hk,I⟩:=G.ln af;obtain⟨g1,g2⟩:=O.cE S.lines[j] (xP hk);obtain⟨e1,ag,M⟩:=G.eP (i:=S.lines[j].1) L;obtain⟨e2,ah,U⟩:=G.eP (i:=S.lines[j].2) g2
  refine⟨_,Z,_,Z,_,Z,d,C,dx,_,_,Z,G.ins,T.cl,T.nP,XJ _ _ _ _ _,c,_,_,Z,I,lp,_,_,_,Z,Z,G.pts.lst,Qm (j:=S.lines[j].1) (v:=V.ref e1) (by rw[xJ,ag];rfl),
   _,Z,d,C,dx,_,_,Z,G.ins,T.cl,T.nP,XJ _ _ _ _ _,c,_,_,Z,I,lp,_,_,_,Z,Z,G.pts.lst,Qm (j:=S.lines[j].2) (v:=V.ref e2) (by rw[xJ,ah];rfl),
   c1,c2,e1,e2,S.pts[S.lines[i].1]'(by lia),S.pts[S.lines[i].2],S.pts[S.lines[j].1]'(by lia),S.pts[S.lines[j].2],Z,Qn.tup z ab,Qn.tup z ad,M,U,O.sm _ (xP _),O.sm _ (xP _),O.sm _ (xP _),O.sm _ (xP _),_,Z,Qz (fun h3=>?_) (fun h3=>?_)⟩
  ·have e:oH S i S.lines[i]=true:=by unfold oH;rw[UQ];refine⟨S.lines[j],List.mem_iff_getElem.2 ⟨j,by rw[Gk];lia,by simp⟩,?_⟩;rw[Pl.bE (i:=S.lines[i].1) L,Pl.bE h2,Pl.bE (i:=S.lines[j].1) L,Pl.bE g2];exact h3
   have:=k H1 z;rw[e]at this;exact this
  ·refine⟨_,Z,z,J,fun m I ai=>?_⟩;by_cases qj:m=j
   ·subst qj;rw[Pl.bE (i:=S.lines[i].1) L,Pl.bE h2,Pl.bE (i:=S.lines[m].1) L,Pl.bE g2];simpa using h3
   ·exact hb m L ai
 ·rintro σ H1 ⟨v5,rfl,z,J,hb⟩;rw[xl] at hb
  have e:oH S i S.lines[i]=false:=by unfold oH;rw[U3];intro m I;obtain⟨j,hj,rfl⟩:=List.mem_iff_getElem.1 I;rw[Gk]at hj;have:=hb j L L;simpa using this
  have:=k H1 z;rw[e]at this;exact this
theorem Ed(F:bF K "entangled_line" "entangled_line" IH f fd)(T:Z9 K mg C)(U:Txt K mg) (M:XQ P w K mg base C 2 "line_place" ["self","number"] (ip K C)) (B1:bq P w K mg base 3 "holds_point" ["drawing","line"] (Ay K C)) (B2:bq P w K mg base 4 "crosses_earlier" ["drawing","number"] (An K C)) :
  QC P w K mg base bB 5 f fd ["drawing"] (XR K C nN YY):=by
 obtain⟨fm,af,hm,bm,G⟩:=M.ex;apply F.bL AI;rintro _ H Q E ⟨d,S,dx,lp,ll,lm,ap,al,am,rfl,D,O,k⟩;refine⟨Z,fun _ _ _ _ hr=>?_⟩
 refine⟨_,Qb (QL PassesOwn.never Z (Jq Z U.enum (Qa (Qw (pv 0) Z) Qc)) (ZF (n:=2) Z (QF (b0 1 AI.nd) (QF (b0 2 AI.nd) Zl)))
   (Qd (QD (Xo (Zd (Qr B1 (hr.mono Wa) (Qa (pv 0) (Qa (pv 2) Qc)))) (ZM (Zd (Qr B2 hr (Qa (pv 0) (Qa (pv 1) Qc)))))).pt
    (Qd (Qj (Q4 (pv 0) T.cl hm G (hr.mono Wa) bm .nil Zc (Qa (pv 1) Qc)))) Qq)))
  (Qd (Qj QT)),?_⟩
 have ac:=Xq S.w S.h lp ll lm (m := "line_place") Wb Wb Wb Wb Wb
 refine⟨_,Z,d,C,dx,_,_,Z,D.ins,T.cl,T.nL,yo _ _ _ _ _,ll,_,Z,D.cE.lst,Yn (K:=K) (a:=ll) (xs:=al.map V.ref) (fun i σ H'=>tL fun(v1 v2:Option V)=>ek (σ=[some (.ref d),v1,v2]) (Qn H H') (∀j (hj:j<i) (hl:j<S.lines.length),U6 S j S.lines[j]=false))
  ⟨none,none,Z,Qn.refl H,fun j hj=>by lia⟩ (fun i σ H' _ ⟨_,_,_,I,_⟩=>(D.same I).cE.lst) ?_ ?_⟩
 ·rintro i x σ H1 H2 hx ⟨v1,v2,rfl,I,hb⟩ ad;obtain⟨c,hc,rfl⟩:=Zm hx;have s2:=I.trans ad;have D2:=D.same s2;obtain⟨hi,hp⟩:=D2.ln hc;obtain⟨h1,h2⟩:=O.cE S.lines[i] (xP hi)
  have ret:∀z,Qn H z->U6 S i S.lines[i]=true->rH (yP C "line_place" (ip K C) [] E0 (ZH 0) (YD (ZH 1) jz)) { nx:=fun _ H'=>Q V.bP H',rt:=Q } [some (.ref d),some (.int (i:Int)),some (.ref c)] z:=fun z B J=>by
   have D3:=D.same B;refine⟨_,Z,d,dx,_,Z,D3.ins,ac,_,Z,d,_,i,S,dx,lp,ll,lm,ap,al,am,Z,Z,D3,?_⟩
   have e:YY S=some (UB S i):=by unfold YY;rw[Zq (p:=U6 S) (l:=S.lines) hi J (fun j hj=>hb j hj L)];rfl
   have:=k z B;rw[e]at this;exact this
  refine⟨_,Z,_,Z,d,c,S.lines[i],S,dx,lp,ll,lm,ap,al,am,Z,D2,hp,h1,h2,O,fun z aa=>⟨_,Z,Qz (fun h3=>ZG (ret z (s2.trans aa) ?_)) (fun h3=>?_)⟩⟩
  ·rw[JL,h3];rfl
  ·have B:=s2.trans aa;refine⟨_,Z,_,Z,d,_,i,S,dx,lp,ll,lm,ap,al,am,Z,Z,D.same B,O,hi,fun H4 ab=>⟨_,Z,Qz (fun h4=>ret H4 (B.trans ab) ?_) (fun h4=>?_)⟩⟩
   ·rw[JL,h4];simp
   ·refine⟨_,_,Z,B.trans ab,fun j hj hl=>?_⟩;by_cases qj:j=i
    ·subst qj;rw[JL];lia
    grind
 ·rintro σ H1 ⟨v1,v2,rfl,I,hb⟩
  have e:YY S=none:=by have:Gb (U6 S) S.lines=none:=Pl.bw.2 fun i hi=>hb i (by rw[xB,D.cE.len];exact hi) hi;unfold YY;grind
  have:=k H1 I;rw[e]at this;exact this
theorem Zt{n i:Nat}{p:Nat->Bool}(hi:i<n)(h:p i=true)(z:∀j,j<i->p j=false):(xN n).find? p=some i:=by rw[Va];refine⟨h,i,by simpa using hi,by simp,?_⟩;intro j B;simp[z j B]
theorem zd{n:Nat}{p:Nat->Bool}(h:∀i,i<n->p i=false):(xN n).find? p=none:=by grind
def YX(S:Plan):Option Nat:=((xN S.pts.length).find? fun(i:Nat)=>decide ((S.near i).length<2)).map U7
def YW(S:Plan):Option Nat:=((xN S.pts.length).find? fun(i:Nat)=>!((Vm S.nears S.pts.length 0 (Gh S.pts.length)).getD i false)).map U7
def Z5(S:Plan):Option Nat:=((xN S.pts.length).find? (VY S.nears S.pts.length)).map U7
def kvs(j:List Nat):List (Key×V):=j.map (fun(n:Nat)=>(Sum.inl (n:Int),V.bl true))
theorem qf(j:List Nat)(n:Nat):(Xs (kvs j) (Sum.inl (n:Int))).isSome=decide (n∈j):=by rw[<-YN];unfold kvs;rw[VN,Gz,UQ,Wp];grind
theorem wD{j:List Nat}{n:Nat}(h:n∉j):XS (kvs j) (Sum.inl (n:Int)) (V.bl true)=kvs (j++[n]):=by
 have z:Xs (kvs j) (Sum.inl (n:Int))=none:=by
  have:=qf j n;rw[Wl h]at this;cases e:Xs (kvs j) (Sum.inl (n:Int)) with
  |none=>rfl
  |some v=>rw[e]at this;cases this
 rw[dF _ z];simp[kvs]
theorem zu{S:Plan}(n:X3 S){v j:Nat}(h:j∈S.near v):j<S.pts.length:=by unfold Plan.near at h;obtain⟨l,hl,e⟩:=List.mem_filterMap.1 h;obtain⟨h1,h2⟩:=n l hl;lia
def JU(n:Nat)(j:Int)(st:Nat):Array Bool:=(if 0<=j then(Gh n).setIfInBounds j.toNat true else Gh n).setIfInBounds st true
inductive zj(K:xz)(vs:List V)(H:Hp)(Q:VK)(E:XK):Prop
 |mk (b:Addr) (as:List Addr) (S:Plan) (i br:Int) (st:Nat):vs=[.ref b,.int i,.int br]->i=(st:Int)->yD K H b as S->X3 S->Ji S->st<S.pts.length->(st:Int)≠br->(∀H' g fk seen,Qn H H'->H' g=some (.dK (kvs fk))->Pl.eh S.pts.length br [] fk [] seen->seen=Uu S.nears (S.pts.length+1) [st] (JU S.pts.length br st)->Q (.ref g) H')->zj K vs H Q E
abbrev ib:Stmt:=top 47
abbrev ij:Stmt:=top 48
abbrev CP:Stmt:=top 49
abbrev sS:Stmt:=top 50
theorem jM:a7 ["drawing","number","others"] ["drawing"] (a6 ib):=.mk'
theorem J6:a7 ["beside","start","barred","found","waiting","here","there"] ["beside","start","barred"] (a6 ij):=.mk'
theorem si:a7 ["drawing","found","number"] ["drawing"] (a6 CP):=.mk'
theorem jL:a7 ["drawing","beside","number","start"] ["drawing"] (a6 sS):=.mk'
theorem kM (near:Array (List Nat)):∀(m:Nat)(seen:Array Bool),Uu near m [] seen=seen
 |0,_=>rfl
 |_+1,_=>rfl
theorem sy(F:bF K "loose_point" "loose_point" ib f fd)(T:Z9 K mg C)(U:Txt K mg)(M:XQ P w K mg base C 1 "point_place" ["self","number"] gv) (N:XQ P w K mg base C 1 "neighbours" ["self"] (mU K C)) :
  QC P w K mg base bB 2 f fd ["drawing"] (XR K C (fun S=>X3 S/\Ji S) YX):=by
 obtain⟨fm,ab,hm,bm,G⟩:=M.ex;obtain⟨fn,ac,hn,bn,GN⟩:=N.ex;apply F.bL jM;rintro _ H Q E ⟨d,S,dx,lp,ll,lm,ap,al,am,rfl,D,⟨hL,hZ⟩,k⟩;refine⟨Z,fun _ _ _ _ hr=>?_⟩
 refine⟨_,Qb (QL PassesOwn.never Z (Jq Z U.enum (Qa (Ym (pv 0) T.cl hn GN hr bn .nil Zc) Qc)) (ZF (n:=2) Z (QF (b0 1 jM.nd) (QF (b0 2 jM.nd) Zl)))
   (Qd (QD (Qs ZE (Qx Qp Wg U.len Wx (Qa (pv 2) Qc)) Qi (Qo _))
    (Qd (Qj (Q4 (pv 0) T.cl hm G hr bm .nil Zc (Qa (pv 1) Qc)))) Qq)))
  (Qd (Qj QT)),?_⟩
 have O:=Xq S.w S.h lp ll lm (m := "point_place") Wb Wb Wb Wb Wb;have I:=Xq S.w S.h lp ll lm (m := "neighbours") Wb Wb Wb Wb Wb;refine⟨_,Z,d,dx,_,Z,D.ins,I,d,S,dx,lp,ll,lm,ap,al,am,Z,D,hL,hZ,fun H1 b as s1 B=>?_⟩;have Lx:(as.map V.ref).length=S.pts.length:=by rw[xB,B.len]
 refine⟨b,_,Z,B.lst,Yn (K:=K) (a:=b) (xs:=as.map V.ref) (fun i σ H'=>tL fun(v1 v2:Option V)=>ek (σ=[some (.ref d),v1,v2]) (Qn H1 H') (∀j,j<i->decide ((S.near j).length<2)=false))
  ⟨none,none,Z,Qn.refl _,fun j hj=>by lia⟩ (fun i σ H' _ ⟨_,_,_,J,_⟩=>J.seq B.lst) ?_ ?_⟩
 ·rintro i x σ H2 H3 hx ⟨v1,v2,rfl,J,hb⟩ aa;obtain⟨c,hc,rfl⟩:=Zm hx;have s3:=J.trans aa;have hi:i<S.pts.length:=by rw[<-B.len];exact (List.getElem?_eq_some_iff.1 hc).1
  have hl:=s3.seq (B.at_ i c hc);have nl:((ni (S.near i)).length:Int)=(S.near i).length:=by simp[ni]
  refine⟨_,Z,c,_,Z,.inl hl,_,_,Z,Z,_,Z,Qz (fun h1=>?_) (fun h1=>?_)⟩
  ·have h1:((ni (S.near i)).length:Int)<2:=Wj h1;rw[nl] at h1;have s4:=s1.trans s3;refine⟨_,Z,d,dx,_,Z,(D.same s4).ins,O,_,Z,_,_,i,Z,Z,?_⟩
   have e:YX S=some (U7 i):=by unfold YX;rw[Zt hi (Wk L) hb];rfl
   have:=k H3 s4;rw[e]at this;exact this
  ·have h1:¬((ni (S.near i)).length:Int)<2:=fun z=>h1 (Wk z);rw[nl]at h1;refine⟨_,_,Z,s3,fun j hj=>?_⟩;grind
 ·rintro σ H2 ⟨v1,v2,rfl,J,hb⟩;rw[Lx] at hb
  have e:YX S=none:=by unfold YX;grind
  have:=k H2 (s1.trans J);rw[e]at this;exact this
theorem sT(F:bF K "reached" "reached" ij f fd)(U:Txt K mg):QC P w K mg base bB 1 f fd ["beside","start","barred"] (zj K):=by
 apply F.bL J6;rintro _ H Q E ⟨b,as,S,i,n,st,rfl,rfl,B,hL,hZ,ak,an,k⟩;refine⟨Z,fun _ _ _ _ hr=>?_⟩;have hu:=Jc hr
 refine⟨_,Qb (bz 3 J6.nd (vr (rD (pv 1) Xe vo) Z Z We Wa))
  (Qb (bz 4 J6.nd (QU (Qa (pv 1) Qc)))
  (Qb (Yl PassesOwn.never (Qs Zn (Qx Qp Wg U.len Wx (Qa (pv 4) Qc)) Qi (Qo _))
   (Qb (bz 5 J6.nd (Bk xU PySem.F.slot_list_pop PySem.F.type_list_pop AH (pv 4)))
   (Qd (QL PassesOwn.never Z (Q3 (Qy QE (pv 0) (pv 5) (fun _ _=>rfl))) (b0 6 J6.nd)
    (Qd (QD (Y0 (Qs qa (pv 6) (pv 2) (Qo _)) (XW (Q6 (qA hu (pv 6) (pv 3))))).pt
     (Qb (zn hu (pv 3) (pv 6) Xe Z)
     (Qd (Zf (Xd xU Gw Gx ZD (pv 4) (Qa (pv 6) Qc))))) Qq))))))
  (Qd (Qj (pv 3))))),?_⟩
 intro g hg;refine⟨_,Z,Qe,[(Sum.inl (st:Int),V.bl true)],Z,(by show 1<=15;decide),?_⟩;have eg:qC [] [((Sum.inl (st:Int):Key),V.bl true)]=kvs [st]:=rfl;rw[eg];generalize ab:upd (upd H g (.dK [])) g (.dK (kvs [st]))=H1;have g1:H1 g=some (.dK (kvs [st])):=by rw[<-ab];exact Qe
 have s1:Qn H H1:=fun c o e=>by rw[<-ab,Qh (Qg e hg),Qh (Qg e hg)];exact e
 refine⟨_,Z,(by show 1<=sizeLine;decide),fun l hl=>?_⟩;have O:g≠l:=Qg g1 hl;have fl:H l=none:=s1.free hl;have s2:Qn H (upd H1 l (.lst (ni [st]))):=fun c o e=>by rw[Qh (Qg e fl)];exact s1 c o e
 refine⟨fun m σ H'=>∃(v5 v6:Option V)(ws I todo:List Nat)(seen:Array Bool),σ=[some (.ref b),some (.int (st:Int)),some (.int n),some (.ref g),some (.ref l),v5,v6]/\Qn H H'/\H' g=some (.dK (kvs I))/\H' l=some (.lst (ni ws))/\
   Pl.eh S.pts.length n ws I todo seen/\Uu S.nears m todo seen=Uu S.nears (S.pts.length+1) [st] (JU S.pts.length n st)/\todo.length+(S.pts.length-I.length)<=m/\m<=S.pts.length+1,
  ⟨S.pts.length+1,none,none,[st],[st],[st],_,Z,s2,(by rw[Qh O];exact g1),Qe,Pl.kO ak an,Z,(by simp;lia),xM _⟩,?_⟩
 rintro m σ H2 ⟨v5,v6,ws,I,todo,seen,rfl,s3,ad,aa,R,hR,hm,af⟩;refine⟨_,Z,l,_,Z,.inl (a'.of aa),_,_,Z,Z,_,Z,Qz (fun h1=>?_) (fun h1=>?_)⟩
 ·have h1:(0:Int)<((ni ws).length:Int):=Wj h1;have wl:(ni ws).length=ws.length:=by simp[ni]
  rw[wl]at h1;have tl:ws.length=todo.length:=by rw[R.ws];simp
  match todo,R,hR,hm,tl with
  |[],_,_,_,tl=>exact Wm (show ws.length=0 from tl) L
  | t::r,R,hR,hm,tl=>
   match m,hR,hm,af with
   |0,_,hm,_=>simp at hm
   | m'+1,hR,hm,af=>
    have ag:ws=r.reverse++[t]:=by rw[R.ws];simp
    have ah:t<S.pts.length:=R.sub t We
    refine⟨fun dw H'=>∃(v5 v6:Option V)(ws I todo:List Nat)(seen:Array Bool),dw=[some (.ref b),some (.int (st:Int)),some (.int n),some (.ref g),some (.ref l),v5,v6]/\Qn H H'/\H' g=some (.dK (kvs I))/\H' l=some (.lst (ni ws))/\
      Pl.eh S.pts.length n ws I todo seen/\Uu S.nears m' todo seen=Uu S.nears (S.pts.length+1) [st] (JU S.pts.length n st)/\todo.length+(S.pts.length-I.length)<=m'/\m'<=S.pts.length+1,fun dw H' h=>⟨m',by lia,h⟩,?_⟩
    have ai:(ni ws)[(ni ws).length-1]?=some (V.int (t:Int)):=by rw[ag];simp[ni]
    have ao:(ni ws).dropLast=ni r.reverse:=by rw[ag];simp[ni]
    refine⟨_,Z,.inl ⟨Z,_,a'.of aa⟩,l,_,_,Z,Z,aa,ai,?_⟩;rw[ao];obtain⟨a,ha⟩:∃a,as[t]?=some a:=⟨as[t]'(by rw[B.len];exact ah),xD _⟩;have s4:Qn H (upd H2 l (.lst (ni r.reverse))):=fun c o e=>by rw[Qh (Qg e fl)];exact s3 c o e
    have B4:=B.same s4;have R0:Pl.eh S.pts.length n r.reverse I r seen:=⟨R.size,Z,R.nd,R.lt,R.nb,fun j hj=>R.sub j (by simp[hj]),R.iff_⟩
    refine⟨_,Z,_,Z,b,_,_,_,Z,Z,B4.lst,Qm (j:=t) (v:=V.ref a) (by rw[xJ,ha];rfl),a,Z,⟨_,B4.at_ t a ha⟩,Zs (K:=K) (a:=a) (xs:=ni (S.near t)) (fun i σ H'=>∃v6:Option V,Dd (σ=[some (.ref b),some (.int (st:Int)),some (.int n),some (.ref g),some (.ref l),some (.int (t:Int)),v6]) (Qn H H') (H' g=some (.dK (kvs (((S.near t).take i).foldl (Pl.cp n) (r.reverse,I)).2))) (H' l=some (.lst (ni (((S.near t).take i).foldl (Pl.cp n) (r.reverse,I)).1))))
     ⟨_,Z,s4,(by rw[Qh O];exact ad),Qe⟩ (fun i σ H' _ ⟨_,_,s5,_,_⟩=>(B.same s5).at_ t a ha) ?_ ?_⟩
    ·rintro i x σ H3 hx ⟨aq,rfl,s5,G,J⟩
     have hi:i<(S.near t).length:=by have:=(List.getElem?_eq_some_iff.1 hx).1;simpa [ni] using this
     obtain⟨rfl⟩:x=V.int ((S.near t)[i]:Int):=by unfold ni at hx;rw[xJ,xD hi]at hx;exact(Wo hx).symm
     have et:(S.near t).take (i+1)=(S.near t).take i++[(S.near t)[i]]:=by rw[Uf hi]
     have ay:=zu hL (xP hi);obtain⟨Ri,ei⟩:=Pl.dI ((S.near t).take i) R0 (fun j hj=>zu hL (Uo hj));have au:=Wn Qaq Ri.ws;rw[List.length_reverse]at au;generalize av:((S.near t).take i).foldl (Pl.cp n) (r.reverse,I)=ac at *
     have step:((S.near t).take (i+1)).foldl (Pl.cp n) (r.reverse,I)=Pl.cp n ac (S.near t)[i]:=by rw[et,List.foldl_append,av];rfl
     have aw:ac.2.length<=S.pts.length:=by
      have:=Pl.bN (l:=ac.2) (m:=xN S.pts.length) Ri.nd (fun x hx=>List.mem_range.2 (Ri.lt x hx))
      rwa [U4]at this
     have ax:ac.1.length<=200000:=by have z:=hZ.1;simp at hm;lia
     refine⟨_,Z,_,Z,Z,_,Z,Qz (fun h2=>?_) (fun h2=>?_)⟩
     ·have h2:¬ ((S.near t)[i]:Int)=n:=by simpa using h2
      refine⟨_,Z,_,Z,g,_,Z,Z2.k (k:=Sum.inl ((S.near t)[i]:Int)) G,_,Z,Qz (fun M=>?_) (fun M=>?_)⟩
      ·rw[qf] at M;have M:(S.near t)[i]∉ac.2:=by simpa using M
       refine⟨_,Z,_,Z,g,_,Z,yL.k (k:=Sum.inl ((S.near t)[i]:Int)) G (by simp[kvs];exact xV (xK aw hZ.1) Wa),?_⟩;rw[wD M];have aj:(upd H3 g (.dK (kvs (ac.2++[(S.near t)[i]])))) l=some (.lst (ni ac.1)):=by rw[Qh (fun e=>O e.symm)];exact J
       refine⟨_,Z,.inl ⟨Z,_,a'.of aj⟩,_,Z,l,_,_,Z,Z,aj,(by simp[ni];exact xV ax Wa),?_⟩;refine⟨_,Z,fun c o e=>?_,?_,?_⟩
       ·rw[Qh (Qg e fl),Qh (Qg e hg)];exact s5 c o e
       ·rw[Qh O,Qe,step];unfold Pl.cp;rw[Wi ⟨h2,M⟩]
       ·rw[Qe,step];unfold Pl.cp;rw[Wi ⟨h2,M⟩];simp[ni]
      ·rw[qf] at M;have M:(S.near t)[i]∈ac.2:=by simpa using M
       refine⟨_,Z,s5,?_,?_⟩
       ·rw[step];unfold Pl.cp;rw[Wh (fun z=>z.2 M)];exact G
       ·rw[step];unfold Pl.cp;rw[Wh (fun z=>z.2 M)];exact J
     ·have h2:((S.near t)[i]:Int)=n:=by simpa using h2
      refine⟨_,Z,s5,?_,?_⟩
      ·rw[step];unfold Pl.cp;rw[Wh (fun z=>z.1 h2)];exact G
      ·rw[step];unfold Pl.cp;rw[Wh (fun z=>z.1 h2)];exact J
    ·rintro σ H3 ⟨aq,rfl,s5,G,J⟩;have e:(ni (S.near t)).length=(S.near t).length:=by simp[ni]
     rw[e,Gy]at G J;obtain⟨R1,e1⟩:=Pl.dI (S.near t) R0 (fun j hj=>zu hL hj);refine⟨_,_,_,_,_,_,Z,s5,G,J,R1,?_,?_⟩
     ·rw[<-hR,Pl.cZ,Pl.dv,Wi ah]
     ·refine⟨?_,by lia⟩;rw[e1];simp at hm;lia
 ·have h1:¬ (0:Int)<((ni ws).length:Int):=fun z=>h1 (Wk z);have wl:(ni ws).length=ws.length:=by simp[ni]
  rw[wl]at h1;have w0:ws=[]:=List.eq_nil_of_length_eq_zero L
  have t0:todo=[]:=by have:=R.ws;rw[w0]at this;exact List.reverse_eq_nil_iff.1 this.symm
  subst w0 t0;rw[kM]at hR;refine⟨_,Z,?_⟩;exact k H2 g I seen s3 ad R hR
def FZ(S:Plan):Prop:=X3 S/\Ji S/\2<=S.pts.length
theorem tq(n:Nat):Vm S n 0 (Gh n)=Uu S (n+1) [0] (JU n (-1) 0):=by unfold Vm JU;lia
theorem fN (near:Array (List Nat)) (n i:Nat):VY near n i=(Uu near (n+1) [if i=0 then 1 else 0] (JU n (i:Int) (if i=0 then 1 else 0))).contains false:=by unfold VY Vm JU;rw[Wi (c:=0<=(i:Int)) L,Ub]
theorem CQ(F:bF K "unreached_point" "unreached_point" CP f fd)(T:Z9 K mg C)(U:Txt K mg) (gn:GI mg "NO_POINT" (-1)) (M:XQ P w K mg base C 1 "point_place" ["self","number"] gv) (N:XQ P w K mg base C 1 "neighbours" ["self"] (mU K C))
  (R:bq P w K mg base 1 "reached" ["beside","start","barred"] (zj K)):QC P w K mg base bB 2 f fd ["drawing"] (XR K C FZ YW):=by
 obtain⟨fm,ac,hm,bm,G⟩:=M.ex;obtain⟨fn,ad,hn,bn,GN⟩:=N.ex;apply F.bL si;rintro _ H Q E ⟨d,S,dx,lp,ll,lm,ap,al,am,rfl,D,⟨hL,hZ,h2⟩,k⟩;refine⟨Z,fun _ _ _ _ hr=>?_⟩;have hu:=Jc hr
 refine⟨_,Qb (bz 1 si.nd (Qr R hr (Qa (Ym (pv 0) T.cl hn GN hr bn .nil Zc) (Qa Qi (Qa (QP gn) Qc)))))
  (Qb (QL PassesOwn.never Z (Jp Z U.range (Qa (Qx Qp Wg U.len Wx (Qa (Qw (pv 0) Z) Qc)) Qc)) (b0 2 si.nd)
   (Qd (QD (Q6 (qA hu (pv 2) (pv 1)))
    (Qd (Qj (Q4 (pv 0) T.cl hm G hr bm .nil Zc (Qa (pv 2) Qc)))) Qq)))
  (Qd (Qj QT))),?_⟩
 have aa:=Xq S.w S.h lp ll lm (m := "point_place") Wb Wb Wb Wb Wb;have J:=Xq S.w S.h lp ll lm (m := "neighbours") Wb Wb Wb Wb Wb;refine⟨_,Z,d,dx,_,Z,D.ins,J,d,S,dx,lp,ll,lm,ap,al,am,Z,D,hL,hZ,fun H1 b as s1 B=>?_⟩;refine⟨b,as,S,_,_,0,Z,Z,B,hL,hZ,by lia,by decide,fun H2 g fk seen ab hg SR z=>?_⟩;have s2:=s1.trans ab;have D2:=D.same s2;have I:((ap.map V.ref).length:Int)=S.pts.length:=by rw[xB,D.pts.len,xB]
 rw[<-tq]at z;have hz:=hZ.1
 refine⟨_,Z,d,C,dx,_,_,Z,D2.ins,T.cl,T.nP,XJ _ _ _ _ _,lp,_,Z,.inl D2.pts.lst,_,Z,by rw[I];lia,by rw[I];lia,Ju (lo:=0) (n:=(((ap.map V.ref).length:Nat):Int).toNat) (fun i σ H'=>∃v2:Option V,ek (σ=[some (.ref d),some (.ref g),v2]) (Qn H2 H') (∀j,j<i->(!(seen.getD j false))=false))
  ⟨none,Z,Qn.refl _,fun j hj=>by lia⟩ ?_ ?_⟩
 ·rintro i σ H3 hi ⟨v2,rfl,O,hb⟩
  have hi:i<S.pts.length:=by lia
  have ei:(0:Int)+(i:Int)=(i:Int):=by lia
  rw[ei];have en:=Pl.rF SR i hi L;refine⟨_,Z,_,Z,g,_,Z,Z2.k (k:=Sum.inl (i:Int)) (O _ _ hg),_,Z,Qz (fun h1=>?_) (fun h1=>?_)⟩
  ·rw[qf] at h1;have h1:i∉fk:=by simpa using h1
   have s4:=s2.trans O;refine⟨_,Z,d,dx,_,Z,(D.same s4).ins,aa,_,Z,_,_,i,Z,Z,?_⟩
   have hf:seen.getD i false=false:=by lia
   have e:YW S=some (U7 i):=by unfold YW;rw[<-z,Zt hi (by rw[hf];rfl) hb];rfl
   have:=k H3 s4;rw[e]at this;exact this
  ·rw[qf] at h1;have h1:i∈fk:=by simpa using h1
   refine⟨_,Z,O,fun j hj=>?_⟩;grind
 ·rintro σ H3 ⟨v2,rfl,O,hb⟩;have:((ap.map V.ref).length:Int).toNat=S.pts.length:=by rw[I];simp
  rw[this]at hb
  have e:YW S=none:=by unfold YW;grind
  have:=k H3 (s2.trans O);rw[e]at this;exact this
theorem v9(F:bF K "parting_point" "parting_point" sS f fd)(T:Z9 K mg C)(U:Txt K mg)(M:XQ P w K mg base C 1 "point_place" ["self","number"] gv) (N:XQ P w K mg base C 1 "neighbours" ["self"] (mU K C))
  (R:bq P w K mg base 1 "reached" ["beside","start","barred"] (zj K)):QC P w K mg base bB 2 f fd ["drawing"] (XR K C FZ Z5):=by
 obtain⟨fm,af,hm,bm,G⟩:=M.ex;obtain⟨fn,ag,hn,bn,GN⟩:=N.ex;apply F.bL jL;rintro _ H Q E ⟨d,S,dx,lp,ll,lm,ap,al,am,rfl,D,⟨hL,hZ,h2⟩,k⟩;refine⟨Z,fun _ _ _ _ hr=>?_⟩
 refine⟨_,Qb (bz 1 jL.nd (Ym (pv 0) T.cl hn GN hr bn .nil Zc))
  (Qb (QL PassesOwn.never Z (Jp Z U.range (Qa (Qx Qp Wg U.len Wx (Qa (Qw (pv 0) Z) Qc)) Qc)) (b0 2 jL.nd)
   (Qb (bz 3 jL.nd (XG (Qs XI (pv 2) Qi (Qo _)) Qi Qi))
   (Qd (QD (Qs ZE (Qx nJ Wg U.len Wx (Qa (Qr R hr (Qa (pv 1) (Qa (pv 3) (Qa (pv 2) Qc)))) Qc)) (QA Xi (Qx Qp Wg U.len Wx (Qa (Qw (pv 0) Z) Qc)) Qi) (Qo _))
    (Qd (Qj (Q4 (pv 0) T.cl hm G hr bm .nil Zc (Qa (pv 2) Qc)))) Qq))))
  (Qd (Qj QT))),?_⟩
 have ac:=Xq S.w S.h lp ll lm (m := "point_place") Wb Wb Wb Wb Wb;have ad:=Xq S.w S.h lp ll lm (m := "neighbours") Wb Wb Wb Wb Wb;refine⟨_,Z,d,dx,_,Z,D.ins,ad,d,S,dx,lp,ll,lm,ap,al,am,Z,D,hL,hZ,fun H1 b as s1 B=>?_⟩;have D1:=D.same s1;have I:((ap.map V.ref).length:Int)=S.pts.length:=by rw[xB,D.pts.len,xB]
 have hz:=hZ.1
 refine⟨_,Z,d,C,dx,_,_,Z,D1.ins,T.cl,T.nP,XJ _ _ _ _ _,lp,_,Z,.inl D1.pts.lst,_,Z,by rw[I];lia,by rw[I];lia,Ju (lo:=0) (n:=(((ap.map V.ref).length:Nat):Int).toNat) (fun i σ H'=>tL fun(v2 v3:Option V)=>ek (σ=[some (.ref d),some (.ref b),v2,v3]) (Qn H1 H') (∀j,j<i->VY S.nears S.pts.length j=false))
  ⟨none,none,Z,Qn.refl _,fun j hj=>by lia⟩ ?_ ?_⟩
 ·rintro i σ H2 hi ⟨v2,v3,rfl,s2,hb⟩
  have hi:i<S.pts.length:=by lia
  have ei:(0:Int)+(i:Int)=(i:Int):=by lia
  rw[ei];refine⟨_,Z,Z,_,Z,Qz (fun h0=>?_) (fun h0=>?_)⟩
  ·have h0:(i:Int)=0:=by simpa using h0
   have aa:i=0:=by lia
   refine⟨_,Z,_,Z,_,Z,b,as,S,_,_,1,Z,Z,B.same s2,hL,hZ,by lia,by lia,fun H3 g O seen ab hg SR J=>?_⟩;have s3:=s2.trans ab;have D3:=D1.same s3;have cu:=Pl.eL hi SR
   have ec:VY S.nears S.pts.length i=seen.contains false:=by rw[fN,J,Wi aa]
   refine⟨g,_,Z,hg,_,Z,d,C,dx,_,_,Z,D3.ins,T.cl,T.nP,XJ _ _ _ _ _,lp,_,Z,.inl D3.pts.lst,_,_,Z,Z,_,_,Z,Z,_,Z,Qz (fun h1=>?_) (fun h1=>?_)⟩
   ·have h1:((kvs O).length:Int)<((ap.map V.ref).length:Int)-1:=Wj h1;rw[I,show (kvs O).length=O.length by simp[kvs]] at h1;have s4:=s1.trans s3;refine⟨_,Z,d,dx,_,Z,(D.same s4).ins,ac,_,Z,_,_,i,Z,Z,?_⟩
    have e:Z5 S=some (U7 i):=by unfold Z5;rw[Zt hi (by rw[ec];exact cu.2 L) hb];rfl
    have:=k H3 s4;rw[e]at this;exact this
   ·have h1:¬((kvs O).length:Int)<((ap.map V.ref).length:Int)-1:=fun z=>h1 (Wk z);rw[I,show(kvs O).length=O.length by simp[kvs]]at h1;refine⟨_,_,Z,s3,fun j hj=>?_⟩;grind
  ·have h0:¬ (i:Int)=0:=by simpa using h0
   have aa:¬i=0:=by lia
   refine⟨_,Z,_,Z,_,Z,b,as,S,_,_,0,Z,Z,B.same s2,hL,hZ,by lia,by lia,fun H3 g O seen ab hg SR J=>?_⟩;have s3:=s2.trans ab;have D3:=D1.same s3;have cu:=Pl.eL hi SR
   have ec:VY S.nears S.pts.length i=seen.contains false:=by rw[fN,J,Wh aa]
   refine⟨g,_,Z,hg,_,Z,d,C,dx,_,_,Z,D3.ins,T.cl,T.nP,XJ _ _ _ _ _,lp,_,Z,.inl D3.pts.lst,_,_,Z,Z,_,_,Z,Z,_,Z,Qz (fun h1=>?_) (fun h1=>?_)⟩
   ·have h1:((kvs O).length:Int)<((ap.map V.ref).length:Int)-1:=Wj h1;rw[I,show (kvs O).length=O.length by simp[kvs]] at h1;have s4:=s1.trans s3;refine⟨_,Z,d,dx,_,Z,(D.same s4).ins,ac,_,Z,_,_,i,Z,Z,?_⟩
    have e:Z5 S=some (U7 i):=by unfold Z5;rw[Zt hi (by rw[ec];exact cu.2 L) hb];rfl
    have:=k H3 s4;rw[e]at this;exact this
   ·have h1:¬((kvs O).length:Int)<((ap.map V.ref).length:Int)-1:=fun z=>h1 (Wk z);rw[I,show(kvs O).length=O.length by simp[kvs]]at h1;refine⟨_,_,Z,s3,fun j hj=>?_⟩;grind
 ·rintro σ H2 ⟨v2,v3,rfl,s2,hb⟩;have:((ap.map V.ref).length:Int).toNat=S.pts.length:=by rw[I];simp
  rw[this]at hb
  have e:Z5 S=none:=by unfold Z5;grind
  have:=k H2 (s1.trans s2);rw[e]at this;exact this
open Gla (Pt Plan Mark)
def C3(S:Plan)(z:Pt):Bool:=(decide (0<z.x)&&decide (z.x<S.w))&&(decide (0<z.y)&&decide (z.y<S.h))
theorem yt(S:Plan)(z:Pt):U0 S z=(C3 S z&&!Gla.onLines S z):=by unfold U0 C3;lia
def X4(S:Plan):Option Nat:=(Ul (Gla.markOk S) Gla.markBelow S.marks).map (U8 S)
def Yp(S:Plan)(i:Nat)(m:Mark):Bool:=!(U0 S m.at_)||(decide (0<i)&&(match S.marks[i-1]? with
 |some y=>!(y.at_.below m.at_)
 |none=>false))
theorem yY(S:Plan):X4 S=(Gb (Yp S) S.marks).map (U8 S):=by unfold X4 Ul;congr 2;funext i x;unfold Yp;cases S.marks[i-1]?<;>rfl
inductive CL(K:xz)(C:Addr)(vs:List V)(H:Hp)(Q:VK)(E:XK):Prop
 |mk (d a:Addr) (z:Pt) (S:Plan) (dx lp ll lm:Addr) (ap al am:List Addr):vs=[.ref d,.ref a]->Dw K C H d S dx lp ll lm ap al am->Xg K H a z->Q (.bl (C3 S z)) H->CL K C vs H Q E
inductive rY(K:xz)(C:Addr)(vs:List V)(H:Hp)(Q:VK)(E:XK):Prop
 |mk (d a:Addr) (z:Pt) (S:Plan) (dx lp ll lm:Addr) (ap al am:List Addr):vs=[.ref d,.ref a]->Dw K C H d S dx lp ll lm ap al am->Xg K H a z->Sm z->nN S->(∀H',Qn H H'->Q (.bl (VI S z)) H')->rY K C vs H Q E
abbrev HY:Stmt:=top 33
abbrev Bn:Stmt:=top 34
abbrev Kk:Stmt:=top 35
theorem Hz:a7 ["drawing","mark"] ["drawing","mark"] (a6 HY):=.mk'
theorem wU:a7 ["drawing","mark","line"] ["drawing","mark"] (a6 Bn):=.mk'
theorem B5:a7 ["drawing","number","mark"] ["drawing"] (a6 Kk):=.mk'
theorem FE(F:bF K "is_within_frame" "is_within_frame" HY f fd)(T:Z9 K mg C):QC P w K mg base bB 1 f fd ["drawing","mark"] (CL K C):=by
 apply F.bL Hz;rintro _ H Q E ⟨d,a,z,S,dx,lp,ll,lm,ap,al,am,rfl,D,hz,k⟩;refine⟨Z,fun _ _ _ _ _=>?_⟩
 refine⟨_,Qb (QD (Xo (Qs jb (QX 1) Qi (Qo _)) (ZM (Qs fx (QX 1) (Qw (pv 0) Z) (Qo _)))).pt (Qd (Qj Xe)) Qq)
  (Qd (Qj (Y4 (QM Zn (Q5 1) Qi (Qo _)) (Y3 (QM ZE (Q5 1) (Qw (pv 0) Z) (Qo _)))))),?_⟩
 unfold C3 at k;refine⟨a,_,_,Z,hz,_,_,Z,Z,_,Z,Qz (fun h1=>ZG ?_) (fun h1=>?_)⟩
 ·have h1:(z.x:Int)<=0:=Wj h1;rw[Wl (show ¬0<z.x by lia),VU,VU]at k;exact k
 ·have h1:¬ (z.x:Int)<=0:=fun q=>h1 (Wk q);rw[Wk (show 0<z.x by lia),UA] at k;refine⟨a,_,_,Z,hz,_,Z,d,C,dx,_,_,Z,D.ins,T.cl,T.nW,p6 _ _ _ _ _,_,_,Z,Z,_,Z,Qz (fun h2=>?_) (fun h2=>?_)⟩
  ·have h2:(S.w:Int)<=z.x:=Wj h2;rw[Wl (show ¬z.x<S.w by lia),VU]at k;exact k
  ·have h2:¬ (S.w:Int)<=z.x:=fun q=>h2 (Wk q);rw[Wk (show z.x<S.w by lia),UA] at k;refine⟨a,_,_,Z,hz,_,_,Z,Z,_,Z,Qz (fun j=>?_) (fun j=>?_)⟩
   ·have j:(0:Int)<z.y:=Wj j;rw[Wk (show 0<z.y by lia),UA]at k;refine⟨a,_,_,Z,hz,_,Z,d,C,dx,_,_,Z,D.ins,T.cl,T.nH,t8 _ _ _ _ _,_,_,Z,Z,?_⟩;rw[show decide (z.y<S.h)=decide ((z.y:Int)<(S.h:Int)) by rw[decide_eq_decide];lia]at k;exact k
   grind
theorem BH(F:bF K "is_on_some_line" "is_on_some_line" Bn f fd)(T:Z9 K mg C) (B:bq P w K mg base 2 "is_on" ["point","start","end"] (vD K)):QC P w K mg base bB 3 f fd ["drawing","mark"] (rY K C):=by
 apply F.bL wU;rintro _ H Q E ⟨d,a,z,S,dx,lp,ll,lm,ap,al,am,rfl,D,hz,sz,O,k⟩;refine⟨Z,fun _ _ _ _ hr=>?_⟩
 refine⟨_,Qb (QL PassesOwn.never Z (Q3 (Qw (pv 0) Z)) (b0 2 wU.nd)
   (Qd (QD (Zd (Qr B hr (Qa (pv 1) (Qa (Qy QE (Qw (pv 0) Z) (QX 2) (fun _ _=>rfl)) (Qa (Qy QE (Qw (pv 0) Z) (Q5 2) (fun _ _=>rfl)) Qc))))) (Qd (Qj Xe)) Qq)))
  (Qd (Qj Xe)),?_⟩
 refine⟨_,Z,d,C,dx,_,_,Z,D.ins,T.cl,T.nL,yo _ _ _ _ _,ll,Z,⟨_,D.cE.lst⟩,Zs (K:=K) (a:=ll) (xs:=al.map V.ref) (fun i σ H'=>∃G:Option V,σ=[some (.ref d),some (.ref a),G]/\H'=H/\∀m,m<i->(hm:m<S.lines.length)->Up (S.pt S.lines[m].1) (S.pt S.lines[m].2) z=false)
  ⟨none,Z,Z,fun j I=>by lia⟩ (fun i σ H' _ ⟨_,_,e,_⟩=>by rw[e];exact D.cE.lst) ?_ ?_⟩
 ·rintro i x σ H1 hx ⟨G,rfl,rfl,n⟩;obtain⟨c,hc,rfl⟩:=Zm hx;obtain⟨hi,hp⟩:=D.ln hc;obtain⟨g1,J⟩:=O.cE S.lines[i] (xP hi);obtain⟨e1,M,U⟩:=D.eP (i:=S.lines[i].1) L;obtain⟨e2,aa,ab⟩:=D.eP (i:=S.lines[i].2) J
  refine⟨_,Z,_,Z,d,C,dx,_,_,Z,D.ins,T.cl,T.nP,XJ _ _ _ _ _,c,_,_,Z,hp,lp,_,_,_,Z,Z,D.pts.lst,Qm (j:=S.lines[i].1) (v:=V.ref e1) (by rw[xJ,M];rfl),
   _,Z,d,C,dx,_,_,Z,D.ins,T.cl,T.nP,XJ _ _ _ _ _,c,_,_,Z,hp,lp,_,_,_,Z,Z,D.pts.lst,Qm (j:=S.lines[i].2) (v:=V.ref e2) (by rw[xJ,aa];rfl),
   a,e1,e2,z,S.pts[S.lines[i].1]'(by lia),S.pts[S.lines[i].2],Z,hz,U,ab,O.sm _ (xP _),O.sm _ (xP _),sz,_,Z,Qz (fun h3=>?_) (fun h3=>?_)⟩
  ·have e:VI S z=true:=by unfold VI;rw[UQ];refine⟨S.lines[i],xP _,?_⟩;rw[Pl.bE (i:=S.lines[i].1) L,Pl.bE J];exact h3
   have:=k _ (Qn.refl _);rw[e]at this;exact this
  ·refine⟨_,Z,Z,fun m hm ac=>?_⟩;by_cases q:m=i
   ·subst q;rw[Pl.bE (i:=S.lines[m].1) L,Pl.bE J];simpa using h3
   ·exact n m L ac
 ·rintro σ H1 ⟨G,rfl,rfl,n⟩;rw[xB,D.cE.len] at n
  have e:VI S z=false:=by unfold VI;rw[U3];intro l hl;obtain⟨j,I,rfl⟩:=List.mem_iff_getElem.1 hl;simpa using n j I I
  have:=k _ (Qn.refl _);rw[e]at this;exact this
theorem Fd(F:bF K "wrong_mark" "wrong_mark" Kk f fd)(T:Z9 K mg C)(U:Txt K mg) (M:XQ P w K mg base C 3 "mark_place" ["self","number"] (nO K C)) (B1:bq P w K mg base 1 "is_within_frame" ["drawing","mark"] (CL K C)) (B2:bq P w K mg base 3 "is_on_some_line" ["drawing","mark"] (rY K C))
  (B3:bq P w K mg base 1 "comes_behind" ["later","earlier"] (J4 K)):QC P w K mg base bB 4 f fd ["drawing"] (XR K C nN X4):=by
 obtain⟨fm,aj,hm,bm,G⟩:=M.ex;apply F.bL B5;rintro _ H Q E ⟨d,S,dx,lp,ll,lm,ap,al,am,rfl,D,O,k⟩;refine⟨Z,fun _ _ _ _ hr=>?_⟩
 refine⟨_,Qb (QL PassesOwn.never Z (Jq Z U.enum (Qa (Qw (pv 0) Z) Qc)) (ZF (n:=2) Z (QF (b0 1 B5.nd) (QF (b0 2 B5.nd) Zl)))
   (Qb (QD (Xo (X5 (Zd (Qr B1 (hr.mono Wa) (Qa (pv 0) (Qa (pv 2) Qc))))) (ZM (Zd (Qr B2 hr (Qa (pv 0) (Qa (pv 2) Qc)))))).pt
    (Qd (Qj (Q4 (pv 0) T.cl hm G hr bm .nil Zc (Qa (pv 1) Qc)))) Qq)
   (Qd (QD (Y0 (Qs Zn (pv 1) Qi (Qo _)) (XW (X5 (Zd (Qr B3 (hr.mono Wa) (Qa (pv 2) (Qa (Qy QE (Qw (pv 0) Z) (QA Xi (pv 1) Qi) (fun _ _=>rfl)) Qc))))))).pt
    (Qd (Qj (Q4 (pv 0) T.cl hm G hr bm .nil Zc (Qa (pv 1) Qc)))) Qq))))
  (Qd (Qj QT)),?_⟩
 have ac:=Xq S.w S.h lp ll lm (m := "mark_place") Wb Wb Wb Wb Wb
 refine⟨_,Z,d,C,dx,_,_,Z,D.ins,T.cl,T.nM,rp _ _ _ _ _,lm,_,Z,D.mrk.lst,Yn (K:=K) (a:=lm) (xs:=am.map V.ref) (fun i σ H'=>∃v1 v2:Option V,σ=[some (.ref d),v1,v2]/\Qn H H'/\∀j (hj:j<i) (hl:j<S.marks.length),Yp S j S.marks[j]=false)
  ⟨none,none,Z,Qn.refl H,fun j hj=>by lia⟩ (fun i σ H' _ ⟨_,_,_,s1,_⟩=>(D.same s1).mrk.lst) ?_ ?_⟩
 ·rintro i x σ H1 H2 hx ⟨v1,v2,rfl,s1,hb⟩ ad;obtain⟨c,hc,rfl⟩:=Zm hx;have s2:=s1.trans ad;have D2:=D.same s2;obtain⟨hi,hp⟩:=D2.Kd hc
  have ret:∀B,Qn H B->Yp S i S.marks[i]=true->rH (yP C "mark_place" (nO K C) [] E0 (ZH 0) (YD (ZH 1) jz)) { nx:=fun _ H'=>Q V.bP H',rt:=Q } [some (.ref d),some (.int (i:Int)),some (.ref c)] B:=fun B I aa=>by
   have J:=D.same I;refine⟨_,Z,d,dx,_,Z,J.ins,ac,_,Z,d,_,i,S,dx,lp,ll,lm,ap,al,am,Z,Z,J,?_⟩
   have e:X4 S=some (U8 S i):=by rw[yY,Zq (p:=Yp S) (l:=S.marks) hi aa (fun j hj=>hb j hj L)];rfl
   have:=k B I;rw[e]at this;exact this
  have good:∀B,Qn H B->Yp S i S.marks[i]=false->∃v1 v2:Option V,[some (V.ref d),some (V.int (i:Int)),some (V.ref c)]=[some (.ref d),v1,v2]/\Qn H B/\∀j (hj:j<i+1) (hl:j<S.marks.length),Yp S j S.marks[j]=false:=fun B I hg=>by
   grind
  refine⟨_,Z,_,Z,d,c,S.marks[i].at_,S,dx,lp,ll,lm,ap,al,am,Z,D2,hp,_,Z,Qz (fun h1=>ZG (ret H2 s2 ?_)) (fun h1=>?_)⟩
  ·have h1:C3 S S.marks[i].at_=false:=by simpa using h1
   unfold Yp;rw[yt,h1];rfl
  ·have h1:C3 S S.marks[i].at_=true:=by simpa using h1
   refine⟨_,Z,_,Z,d,c,S.marks[i].at_,S,dx,lp,ll,lm,ap,al,am,Z,D2,hp,O.smm _ (xP _),O,fun B ab=>⟨_,Z,?_⟩⟩;have I:=s2.trans ab;have J:=D.same I;have af:Xg K B c S.marks[i].at_:=Qn.tup ab hp;refine Qz (fun h2=>ret B I ?_) (fun h2=>?_)
   ·unfold Yp;rw[yt,h1,h2];rfl
   ·have h2:VI S S.marks[i].at_=false:=by simpa using h2
    have ak:U0 S S.marks[i].at_=true:=by rw[yt,h1,h2];rfl
    refine⟨_,Z,_,_,Z,Z,_,Z,Qz (fun h3=>?_) (fun h3=>?_)⟩
    ·have h3:(0:Int)<i:=Wj h3;obtain⟨c',ag,ah⟩:=J.Hl (i:=i-1) L;have ai:S.marks[i-1]?=some (S.marks[i-1]'(by lia)):=xD _;refine⟨_,Z,_,Z,d,C,dx,_,_,Z,J.ins,T.cl,T.nM,rp _ _ _ _ _,_,Z,_,_,Z,Z,lm,_,_,_,Z,Z,J.mrk.lst,at_of (j:=i-1) (v:=V.ref c') L (by rw[xJ,ag];rfl),c,c',_,_,Z,af,ah,_,Z,Qz (fun h4=>ret B I ?_) (fun h4=>good B I ?_)⟩
     ·unfold Yp;lia
     ·unfold Yp;lia
    ·have h3:¬(0:Int)<i:=fun z=>h3 (Wk z);refine good B I ?_;unfold Yp;lia
 ·rintro σ H1 ⟨v1,v2,rfl,s1,hb⟩
  have e:X4 S=none:=by have:Gb (Yp S) S.marks=none:=Pl.bw.2 fun i hi=>hb i (by rw[xB,D.mrk.len,xB];exact hi) hi;rw[yY,this];rfl
  have:=k H1 s1;rw[e]at this;exact this
def Pr(H:Hp)(a:Addr)(s:Nat×Nat):Prop:=H a=some (.tup [.int (s.1:Int),.int (s.2:Int)])
theorem Pr.sq{H:Hp}{s:Nat×Nat}(h:Pr H a s):bV K H a [.int (s.1:Int),.int (s.2:Int)]:=bV.of h
structure yB(K:xz)(H:Hp)(l:Addr)(ap:List Addr)(S:Plan):Prop where
 prs:qY K H l ap (S.pts.map xy)
theorem yB.same{H H':Hp}{l:Addr}{ap:List Addr}{S:Plan}(h:yB K H l ap S)(e:Qn H H'):yB K H' l ap S:=⟨h.prs.same e⟩
theorem yB.at'{H:Hp}{l:Addr}{ap:List Addr}{S:Plan}(h:yB K H l ap S){i:Nat}(hi:i<S.pts.length):∃a,(ap.map V.ref)[i]?=some (V.ref a)/\Xg K H a (S.pt i):=by have hl:=h.prs.len;rw[xB]at hl;obtain⟨a,j⟩:∃a,ap[i]?=some a:=⟨ap[i]'(by lia),xD _⟩;refine⟨a,by rw[xJ,j];rfl,?_⟩;rw[Pl.bE hi];exact bV.of (h.prs.at_ i a (xy S.pts[i]) j (by rw[xJ,xD hi];rfl))
theorem ZQ{S:Plan}(h:∀p∈S.pts,Sm p)(i:Nat):Sm (S.pt i):=by
 by_cases hi:i<S.pts.length
 ·rw[Pl.bE hi];exact h _ (xP hi)
 ·unfold Plan.pt;rw[GA,Ud L];exact⟨by decide,by decide⟩
inductive u6(K:xz)(vs:List V)(H:Hp)(Q:VK)(E:XK):Prop
 |mk (l a c:Addr) (ap:List Addr) (S:Plan) (s:Nat×Nat) (z:Pt):vs=[.ref l,.ref a,.ref c]->yB K H l ap S->Pr H a s->Xg K H c z->Sm z->((∀p∈S.pts,Sm p))->s.1<S.pts.length->s.2<S.pts.length->Q (.bl (Pl.bb S s z)) H->u6 K vs H Q E
inductive uN(K:xz)(vs:List V)(H:Hp)(Q:VK)(E:XK):Prop
 |mk (l a c:Addr) (ap:List Addr) (S:Plan) (s o:Nat×Nat):vs=[.ref l,.ref a,.ref c]->yB K H l ap S->Pr H a s->Pr H c o->((∀p∈S.pts,Sm p))->s.1<S.pts.length->s.2<S.pts.length->o.1<S.pts.length->o.2<S.pts.length->Q (.bl (Pl.bR S s o)) H->uN K vs H Q E
def X9(H:Hp)(v:V) (b:Option (Nat×Nat)):Prop:=match b with
 |none=>v=.bP
 |some s=>∃a,v=.ref a/\Pr H a s
inductive AN(K:xz)(C:Addr)(vs:List V)(H:Hp)(Q:VK)(E:XK):Prop
 |mk (d a:Addr) (z:Pt) (S:Plan) (dx lp ll lm:Addr) (ap al am:List Addr):vs=[.ref d,.ref a]->Dw K C H d S dx lp ll lm ap al am->Xg K H a z->Sm z->nN S->(∀H' v,Qn H H'->X9 H' v (S.lines.foldl (Pl.ba S z) none)->Q v H')->AN K C vs H Q E
abbrev J':Stmt:=top 36
abbrev HE:Stmt:=top 37
abbrev Ik:Stmt:=top 38
abbrev ur:Stmt:=top 39
theorem Bf:a7 ["points","step","mark","left","right"] ["points","step","mark"] (a6 J'):=.mk'
theorem pX:a7 ["points","step","other","left","right","other_left","other_right"] ["points","step","other"] (a6 HE):=.mk'
theorem ow:a7 ["drawing","mark","points","best","line","step"] ["drawing","mark"] (a6 Ik):=.mk'
theorem AW:a7 ["number"] ["number"] (a6 ur):=.mk'
inductive ki(vs:List V)(H:Hp)(Q:VK)(E:XK):Prop
 |mk (n:Int):vs=[.int n]->Q (.int (Pl.ck n)) H->ki vs H Q E
theorem uW(F:bF K "side" "side" ur f fd):QC P w K mg base bB 1 f fd ["number"] ki:=by
 apply F.bL AW;rintro _ H Q E ⟨n,rfl,k⟩;refine⟨Z,fun _ _ _ _ _=>?_⟩
 refine⟨_,Qb (QD (Qs Zn (pv 0) Qi (Qo _)) (Qd (Qj Qi)) Qq)
  (Qd (Qj (XG (Qs ZE (pv 0) Qi (Qo _)) (Fv AJ Qi) Qi))),?_⟩
 unfold Pl.ck at k;refine⟨_,Z,_,_,Z,Z,_,Z,Qz (fun h1=>?_) (fun h1=>?_)⟩
 ·have h1:0<n:=Wj h1;rw[Wi h1]at k;exact k
 ·have h1:¬ 0<n:=fun q=>h1 (Wk q);rw[Wh h1] at k;refine⟨_,Z,_,_,Z,Z,_,Z,Qz (fun h2=>?_) (fun h2=>?_)⟩
  ·have h2:n<0:=Wj h2;rw[Wi h2]at k;exact⟨_,Z,k⟩
  ·have h2:¬n<0:=fun q=>h2 (Wk q);rw[Wh h2]at k;exact k
theorem DA(F:bF K "is_step_below" "is_step_below" J' f fd) (T:bq P w K mg base 1 "turn" ["first","second","third"] (JO K)):QC P w K mg base bB 2 f fd ["points","step","mark"] (u6 K):=by
 apply F.bL Bf;rintro _ H Q E ⟨l,a,c,ap,S,s,z,rfl,B,I,hz,sz,n,h1,h2,k⟩;refine⟨Z,fun _ _ _ _ hr=>?_⟩
 refine⟨_,Qb (bz 3 Bf.nd (Qy QE (pv 0) (QX 1) (fun _ _=>rfl)))
  (Qb (bz 4 Bf.nd (Qy QE (pv 0) (Q5 1) (fun _ _=>rfl)))
  (Qd (Qj (Y4 (QM jb (QX 3) (QX 2) (Qo _)) (Y4 (QM ZE (QX 2) (QX 4) (Qo _)) (Y3 (QM Zn (Qr T hr (Qa (pv 3) (Qa (pv 4) (Qa (pv 2) Qc)))) Qi (Qo _)))))))),?_⟩
 obtain⟨c1,M,J⟩:=B.at' h1;obtain⟨c2,O,p2⟩:=B.at' h2;refine⟨_,Z,a,_,_,Z,I.sq,l,_,_,_,Z,Z,B.prs.lst,Qm (j:=s.1) M,?_⟩;refine⟨_,Z,a,_,_,Z,I.sq,l,_,_,_,Z,Z,B.prs.lst,Qm (j:=s.2) O,?_⟩;unfold Pl.bb at k;refine⟨c1,_,_,Z,J,c,_,_,Z,hz,_,_,Z,Z,_,Z,Qz (fun g1=>?_) (fun g1=>?_)⟩
 ·have g1:((S.pt s.1).x:Int)<=z.x:=Wj g1;rw[Wk (show (S.pt s.1).x<=z.x by lia),UA] at k;refine⟨c,_,_,Z,hz,c2,_,_,Z,p2,_,_,Z,Z,_,Z,Qz (fun G=>?_) (fun G=>?_)⟩
  ·have G:(z.x:Int)<(S.pt s.2).x:=Wj G;rw[Wk (show z.x<(S.pt s.2).x by lia),UA]at k;exact⟨_,Z,_,Z,_,Z,c1,c2,c,_,_,_,Z,J,p2,hz,ZQ n _,ZQ n _,sz,_,_,Z,Z,k⟩
  grind
 grind
theorem FD(F:bF K "is_higher" "is_higher" HE f fd) (T:bq P w K mg base 1 "turn" ["first","second","third"] (JO K)):QC P w K mg base bB 2 f fd ["points","step","other"] (uN K):=by
 apply F.bL pX;rintro _ H Q E ⟨l,a,c,ap,S,s,o,rfl,z,J,hc,n,h1,h2,h3,h4,k⟩;refine⟨Z,fun _ _ _ _ hr=>?_⟩
 refine⟨_,Qb (bz 3 pX.nd (Qy QE (pv 0) (QX 1) (fun _ _=>rfl)))
  (Qb (bz 4 pX.nd (Qy QE (pv 0) (Q5 1) (fun _ _=>rfl)))
  (Qb (bz 5 pX.nd (Qy QE (pv 0) (QX 2) (fun _ _=>rfl)))
  (Qb (bz 6 pX.nd (Qy QE (pv 0) (Q5 2) (fun _ _=>rfl)))
  (Qb (QD (Qs XI (QX 1) (QX 2) (Qo _)) (Qd (Qj (QM Zn (Qr T hr (Qa (pv 5) (Qa (pv 6) (Qa (pv 4) Qc)))) Qi (Qo _)))) Qq)
  (Qb (QD (Qs ZE (QX 3) (QX 5) (Qo _)) (Qd (Qj (QM ZE (Qr T hr (Qa (pv 3) (Qa (pv 4) (Qa (pv 5) Qc)))) Qi (Qo _)))) Qq)
  (Qd (Qj (QM Zn (Qr T hr (Qa (pv 5) (Qa (pv 6) (Qa (pv 3) Qc)))) Qi (Qo _))))))))),?_⟩
 obtain⟨c1,e1,M⟩:=z.at' h1;obtain⟨c2,e2,p2⟩:=z.at' h2;obtain⟨G,e3,I⟩:=z.at' h3;obtain⟨O,e4,U⟩:=z.at' h4;refine⟨_,Z,a,_,_,Z,J.sq,l,_,_,_,Z,Z,z.prs.lst,Qm (j:=s.1) e1,?_⟩;refine⟨_,Z,a,_,_,Z,J.sq,l,_,_,_,Z,Z,z.prs.lst,Qm (j:=s.2) e2,?_⟩;refine⟨_,Z,c,_,_,Z,hc.sq,l,_,_,_,Z,Z,z.prs.lst,Qm (j:=o.1) e3,?_⟩;refine⟨_,Z,c,_,_,Z,hc.sq,l,_,_,_,Z,Z,z.prs.lst,Qm (j:=o.2) e4,?_⟩;unfold Pl.bR at k;refine⟨a,_,_,Z,J.sq,c,_,_,Z,hc.sq,Z,_,Z,Qz (fun g1=>?_) (fun g1=>?_)⟩
 ·have g1:(s.1:Int)=o.1:=by simpa using g1
  rw[Wi (show s.1=o.1 by lia)]at k;exact⟨_,Z,_,Z,_,Z,G,O,c2,_,_,_,Z,I,U,p2,ZQ n _,ZQ n _,ZQ n _,_,_,Z,Z,k⟩
 ·have g1:¬ (s.1:Int)=o.1:=by simpa using g1
  rw[Wh (show ¬s.1=o.1 by lia)]at k;refine⟨c1,_,_,Z,M,G,_,_,Z,I,_,_,Z,Z,_,Z,Qz (fun B=>?_) (fun B=>?_)⟩
  ·have B:((S.pt s.1).x:Int)<(S.pt o.1).x:=Wj B;rw[Wi (show(S.pt s.1).x<(S.pt o.1).x by lia)]at k;exact⟨_,Z,_,Z,_,Z,c1,c2,G,_,_,_,Z,M,p2,I,ZQ n _,ZQ n _,ZQ n _,_,_,Z,Z,k⟩
  ·have B:¬((S.pt s.1).x:Int)<(S.pt o.1).x:=fun q=>B (Wk q);rw[Wh (show ¬(S.pt s.1).x<(S.pt o.1).x by lia)]at k;exact⟨_,Z,_,Z,_,Z,G,O,c1,_,_,_,Z,I,U,M,ZQ n _,ZQ n _,ZQ n _,_,_,Z,Z,k⟩
theorem X9.same{H H':Hp}{v:V} {b:Option (Nat×Nat)} (h:X9 H v b) (e:Qn H H'):X9 H' v b:=by
 cases b with
 |none=>exact h
 |some s=>obtain⟨a,j,n⟩:=h;exact⟨a,j,e _ _ n⟩
theorem yU{S:Plan}{l:Nat×Nat}{n:Nat}(h1:l.1<n)(h2:l.2<n):(Pl.bg S l).1<n/\(Pl.bg S l).2<n:=by unfold Pl.bg;lia
theorem sg(S:Plan)(z:Pt) (b:Option (Nat×Nat)) (l:Nat×Nat):Pl.ba S z b l=some (Pl.bg S l)\/Pl.ba S z b l=b:=by
 cases b with
 | none=>
  by_cases q:(Pl.bb S (Pl.bg S l) z&&true)=true
  ·left;exact Wi q
  ·right;exact Wh q
 | some o=>
  by_cases q:(Pl.bb S (Pl.bg S l) z&&Pl.bR S (Pl.bg S l) o)=true
  ·left;exact Wi q
  ·right;exact Wh q
theorem mN{S:Plan}(B:X3 S){z:Pt}:∀(ls:List (Nat×Nat)) (b:Option (Nat×Nat)),(∀l∈ls,l∈S.lines)->(∀s,b=some s->s.1<S.pts.length/\s.2<S.pts.length)->∀s,ls.foldl (Pl.ba S z) b=some s->s.1<S.pts.length/\s.2<S.pts.length
 |[],b,_,n=>n
 | l::ls,b,hl,n=>by
  rw[UE];refine mN B ls _ (fun x F=>hl x (by simp[F])) ?_;intro s j;have h:=B l (hl l We);rcases sg S z b l with e|e
  ·rw[e]at j;rw[<-Wo j];exact yU L h.2
  ·rw[e]at j;exact n s j
theorem Dh(F:bF K "step_under" "step_under" Ik f fd)(T:Z9 K mg C) (B1:bq P w K mg base 2 "is_step_below" ["points","step","mark"] (u6 K)) (B2:bq P w K mg base 2 "is_higher" ["points","step","other"] (uN K)):QC P w K mg base bB 3 f fd ["drawing","mark"] (AN K C):=by
 apply F.bL ow;rintro _ H Q E ⟨d,a,z,S,dx,lp,ll,lm,ap,al,am,rfl,D,hz,sz,O,k⟩;refine⟨Z,fun _ _ _ s hr=>?_⟩
 refine⟨_,Qb (bz 2 ow.nd (Qw (pv 0) Z))
  (Qb (bz 3 ow.nd QT)
  (Qb (QL PassesOwn.never Z (Q3 (Qw (pv 0) Z)) (b0 4 ow.nd)
   (Qb (bz 5 ow.nd (XG (Qs ZE (Qy QO (Qy QE (pv 2) (QX 4) (fun _ _=>rfl)) Qi (fun _ _=>rfl)) (Qy QO (Qy QE (pv 2) (Q5 4) (fun _ _=>rfl)) Qi (fun _ _=>rfl)) (Qo _)) (pv 4) (Ze (Qa (Q5 4) (Qa (QX 4) Qc)))))
   (Qd (QD (Y0 (Zd (Qr B1 hr (Qa (pv 2) (Qa (pv 5) (Qa (pv 1) Qc))))) (XW (Xo (Q6 (Y5 (pv 3))) (ZM (Zd (Qr B2 hr (Qa (pv 2) (Qa (pv 5) (Qa (pv 3) Qc))))))).pt)).pt
    (Qd (bz 3 ow.nd (pv 5))) Qq))))
  (Qd (Qj (pv 3))))),?_⟩
 refine⟨_,Z,d,C,dx,_,_,Z,D.ins,T.cl,T.nP,XJ _ _ _ _ _,?_⟩
 refine⟨_,Z,d,C,dx,_,_,Z,D.ins,T.cl,T.nL,yo _ _ _ _ _,ll,Z,⟨_,D.cE.lst⟩,Zs (K:=K) (a:=ll) (xs:=al.map V.ref) (fun i σ H'=>∃(B:V)(J M:Option V),σ=[some (.ref d),some (.ref a),some (.ref lp),some B,J,M]/\Qn H H'/\X9 H' B ((S.lines.take i).foldl (Pl.ba S z) none))
  ⟨_,none,none,Z,Qn.refl _,Z⟩ (fun i σ H' _ ⟨_,_,_,_,s1,_⟩=>(D.same s1).cE.lst) ?_ ?_⟩
 ·rintro i x σ H1 hx ⟨B,J,M,rfl,s1,hb⟩;obtain⟨c,hc,rfl⟩:=Zm hx;have D1:=D.same s1;obtain⟨hi,I⟩:=D1.ln hc;have af:Pr H1 c S.lines[i]:=D1.cE.at_ i c S.lines[i] hc (xD hi);obtain⟨g1,g2⟩:=O.cE S.lines[i] (xP hi);have P1:yB K H1 lp ap S:=⟨D1.pts⟩;obtain⟨e1,ag,q1⟩:=P1.at' (i:=S.lines[i].1) L;obtain⟨e2,ah,q2⟩:=P1.at' (i:=S.lines[i].2) g2;have et:S.lines.take (i+1)=S.lines.take i++[S.lines[i]]:=by rw[Uf hi]
  have U:(S.lines.take (i+1)).foldl (Pl.ba S z) none=Pl.ba S z ((S.lines.take i).foldl (Pl.ba S z) none) S.lines[i]:=by rw[et,List.foldl_append];rfl
  have blt:=mN O.cE (z:=z) (S.lines.take i) none (fun l hl=>Uo hl) (fun s h=>by cases h);generalize (S.lines.take i).foldl (Pl.ba S z) none=best at *;obtain⟨ac,ad⟩:=yU (S:=S) (l:=S.lines[i]) (n:=S.pts.length) L g2
  have JR:∀(H2:Hp)(t:Addr),Qn H1 H2->Pr H2 t (Pl.bg S S.lines[i])->
    FJ (EO (tB (mE (u6 K) [] E0 (YD (ZH 2) (YD (ZH 5) (YD (ZH 1) jz))))) (KZ (tB (Fh (ZH 3))) (tB (mE (uN K) [] E0 (YD (ZH 2) (YD (ZH 5) (YD (ZH 3) jz))))))) (vn (ZH 5) (Zz 3)) Ad
     { nx:=fun σ H'=>∃(B:V)(J M:Option V),σ=[some (.ref d),some (.ref a),some (.ref lp),some B,J,M]/\Qn H H'/\X9 H' B ((S.lines.take (i+1)).foldl (Pl.ba S z) none),rt:=Q,bk:=fun _ _=>False,ct:=fun σ H'=>∃(B:V)(J M:Option V),σ=[some (.ref d),some (.ref a),some (.ref lp),some B,J,M]/\Qn H H'/\X9 H' B ((S.lines.take (i+1)).foldl (Pl.ba S z) none) }
     [some (.ref d),some (.ref a),some (.ref lp),some B,some (.ref c),some (.ref t)] H2:=by
   intro H2 t s2 ht;have G:=s1.trans s2;have P2:=P1.same s2;have aa:=hb.same s2;rw[U];refine⟨_,Z,_,Z,_,Z,lp,t,a,ap,S,_,z,Z,P2,ht,Qn.tup G hz,sz,O.sm,ac,ad,_,Z,Qz (fun h1=>?_) (fun h1=>?_)⟩
   ·cases best with
    | none=>
     have hv:B=.bP:=aa;subst hv;refine⟨_,Z,_,Z,Qz (fun h2=>ZG ?_) (fun h2=>Wm Z h2)⟩;refine⟨_,Z,_,_,_,Z,G,?_⟩
     have e:Pl.ba S z none S.lines[i]=some (Pl.bg S S.lines[i]):=by unfold Pl.ba;simp[h1]
     rw[e];exact⟨t,Z,ht⟩
    | some o=>
     obtain⟨ao,rfl,ho⟩:=aa;obtain⟨o1,o2⟩:=blt o rfl;refine⟨_,Z,_,Z,Qz (fun h2=>Wm h2 We) (fun h2=>?_)⟩;refine⟨_,Z,_,Z,_,Z,lp,t,ao,ap,S,_,o,Z,P2,ht,ho,O.sm,ac,ad,o1,o2,_,Z,Qz (fun h3=>?_) (fun h3=>?_)⟩
     ·refine⟨_,Z,_,_,_,Z,G,?_⟩
      have e:Pl.ba S z (some o) S.lines[i]=some (Pl.bg S S.lines[i]):=by unfold Pl.ba;simp[h1,h3]
      rw[e];exact⟨t,Z,ht⟩
     ·refine⟨_,_,_,Z,G,?_⟩;have h3:Pl.bR S (Pl.bg S S.lines[i]) o=false:=by simpa using h3
      have e:Pl.ba S z (some o) S.lines[i]=some o:=by unfold Pl.ba;simp[h1,h3]
      rw[e];exact⟨ao,Z,ho⟩
   ·refine⟨_,_,_,Z,G,?_⟩;have h1:Pl.bb S (Pl.bg S S.lines[i]) z=false:=by simpa using h1
    have e:Pl.ba S z best S.lines[i]=best:=by unfold Pl.ba;simp[h1]
    rw[e];exact aa
  refine⟨_,Z,c,_,_,Z,I,lp,_,_,_,Z,Z,D1.pts.lst,Qm (j:=S.lines[i].1) ag,e1,_,_,_,Z,Z,q1,Qm (j:=0) Z,
   _,Z,c,_,_,Z,I,lp,_,_,_,Z,Z,D1.pts.lst,Qm (j:=S.lines[i].2) ah,e2,_,_,_,Z,Z,q2,Qm (j:=0) Z,_,_,Z,Z,_,Z,Qz (fun h1=>?_) (fun h1=>?_)⟩
  ·have h1:((S.pt S.lines[i].1).x:Int)<(S.pt S.lines[i].2).x:=Wj h1;have ab:Pl.bg S S.lines[i]=S.lines[i]:=Wi L;exact⟨_,Z,JR H1 c (Qn.refl _) (by rw[ab];exact af)⟩
  ·have h1:¬((S.pt S.lines[i].1).x:Int)<(S.pt S.lines[i].2).x:=fun q=>h1 (Wk q);have ab:Pl.bg S S.lines[i]=(S.lines[i].2,S.lines[i].1):=Wh L;refine⟨c,_,_,Z,I,c,_,_,Z,I,(by show 2<=sizeLine;decide),fun t ht=>?_⟩;exact JR _ t (Qk _ ht) (by rw[ab];exact Qe)
 ·rintro σ H1 ⟨B,J,M,rfl,s1,hb⟩;rw[xB,D.cE.len,Gy]at hb;exact⟨_,Z,k H1 B s1 hb⟩
def C2(s:Nat×Nat):PyData:=.tuple [.int (s.1:Int),.int (s.2:Int)]
theorem Pr.dp{H:Hp}{s:Nat×Nat}(h:Pr H a s):Dp K H (.ref a) (C2 s):=.tup h.sq (.cons (.int _) (.cons (.int _) .nil))
theorem zX(s:Nat×Nat):SeqAt.shaped (C2 s)=true:=by unfold C2 SeqAt.shaped;rfl
theorem mO(s t:Nat×Nat):PyData.eqv (C2 s) (C2 t)=decide (s=t):=by unfold C2;rw[PyData.eqv,PyData.eqvAll,PyData.eqvAll,PyData.eqvAll,PyData.eqv,PyData.eqv,Gz];grind
inductive AO(K:xz)(vs:List V)(H:Hp)(Q:VK)(E:XK):Prop
 |mk (l a:Addr) (ap:List Addr) (S:Plan) (s:Nat×Nat) (i j:Int) (m n:Nat):vs=[.ref l,.ref a,.int i,.int j]->i=(m:Int)->j=(n:Int)->yB K H l ap S->Pr H a s->((∀p∈S.pts,Sm p))->s.1<S.pts.length->s.2<S.pts.length->m<S.pts.length->n<S.pts.length->Q (.bl (Pl.b' S s m n)) H->AO K vs H Q E
structure oW(S:Plan):Prop where
 good:Pl.Good S
 C9:∀v,v<S.pts.length->2<=(S.near v).length
 sm:∀p∈S.pts,Sm p
 ok5:nN S
inductive AF(K:xz)(vs:List V)(H:Hp)(Q:VK)(E:XK):Prop
 |mk (l b a:Addr) (ap as:List Addr) (S:Plan) (s:Nat×Nat):vs=[.ref l,.ref b,.ref a]->yB K H l ap S->yD K H b as S->Pr H a s->oW S->(Pl.dr S).aZ s->(∀H' t,Qn H H'->Pr H' t (Pl.cW S s)->Q (.ref t) H')->AF K vs H Q E
abbrev Ki:Stmt:=top 40
abbrev IZ:Stmt:=top 41
abbrev Bb:Stmt:=top 42
theorem sD:a7 ["points","step","one","other","back","here","one_side","other_side"] ["points","step","one","other"] (a6 Ki):=.mk'
theorem uR:a7 ["points","beside","step","best","number"] ["points","beside","step"] (a6 IZ):=.mk'
theorem mQ:a7 ["points","beside","first","steps","step"] ["points","beside","first"] (a6 Bb):=.mk'
theorem Ef(F:bF K "is_further_left" "is_further_left" Ki f fd) (T:bq P w K mg base 1 "turn" ["first","second","third"] (JO K)) (aa:bq P w K mg base 1 "side" ["number"] ki):QC P w K mg base bB 2 f fd ["points","step","one","other"] (AO K):=by
 apply F.bL sD;rintro _ H Q E ⟨l,a,ap,S,s,i,j,m,n,rfl,rfl,rfl,G,I,B,h1,h2,h3,h4,k⟩;refine⟨Z,fun _ _ _ _ hr=>?_⟩
 refine⟨_,Qb (bz 4 sD.nd (Qy QE (pv 0) (QX 1) (fun _ _=>rfl)))
  (Qb (bz 5 sD.nd (Qy QE (pv 0) (Q5 1) (fun _ _=>rfl)))
  (Qb (bz 6 sD.nd (Qr aa hr (Qa (Qr T hr (Qa (pv 4) (Qa (pv 5) (Qa (Qy QE (pv 0) (pv 2) (fun _ _=>rfl)) Qc)))) Qc)))
  (Qb (bz 7 sD.nd (Qr aa hr (Qa (Qr T hr (Qa (pv 4) (Qa (pv 5) (Qa (Qy QE (pv 0) (pv 3) (fun _ _=>rfl)) Qc)))) Qc)))
  (Qb (QD (Qs qa (pv 6) (pv 7) (Qo _)) (Qd (Qj (QM Zn (pv 6) (pv 7) (Qo _)))) Qq)
  (Qd (Qj (QM Zn (Qr T hr (Qa (pv 5) (Qa (Qy QE (pv 0) (pv 3) (fun _ _=>rfl)) (Qa (Qy QE (pv 0) (pv 2) (fun _ _=>rfl)) Qc)))) Qi (Qo _)))))))),?_⟩
 obtain⟨c1,e1,J⟩:=G.at' h1;obtain⟨c2,e2,p2⟩:=G.at' h2;obtain⟨M,O,U⟩:=G.at' h3;obtain⟨c4,e4,p4⟩:=G.at' h4;refine⟨_,Z,a,_,_,Z,I.sq,l,_,_,_,Z,Z,G.prs.lst,Qm (j:=s.1) e1,?_⟩;refine⟨_,Z,a,_,_,Z,I.sq,l,_,_,_,Z,Z,G.prs.lst,Qm (j:=s.2) e2,?_⟩;refine⟨_,Z,_,Z,_,Z,_,Z,l,_,_,_,Z,Z,G.prs.lst,Qm (j:=m) O,c1,c2,M,_,_,_,Z,J,p2,U,ZQ B _,ZQ B _,ZQ B _,_,Z,?_⟩;refine⟨_,Z,_,Z,_,Z,_,Z,l,_,_,_,Z,Z,G.prs.lst,Qm (j:=n) e4,c1,c2,c4,_,_,_,Z,J,p2,p4,ZQ B _,ZQ B _,ZQ B _,_,Z,?_⟩;unfold Pl.b' at k;refine⟨_,Z,_,Z,Z,_,Z,Qz (fun g1=>?_) (fun g1=>?_)⟩
 ·have g1:¬ Pl.ck (xL (S.pt s.1) (S.pt s.2) (S.pt m))=Pl.ck (xL (S.pt s.1) (S.pt s.2) (S.pt n)):=by simpa using g1
  rw[Wi g1]at k;exact⟨_,Z,_,Z,_,_,Z,Z,k⟩
 ·have g1:Pl.ck (xL (S.pt s.1) (S.pt s.2) (S.pt m))=Pl.ck (xL (S.pt s.1) (S.pt s.2) (S.pt n)):=by simpa using g1
  rw[Wh (fun z=>z g1)]at k;exact⟨_,Z,_,Z,_,Z,l,_,_,_,Z,Z,G.prs.lst,Qm (j:=n) e4,_,Z,_,Z,l,_,_,_,Z,Z,G.prs.lst,Qm (j:=m) O,c2,c4,M,_,_,_,Z,p2,p4,U,ZQ B _,ZQ B _,ZQ B _,_,_,Z,Z,k⟩
theorem DU(F:bF K "step_after" "step_after" IZ f fd) (B:bq P w K mg base 2 "is_further_left" ["points","step","one","other"] (AO K)):QC P w K mg base bB 3 f fd ["points","beside","step"] (AF K):=by
 apply F.bL uR;rintro _ H Q E ⟨l,b,a,ap,as,S,s,rfl,hP,G,J,O,hd,k⟩;refine⟨Z,fun _ _ _ _ hr=>?_⟩
 refine⟨_,Qb (bz 3 uR.nd QT)
  (Qb (QL PassesOwn.never Z (Q3 (Qy QE (pv 1) (Q5 2) (fun _ _=>rfl))) (b0 4 uR.nd)
   (Qd (QD (Y0 (Qs qa (pv 4) (QX 2) (Qo _)) (XW (Xo (Q6 (Y5 (pv 3))) (ZM (Zd (Qr B hr (Qa (pv 0) (Qa (pv 2) (Qa (pv 4) (Qa (pv 3) Qc)))))))).pt)).pt
    (Qd (bz 3 uR.nd (pv 4))) Qq)))
  (Qd (Qj (Ze (Qa (Q5 2) (Qa (pv 3) Qc)))))),?_⟩
 obtain⟨d1,U⟩:=O.good.fine.cA hd;obtain⟨c,hc⟩:∃c,as[s.2]?=some c:=⟨as[s.2]'(by rw[G.len];exact U),xD _⟩;have hu:=hd.rev
 refine⟨_,Z,a,_,_,Z,J.sq,b,_,_,_,Z,Z,G.lst,Qm (j:=s.2) (v:=V.ref c) (by rw[xJ,hc];rfl),c,Z,⟨_,G.at_ s.2 c hc⟩,Zs (K:=K) (a:=c) (xs:=ni (S.near s.2)) (fun i σ H'=>tL fun(n:Option Nat) (v4:Option V)=>ek (σ=[some (.ref l),some (.ref b),some (.ref a),some (JC n),v4]) (H'=H) (Pl.ub S s.1 s.2 ((S.near s.2).take i) n))
  ⟨none,none,Z,Z,⟨fun _ c hc=>by simp at hc,fun b hb=>by cases hb⟩⟩ (fun i σ H' _ ⟨_,_,_,e,_⟩=>by rw[e];exact G.at_ s.2 c hc) ?_ ?_⟩
 ·rintro i x σ H1 M ⟨n,v4,rfl,rfl,I⟩
  have hi:i<(S.near s.2).length:=by have:=(List.getElem?_eq_some_iff.1 M).1;simpa [ni] using this
  obtain⟨rfl⟩:x=V.int ((S.near s.2)[i]:Int):=by unfold ni at M;rw[xJ,xD hi]at M;exact(Wo M).symm
  have et:(S.near s.2).take (i+1)=(S.near s.2).take i++[(S.near s.2)[i]]:=by rw[Uf hi]
  have hn:=O.good.fine.cj.1 (xP hi);have aa:=zu O.ok5.cE (xP hi);have st:=O.good.fine.ik hu (fun c hc=>O.good.fine.cj.1 (Uo hc)) I hn;rw[et];have fin:∀z,z=Pl.cz S (s.1,s.2) n (S.near s.2)[i]->Pl.ub S s.1 s.2 ((S.near s.2).take i++[(S.near s.2)[i]]) z:=fun z e=>by rw[e];exact st
  refine⟨_,Z,a,_,_,Z,J.sq,Z,_,Z,Qz (fun g1=>?_) (fun g1=>?_)⟩
  ·have g1:¬ ((S.near s.2)[i]:Int)=s.1:=by simpa using g1
   have ab:(S.near s.2)[i]≠s.1:=by lia
   cases n with
   | none=>
    refine⟨_,Z,_,Z,Qz (fun h2=>ZG ?_) (fun h2=>Wm Z h2)⟩;refine⟨_,Z,some (S.near s.2)[i],_,Z,Z,fin _ ?_⟩;unfold Pl.cz;rw[Wi ⟨ab,Z⟩]
   | some o=>
    have ol:o<S.pts.length:=(O.good.fine.cA (I.some_ o Z).1).2;refine⟨_,Z,_,Z,Qz (fun h2=>Wm h2 (by simp[JC])) (fun h2=>?_)⟩;refine⟨_,Z,_,Z,_,Z,_,Z,l,a,ap,S,s,_,_,(S.near s.2)[i],o,Z,Z,Z,hP,J,O.sm,d1,U,aa,ol,_,Z,Qz (fun h3=>?_) (fun h3=>?_)⟩
    ·refine⟨_,Z,some (S.near s.2)[i],_,Z,Z,fin _ ?_⟩;unfold Pl.cz;lia
    ·refine⟨some o,_,Z,Z,fin _ ?_⟩;unfold Pl.cz;lia
  ·have g1:((S.near s.2)[i]:Int)=s.1:=by simpa using g1
   refine⟨n,_,Z,Z,fin _ ?_⟩;unfold Pl.cz;lia
 ·rintro σ H1 ⟨n,v4,rfl,rfl,I⟩;have e:(ni (S.near s.2)).length=(S.near s.2).length:=by simp[ni]
  rw[e,Gy]at I;have:=O.good.fine.oJ (u:=s.1) (v:=s.2) hd (O.C9 s.2 U) I;subst this;refine⟨a,_,_,Z,J.sq,_,Z,(by show 2<=sizeLine;decide),fun t ht=>?_⟩;exact k _ t (Qk _ ht) Qe
abbrev Iv:Stmt:=top 43
abbrev HN:Stmt:=top 44
theorem kz:a7 ["drawing","beside","taken","number","mark","first","step"] ["drawing"] (a6 Iv):=.mk'
theorem Ey:a7 ["drawing","panes"] ["drawing"] (a6 HN):=.mk'
structure uO(K:xz)(H:Hp)(t:Addr)(ts:List Addr) (ds:List (Nat×Nat)):Prop where
 lst:a' K H t (ts.map V.ref)
 len:ts.length=ds.length
 at_:∀(i:Nat)(a:Addr)(x:Nat×Nat),ts[i]?=some a->ds[i]?=some x->Pr H a x
theorem uO.same{H H':Hp}{t:Addr}{j:List Addr} {ds:List (Nat×Nat)} (h:uO K H t j ds) (e:Qn H H'):uO K H' t j ds:=⟨e.seq h.lst,h.len,fun i a x h1 h2=>e _ _ (h.at_ i a x h1 h2)⟩
inductive p8(K:xz)(vs:List V)(H:Hp)(Q:VK)(E:XK):Prop
 |mk (l b a:Addr) (ap as:List Addr) (S:Plan) (s:Nat×Nat) (O:oW S):vs=[.ref l,.ref b,.ref a]->yB K H l ap S->yD K H b as S->Pr H a s->(Pl.dr S).aZ s->(∀H' t ts,Qn H H'->uO K H' t ts (O.good.bG s)->Q (.ref t) H')->p8 K vs H Q E
theorem Bt{nx:Pl.Dt->Pl.Dt}{d:Pl.Dt}{k i:Nat}(h:i<k):(Pl.wk nx d k)[i]?=some (Pl.it nx i d):=by rw[xD (by rw[Pl.bc];exact h),Pl.bZ]
theorem C0(F : bF K "outline" "outline" Bb f fd) (B : bq P w K mg base 3 "step_after" ["points", "beside", "step"] (AF K)) : QC P w K mg base bB 4 f fd ["points", "beside", "first"] (p8 K) := by
  apply F.bL mQ; rintro _ H Q E ⟨l, b, a, ap, as, S, s, O, rfl, hP, hB, ha, hd, k⟩; refine⟨Z, fun _ _ _ _ hr => ?_⟩
  refine⟨_, Qb (bz 3 mQ.nd (QU (Qa (pv 2) Qc)))
    (Qb (bz 4 mQ.nd (Qr B hr (Qa (pv 0) (Qa (pv 1) (Qa (pv 2) Qc)))))
    (Qb (Yl PassesOwn.never (Qs (jW hr.units) (pv 4) (pv 2) (Qo _))
      (Qb (Zf (Xd xU Gw Gx ZD (pv 3) (Qa (pv 4) Qc)))
      (Qd (bz 4 mQ.nd (Qr B hr (Qa (pv 0) (Qa (pv 1) (Qa (pv 4) Qc))))))))
    (Qd (Qj (pv 3))))), ?_⟩
  have du := O.good.du hd; have two := O.good.two hd; have ac := O.good.pA hd; have dG := O.good.fine.eD.bD hd; refine⟨_, rfl, (by show 1<=sizeLine; decide), fun t ht => ?_⟩; have s0 := Qk (.lst [V.ref a]) ht; refine⟨_, rfl, _, rfl, _, rfl, l, b, a, ap, as, S, s, rfl, hP.same s0, hB.same s0, s0 _ _ ha, O, hd, fun H1 c s1 hc => ?_⟩; have t1 : H1 t=some (.lst [V.ref a]) := s1 _ _ Qe; have aa : Qn H H1 := s0.trans s1
  refine⟨fun m σ H' => ∃(c : Addr)(G : List Addr)(j : Nat), σ=[some (.ref l), some (.ref b), some (.ref a), some (.ref t), some (.ref c)]/\Qn H H'/\H' t=some (.lst (G.map V.ref))/\G.length=j/\1<=j/\j<=O.good.pr s/\m=O.good.pr s-j/\Pr H' c (Pl.it (Pl.cW S) j s) /\
      (∀(i : Nat)(x : Addr), G[i]? = some x->Pr H' x (Pl.it (Pl.cW S) i s)),
    ⟨O.good.pr s-1, c, [a], 1, rfl, aa, t1, rfl, xM _, by lia, rfl, hc, fun i x U => ?_⟩, ?_⟩
  · cases i with
    | zero => have e : a = x := Wo U
              subst e; exact aa _ _ ha
    |succ i => simp at U
  · rintro m σ H2 ⟨c, G, j, rfl, s2, I, n, j1, jk, rfl, J, ad⟩; refine ⟨_, rfl, _, rfl, _, _, J.dp, Pr.dp (s := s) (show Pr H2 a s from s2 _ _ ha), zX _, zX _, _, rfl, Qz (fun h1 => ?_) (fun h1 => ?_)⟩
    · rw [mO] at h1; have h1 : ¬ Pl.it (Pl.cW S) j s = s := by simpa using h1
      have af : j<O.good.pr s := by
        rcases Uk j (O.good.pr s) with q|q
        · exact q
        · exact Wm (by rw [show j=O.good.pr s by lia]; exact du.back) h1
      refine⟨fun dw H' => ∃(c : Addr)(G : List Addr)(j' : Nat), dw=[some (.ref l), some (.ref b), some (.ref a), some (.ref t), some (.ref c)]/\Qn H H'/\H' t=some (.lst (G.map V.ref))/\G.length=j'/\1<=j'/\j'<=O.good.pr s/\O.good.pr s-(j+1)=O.good.pr s-j'/\Pr H' c (Pl.it (Pl.cW S) j' s) /\
        (∀(i : Nat)(x : Addr), G[i]? = some x->Pr H' x (Pl.it (Pl.cW S) i s)), fun dw H' h => ⟨O.good.pr s-(j+1), by lia, h⟩, ?_⟩
      have ag : (G.map V.ref).length<sizeLine := by
        rw [xB, n]; have := O.ok5.siz.2.1; exact xW af (xK ac (xK (Nat.mul_le_mul_left 2 this) Wa))
      refine⟨_, rfl, .inl ⟨Z, _, a'.of I⟩, _, rfl, t, _, _, rfl, rfl, I, ag, ?_⟩; generalize ab : upd H2 t (.lst (G.map V.ref++[V.ref c]))=H3; have kp : cC t H2 H3 := fun x o e ah => by rw [<- ab, Qh ah]; exact e
      have t3 : H3 t=some (.lst (G.map V.ref++[V.ref c])) := by rw [<- ab]; exact Qe
      have s3 : Qn H H3 := kp.same ht s2; have M : ∀{x : Addr} {y : Nat × Nat}, Pr H2 x y->Pr H3 x y := fun {x y} h => kp _ _ h (YG h I (by intro z; cases z)); refine⟨_, rfl, _, rfl, _, rfl, l, b, c, ap, as, S, Pl.it (Pl.cW S) j s, rfl, hP.same s3, hB.same s3, M J, O, dG j, fun H4 c4 s4 ai => ?_⟩; refine⟨c4, G++[c], j+1, rfl, s3.trans s4, ?_, by simp [n], by lia, by lia, rfl, ai, fun i x U => ?_⟩
      · rw [s4 _ _ t3, Gq]; rfl
      · rcases qg U with ⟨_, h2⟩ | ⟨h2, h3⟩
        · exact s4 _ _ (M (ad i x h2))
        · subst h3; rw [h2, n]; exact s4 _ _ (M J)
    · rw [mO] at h1; have h1 : Pl.it (Pl.cW S) j s = s := by simpa using h1
      have je : j=O.good.pr s := by
        rcases Uk j (O.good.pr s) with q|q
        · exact Wm h1 (du.first j L q)
        · lia
      refine⟨_, rfl, ?_⟩; refine k H2 t G s2 ⟨a'.of I, ?_, fun i x y U hy => ?_⟩
      · rw [n, je]; exact(Pl.bc _ _ _).symm
      · have hi : i < O.good.pr s := by rw [<- je, <- n]; exact (List.getElem?_eq_some_iff.1 U).1
        have e : y=Pl.it (Pl.cW S) i s := by
          have : (Pl.wk (Pl.cW S) s (O.good.pr s))[i]? = some y := hy; rw [Bt hi]at this; lia
        grind
def qE(x:Nat×Nat):List Key:=[Sum.inl (x.1:Int),Sum.inl (x.2:Int)]
def kT (ds:List (Nat×Nat)):List (List Key×V):=ds.map (fun x=>(qE x,V.bl true))
theorem pG{x y:Nat×Nat}(h:qE x=qE y):x=y:=by unfold qE at h;grind
theorem yg (ds:List (Nat×Nat)) (x:Nat×Nat):(Xs (kT ds) (qE x)).isSome=decide (x∈ds):=by
 rw[<-YN];unfold kT;rw[VN,Gz,UQ,Wp];constructor
 ·rintro⟨m,j,e⟩;have e:qE m=qE x:=Wj e;rw[<-pG e];exact j
 lia
theorem uh {ds:List (Nat×Nat)} {x:Nat×Nat} (h:x∉ds):XS (kT ds) (qE x) (V.bl true)=kT (ds++[x]):=by
 have j:Xs (kT ds) (qE x)=none:=by
  have:=yg ds x;rw[Wl h]at this;cases e:Xs (kT ds) (qE x) with
  |none=>rfl
  |some v=>rw[e]at this;cases this
 rw[dF _ j];simp[kT]
theorem Pr.key{H:Hp}{x:Nat×Nat}(h:Pr H a x):H a=some (.tup ((qE x).map kV)):=h
def YZ(S:Plan):Option Nat:=(V7 S S.outlines 0 [] S.marks).map (U8 S)
def qy(S:Plan):Option Nat:=if S.marks.length<S.outlines.length then some S.size else none
theorem Dk(F:bF K "unmarked_pane" "unmarked_pane" HN f fd)(T:Z9 K mg C)(U:Txt K mg) (M:XQ P w K mg base C 4 "byte_count" ["self"] (BL K C)):QC P w K mg base bB 5 f fd ["drawing"] (XR K C (fun S=>Pl.Good S) qy):=by
 obtain⟨fm,I,J,bm,G⟩:=M.ex;apply F.bL Ey;rintro _ H Q E ⟨d,S,dx,lp,ll,lm,ap,al,am,rfl,D,O,k⟩;refine⟨Z,fun _ _ _ _ hr=>?_⟩
 refine⟨_,Qb (bz 1 Ey.nd (QA QV (QA Xi (Qx Qp Wg U.len Wx (Qa (Qw (pv 0) Z) Qc)) (Qx Qp Wg U.len Wx (Qa (Qw (pv 0) Z) Qc))) Qi))
  (Qb (QD (Qs ZE (Qx Qp Wg U.len Wx (Qa (Qw (pv 0) Z) Qc)) (pv 1) (Qo _)) (Qd (Qj (Ym (pv 0) T.cl J G hr bm .nil Zc))) Qq)
  (Qd (Qj QT))),?_⟩
 have j:=Xq S.w S.h lp ll lm (m := "byte_count") Wb Wb Wb Wb Wb;have n:((al.map V.ref).length:Int)=S.lines.length:=by rw[xB,D.cE.len]
 have z:((ap.map V.ref).length:Int)=S.pts.length:=by rw[xB,D.pts.len,xB]
 have B:((am.map V.ref).length:Int)=S.marks.length:=by rw[xB,D.mrk.len,xB]
 have eu:=O.DJ;refine⟨_,Z,d,C,dx,_,_,Z,D.ins,T.cl,T.nL,yo _ _ _ _ _,ll,_,Z,.inl D.cE.lst,_,Z,d,C,dx,_,_,Z,D.ins,T.cl,T.nP,XJ _ _ _ _ _,lp,_,Z,.inl D.pts.lst,_,_,Z,Z,_,_,Z,Z,?_⟩;refine⟨_,Z,d,C,dx,_,_,Z,D.ins,T.cl,T.nM,rp _ _ _ _ _,lm,_,Z,.inl D.mrk.lst,_,Z,_,_,Z,Z,_,Z,Qz (fun h1=>?_) (fun h1=>?_)⟩
 ·have h1:((am.map V.ref).length:Int)<((al.map V.ref).length:Int)-((ap.map V.ref).length:Int)+1:=Wj h1;rw[n,z,B]at h1;refine⟨_,Z,d,dx,_,Z,D.ins,j,d,S,dx,lp,ll,lm,ap,al,am,Z,D,?_⟩;have e:qy S=some S.size:=Wi L;have:=k H (Qn.refl _);rw[e]at this;exact this
 ·have h1:¬((am.map V.ref).length:Int)<((al.map V.ref).length:Int)-((ap.map V.ref).length:Int)+1:=fun q=>h1 (Wk q);rw[n,z,B]at h1;have e:qy S=none:=Wh L;have:=k H (Qn.refl _);rw[e]at this;exact this
noncomputable def under {S:Plan} (G:Pl.Good S) (z:Pt):Nat×Nat:=(S.lines.foldl (Pl.ba S z) none).getD (0,0)
theorem zF{S:Plan}(F:Pl.a9 S){z:Pt}(hz:z.y<=1048575):∀(ls seen:List (Nat×Nat)) (b:Option (Nat×Nat)),(∀l∈ls,l∈S.lines)->Pl.uo S z seen b->Pl.uo S z (seen++ls) (ls.foldl (Pl.ba S z) b)
 |[],seen,b,_,I=>by rw[Uw];exact I
 | l::ls,seen,b,hl,I=>by
  have:=zF F hz ls (seen++[l]) (Pl.ba S z b l) (fun x j=>hl x (by simp[j])) (F.iN hz I (hl l We));rw[GS]at this;exact this
theorem zE{S:Plan}(G:Pl.Good S){z:Pt}(hc:U0 S z=true):S.lines.foldl (Pl.ba S z) none=some (under G z)/\Pl.Under S z (under G z):=by
 have c:=Pl.i4 hc;have j:z.y<=1048575:=by have:=c.y1;have:=G.fine.h;lia
 have I:=zF G.fine j S.lines [] none (fun l hl=>hl) ⟨fun _ l hl=>by simp at hl,fun b n=>by cases n⟩;rw[List.nil_append]at I;obtain⟨e,B,F⟩:=G.n0 hc I;unfold under;grind
noncomputable def cK {S:Plan} (G:Pl.Good S):List (Nat×Nat):=S.marks.map (fun m=>under G m.at_)
theorem Em(F:bF K "crowding_mark" "crowding_mark" Iv f fd)(T:Z9 K mg C)(U:Txt K mg) (M:XQ P w K mg base C 3 "mark_place" ["self","number"] (nO K C)) (N:XQ P w K mg base C 1 "neighbours" ["self"] (mU K C))
  (B1:bq P w K mg base 3 "step_under" ["drawing","mark"] (AN K C)) (B2:bq P w K mg base 4 "outline" ["points","beside","first"] (p8 K)) :
  QC P w K mg base bB 5 f fd ["drawing"] (XR K C (fun S=>oW S/\∀m∈S.marks,U0 S m.at_=true) YZ):=by
 obtain⟨fm,aU,hm,bm,G⟩:=M.ex;obtain⟨fn,aV,hn,bn,GN⟩:=N.ex;apply F.bL kz;rintro _ H Q E ⟨d,S,dx,lp,ll,lm,ap,al,am,rfl,D,⟨O,ah⟩,k⟩;refine⟨Z,fun _ _ _ _ hr=>?_⟩;have hu:=Jc hr
 refine⟨_,Qb (bz 1 kz.nd (Ym (pv 0) T.cl hn GN (hr.mono Wa) bn .nil Zc))
  (Qb (bz 2 kz.nd fj)
  (Qb (QL PassesOwn.never Z (Jq Z U.enum (Qa (Qw (pv 0) Z) Qc)) (ZF (n:=2) Z (QF (b0 3 kz.nd) (QF (b0 4 kz.nd) Zl)))
   (Qb (bz 5 kz.nd (Qr B1 (hr.mono Wa) (Qa (pv 0) (Qa (pv 4) Qc))))
   (Qb (QD (Q6 (AY hu (pv 5) (pv 2))) (Qd (Qj (Q4 (pv 0) T.cl hm G (hr.mono Wa) bm .nil Zc (Qa (pv 3) Qc)))) Qq)
   (Qd (QL PassesOwn.never Z (Q3 (Qr B2 hr (Qa (Qw (pv 0) Z) (Qa (pv 1) (Qa (pv 5) Qc))))) (b0 6 kz.nd)
    (Qd (zn hu (pv 2) (pv 6) Xe Z)))))))
  (Qd (Qj QT)))),?_⟩
 have aF:=Xq S.w S.h lp ll lm (m := "mark_place") Wb Wb Wb Wb Wb;have av:=Xq S.w S.h lp ll lm (m := "neighbours") Wb Wb Wb Wb Wb;have aG:(cK O.good).length=S.marks.length:=by simp[cK]
 have ai:∀i (h:i<S.marks.length),(cK O.good)[i]'(by lia)=under O.good S.marks[i].at_:=fun i h=>by simp[cK]
 have hU:∀i (h:i<S.marks.length),Pl.Under S S.marks[i].at_ ((cK O.good)[i]'(by lia)):=fun i h=>by
  rw[ai i h];exact(zE O.good (ah _ (xP h))).2
 have aw:∀i (h:i<S.marks.length),(Pl.dr S).aZ ((cK O.good)[i]'(by lia)):=fun i h=>G1 (hU i h).mem;obtain⟨aH,aI⟩:=O.good.mS aG ah hU;refine⟨_,Z,d,dx,_,Z,D.ins,av,d,S,dx,lp,ll,lm,ap,al,am,Z,D,O.ok5.cE,O.ok5.siz,fun H1 b as s1 B=>?_⟩;intro g hg;have s2:Qn H (upd H1 g (.dT [])):=s1.trans (Qk _ hg);have fg:H g=none:=s1.free hg;have aJ:H1 g=none:=hg;have D2:=D.same s2
 refine⟨_,Z,d,C,dx,_,_,Z,D2.ins,T.cl,T.nM,rp _ _ _ _ _,lm,_,Z,D2.mrk.lst,Yn (K:=K) (a:=lm) (xs:=am.map V.ref) (fun i σ H'=>Hm fun(v3 v4 v5 v6:Option V) (ds:List (Nat×Nat))=>KI (σ=[some (.ref d),some (.ref b),some (.ref g),v3,v4,v5,v6]) (Qn H1 H') (H' g=some (.dT (kT ds))) ds.Nodup ((∀x∈ds,(Pl.dr S).aZ x)) ((∀x,x∈ds↔∃j,∃(hj:j<i)(hl:j<S.marks.length),x∈O.good.bG ((cK O.good)[j]'(by lia)))) (∀j (hj:j<i) (hl:j<S.marks.length) k (hk:k<j),(cK O.good)[j]'(by lia)∉O.good.bG ((cK O.good)[k]'(by lia))))
  ⟨none,none,none,none,[],Z,Qk _ hg,Qe,by simp,by simp,fun x=>by simp,fun j hj=>by lia⟩ (fun i σ H' _ ⟨_,_,_,_,_,_,s3,_,_,_,_,_⟩=>((D.same s1).same s3).mrk.lst) ?_ ?_⟩
 ·rintro i x σ H3 H4 J ⟨v3,v4,v5,v6,ds,rfl,s3,ax,aj,ak,I,hb⟩ ay;obtain⟨c,hc,rfl⟩:=Zm J;have s4:=s3.trans ay;have aK:=s1.trans s4;have D4:=D.same aK;obtain⟨hi,hp⟩:=D4.Kd hc;obtain⟨ef,aW⟩:=zE O.good (ah _ (xP hi));refine⟨_,Z,_,Z,d,c,S.marks[i].at_,S,dx,lp,ll,lm,ap,al,am,Z,D4,hp,O.ok5.smm _ (xP _),O.ok5,fun H5 v az aa=>?_⟩;rw[ef] at aa;obtain⟨a,rfl,an⟩:=aa;have s5:=s4.trans az;have aA:H5 g=some (.dT (kT ds)):=az _ _ (ay _ _ ax);have D5:=D.same (s1.trans s5);refine⟨_,Z,_,Z,g,_,Z,Z2.t aA an.key,_,Z,Qz (fun h1=>?_) (fun h1=>?_)⟩
  ·rw[yg] at h1;have h1:under O.good S.marks[i].at_∈ds:=Wj h1;rw[<-ai i hi] at h1;obtain⟨j,hj,hl,J⟩:=(I _).1 h1;refine⟨_,Z,d,dx,_,Z,D5.ins,aF,_,Z,d,_,i,S,dx,lp,ll,lm,ap,al,am,Z,Z,D5,?_⟩
   have e:YZ S=some (U8 S i):=by unfold YZ;rw[aH i hi (fun j hj k hk=>hb j hj L k hk) ⟨j,hj,J⟩];rfl
   have:=k H5 (s1.trans s5);rw[e]at this;exact this
  ·rw[yg] at h1;have ao:under O.good S.marks[i].at_∉ds:=by simpa using h1
   clear h1;rw[<-ai i hi]at ao an;generalize he:(cK O.good)[i]'(by lia)=e at *;have ad:(Pl.dr S).aZ e:=by rw[<-he];exact aw i hi
   have ab:∀x∈O.good.bG e,x∉ds:=fun x J aM=>by
    obtain⟨j,hj,hl,aN⟩:=(I x).1 aM;apply ao;exact(I e).2 ⟨j,hj,hl,O.good.bJ (aw j hl) aN (O.good.cg ad J)⟩
   have ac:∀x∈O.good.bG e,(Pl.dr S).aZ x:=fun x J=>O.good.bu ad J;have aq:=O.good.dP ad;refine⟨_,Z,d,C,dx,_,_,Z,D5.ins,T.cl,T.nP,XJ _ _ _ _ _,_,Z,_,Z,lp,b,a,ap,as,S,e,O,Z,⟨D5.pts⟩,B.same s5,an,ad,fun H6 t ts aB St=>?_⟩;have s6:=s5.trans aB;have af:H6 g=some (.dT (kT ds)):=aB _ _ aA
   refine⟨t,Z,⟨_,St.lst⟩,Zs (K:=K) (a:=t) (xs:=ts.map V.ref) (fun j σ H'=>∃v6:Option V,ek (σ=[some (.ref d),some (.ref b),some (.ref g),some (.int (i:Int)),some (.ref c),some (.ref a),v6]) (cC g H6 H') (H' g=some (.dT (kT (ds++(O.good.bG e).take j)))))
    ⟨_,Z,fun x o h _=>h,(by rw[List.take_zero,Uw];exact af)⟩ (fun j σ H' _ ⟨_,_,kp,_⟩=>?_) ?_ ?_⟩
   ·rcases St.lst with (h | ⟨o,h⟩) | h
    ·exact .inl (.inl (kp _ _ h (YG h af (by intro z;cases z))))
    ·exact .inl (.inr ⟨o,kp _ _ h (YG h af (by intro z;cases z))⟩)
    ·exact .inr h
   ·rintro j x σ H7 J ⟨aO,rfl,kp,ag⟩;obtain⟨c7,aC,rfl⟩:=Zm J;have hj:j<(O.good.bG e).length:=by rw[<-St.len];exact (List.getElem?_eq_some_iff.1 aC).1
    have aP:(O.good.bG e)[j]?=some (O.good.bG e)[j]:=xD hj;have aD:=St.at_ j c7 _ aC aP;have aQ:Pr H7 c7 (O.good.bG e)[j]:=kp _ _ aD (YG aD af (by intro z;cases z))
    have aR:(O.good.bG e)[j]∉ds++(O.good.bG e).take j:=fun h=>by
     rcases List.mem_append.1 h with h|h
     ·exact ab _ (xP hj) h
     ·obtain⟨m,hm,em⟩:=List.mem_iff_getElem.1 h;rw[Gk]at hm;rw[VP]at em;have:=(V2 aq).1 em;lia
    have len:(kT (ds++(O.good.bG e).take j)).length<sizeLine:=by
     have aS:(ds++(O.good.bG e).take j).Nodup:=by rw[VO];refine⟨aj,aq.sublist (List.take_sublist _ _),fun x J y hy au=>?_⟩;subst au;exact ab x (Uo hy) J
     have:=Pl.bN (m:=(Pl.dr S).d7) aS (fun x J=>Pl.Dr.dN.2 (by
      rcases List.mem_append.1 J with h|h
      ·exact ak x h
      ·exact ac x (Uo h)))
     rw[Pl.Dr.cU]at this;have e2:(Pl.dr S).E.length=S.lines.length:=by show(S.lines.map (Pl.dX S)).length=_;simp
     rw[e2]at this;have z:=O.ok5.siz.2.1;unfold kT;rw[xB];exact xV (xK this (Nat.mul_le_mul_left 2 z)) Wa
    refine⟨_,Z,_,Z,g,_,Z,yL.t ag aQ.key len,?_⟩;rw[uh aR];refine⟨_,Z,fun x o h aE=>by rw[Qh aE];exact kp x o h aE,?_⟩;rw[Qe,GS,Uf hj]
   ·rintro σ H7 ⟨aO,rfl,kp,ag⟩;rw[xB,St.len,Gy] at ag;refine⟨_,_,_,_,ds++O.good.bG e,Z,?_,ag,?_,?_,?_,?_⟩
    ·exact kp.same aJ s6
    ·rw[VO];exact⟨aj,aq,fun x J y hy au=>by subst au;exact ab x hy J⟩
    ·intro x J;rcases List.mem_append.1 J with h | h
     ·exact ak x h
     ·exact ac x h
    ·intro x;rw[List.mem_append,I];constructor
     ·rintro (⟨j,hj,hl,h⟩ | h)
      ·exact⟨j,by lia,hl,h⟩
      ·exact⟨i,by lia,hi,by rw[he];exact h⟩
     ·rintro⟨j,hj,hl,h⟩;by_cases q:j=i
      ·subst q;right;rw[he]at h;exact h
      ·exact G1 ⟨j,by lia,hl,h⟩
    ·intro j hj hl k hk;by_cases q:j=i
     ·subst q;rw[he];intro aT;exact ao ((I e).2 ⟨k,hk,by lia,aT⟩)
     ·exact hb j L hl k hk
 ·rintro σ H3 ⟨v3,v4,v5,v6,ds,rfl,s3,ax,aj,ak,I,hb⟩
  have e:YZ S=none:=by unfold YZ;rw[aI (fun i hi k hk=>hb i (by rw[xB,D.mrk.len,xB];exact hi) hi k hk)];rfl
  have:=k H3 (s1.trans s3);rw[e]at this;exact this
structure sG(K:xz)(mg:Str->Option Value)(x:Str) (rows:List (List Int)):Prop where
 ex:∃(q:Addr)(as:List Addr),mg x=some (.ref q)/\(∀H,bV K H q (as.map V.ref))/\as.length=rows.length/\∀(i:Nat)(a:Addr)(r:List Int),as[i]?=some a->rows[i]?=some r->∀H,bV K H a (r.map V.int)
theorem Xp{X:Cx}{x:Str}{pos:Pos} (h:X.mg x=some (.ref a)) (j:Gl X x:=by rfl) (hd:(x==("__debug__" : Str))=false:=by decide):PE X (.Name x pos) (tC (.ref a)):=Zo j h Z hd
def za(b:xA)(r:Nat×Nat×Nat)(s:Nat):Bool:=decide (xG b (s+r.1) 4<r.2.1)||decide (r.2.2<xG b (s+r.1) 4)
def Yt (l:List (Nat×Nat×Nat)):List (List Int):=l.map fun r=>[(r.1:Int),(r.2.1:Int),(r.2.2:Int)]
def eN(b:xA)(s:Nat) (l:List (Nat×Nat×Nat)):Option Nat:=(l.find? fun r=>za b r s).map fun r=>s+r.1
abbrev BF:Stmt:=top 74
abbrev CW:Stmt:=top 75
abbrev Iu:Stmt:=top 77
abbrev IV:Stmt:=top 78
inductive gr(K:xz)(vs:List V)(H:Hp)(Q:VK)(E:XK):Prop
 |mk (a q:Addr) (b:xA) (s:Nat) (i:Int) (as:List Addr) (l:List (Nat×Nat×Nat)):vs=[.ref a,.int i,.ref q]->i=(s:Int)->a' K H a (bl b)->((∀H,bV K H q (as.map V.ref)))->as.length=l.length->((∀(i:Nat)(c:Addr)(r:Nat×Nat×Nat),as[i]?=some c->l[i]?=some r->∀H,bV K H c [.int (r.1:Int),.int (r.2.1:Int),.int (r.2.2:Int)]))->(∀H',Qn H H'->Q (JC (eN b s l)) H')->gr K vs H Q E
theorem sI:a7 ["workshop","start","bounds","bound","number"] ["workshop","start","bounds"] (a6 BF):=.mk'
theorem lA{α:Type}{l:List α}{p:α->Bool}{i:Nat}(hi:i<l.length)(h:p l[i]=true) (z:∀j (n:j<i),p (l[j]'(by lia))=false):l.find? p=some l[i]:=by rw[Va];exact⟨h,i,hi,Z,fun j n=>by rw[z j n];rfl⟩
theorem me{α:Type}{l:List α}{p:α->Bool} (h:∀i (hi:i<l.length),p l[i]=false):l.find? p=none:=by rw[Uz];intro x j;obtain⟨i,hi,rfl⟩:=List.mem_iff_getElem.1 j;rw[h i hi];simp
theorem CD(F:bF K "out_of_bounds" "out_of_bounds" BF f fd) (N:bq P w K mg base 1 "number_at" ["octets","place","size"] (JE K)):QC P w K mg base bB 2 f fd ["workshop","start","bounds"] (gr K):=by
 apply F.bL sI;rintro _ H Q E ⟨a,q,b,s,i,as,l,rfl,rfl,hS,hq,B,J,k⟩;refine⟨Z,fun _ _ _ _ hr=>?_⟩
 refine⟨_,Qb (QL PassesOwn.never Z (jT (pv 2)) (b0 3 sI.nd)
   (Qb (bz 4 sI.nd (Qr N hr (Qa (pv 0) (Qa (QA QV (pv 1) (Qy QO (pv 3) Qi (fun _ _=>rfl))) (Qa Qi Qc)))))
   (Qd (QD (Xo (Qs ZE (pv 4) (Qy QO (pv 3) Qi (fun _ _=>rfl)) (Qo _)) (ZM (Qs Zn (pv 4) (Qy QO (pv 3) Qi (fun _ _=>rfl)) (Qo _)))).pt
    (Qd (Qj (QA QV (pv 1) (Qy QO (pv 3) Qi (fun _ _=>rfl))))) Qq))))
  (Qd (Qj QT)),?_⟩
 refine⟨_,Z,q,Z,⟨_,hq H⟩,zx (K:=K) (a:=q) (xs:=as.map V.ref) (fun j σ H'=>tL fun(M O:Option V)=>ek (σ=[some (.ref a),some (.int (s:Int)),some (.ref q),M,O]) (Qn H H') (∀m (G:m<j) (hl:m<l.length),za b l[m] s=false))
  ⟨none,none,Z,Qn.refl _,fun m G=>by lia⟩ (fun i σ H' _ _=>hq H') ?_ ?_⟩
 ·rintro j x σ H1 hx ⟨M,O,rfl,I,U⟩;obtain⟨c,hc,rfl⟩:=Zm hx;have hj:j<l.length:=by rw[<-B];exact (List.getElem?_eq_some_iff.1 hc).1
  have n:=J j c l[j] hc (xD hj);refine⟨_,Z,_,Z,_,Z,c,_,_,_,Z,Z,n _,Qm (j:=0) Z,_,_,Z,Z,a,b,s+l[j].1,4,_,_,Z,(by show(s:Int)+(l[j].1:Int)=_;lia),Z,I.seq hS,fun H2 aa=>?_⟩;have s2:=I.trans aa
  have ret:za b l[j] s=true->Q (.int ((s:Int)+(l[j].1:Int))) H2:=fun h=>by
   have e:eN b s l=some (s+l[j].1):=by unfold eN;rw[lA (p:=fun r=>za b r s) hj h (fun m G=>U m G L)];rfl
   have:=k H2 s2;rw[e]at this;have e2:((s+l[j].1:Nat):Int)=(s:Int)+(l[j].1:Int):=by lia
   have this:Q (.int ((s+l[j].1:Nat):Int)) H2:=this;lia
  refine⟨_,Z,_,Z,c,_,_,_,Z,Z,n _,Qm (j:=1) Z,_,_,Z,Z,_,Z,Qz (fun h1=>ZG ?_) (fun h1=>?_)⟩
  ·have h1:((xG b (s+l[j].1) 4:Nat):Int)<(l[j].2.1:Int):=Wj h1;refine⟨_,Z,_,Z,c,_,_,_,Z,Z,n _,Qm (j:=0) Z,_,_,Z,Z,ret ?_⟩;unfold za;lia
  ·have h1:¬ ((xG b (s+l[j].1) 4:Nat):Int)<(l[j].2.1:Int):=fun z=>h1 (Wk z);refine⟨_,Z,_,Z,c,_,_,_,Z,Z,n _,Qm (j:=2) Z,_,_,Z,Z,_,Z,Qz (fun h2=>?_) (fun h2=>?_)⟩
   ·have h2:(l[j].2.2:Int)<((xG b (s+l[j].1) 4:Nat):Int):=Wj h2;refine⟨_,Z,_,Z,c,_,_,_,Z,Z,n _,Qm (j:=0) Z,_,_,Z,Z,ret ?_⟩;unfold za;lia
   ·have h2:¬ (l[j].2.2:Int)<((xG b (s+l[j].1) 4:Nat):Int):=fun z=>h2 (Wk z);refine⟨_,_,Z,s2,fun m G hl=>?_⟩;by_cases e:m=j
    ·subst e;unfold za;lia
    grind
 ·rintro σ H1 ⟨M,O,rfl,I,U⟩
  have e:eN b s l=none:=by unfold eN;rw[me (p:=fun r=>za b r s) fun m G=>U m (by rw[xB,B];exact G) G];rfl
  have:=k H1 I;rw[e]at this;exact this
def cb:List (Nat×Nat×Nat×Nat):=[(4,4,16,1048575),(8,4,16,1048575),(12,2,4,4096),(14,2,4,8192),(16,2,1,2048),(18,2,0,0)]
def zf(b:xA)(r:Nat×Nat×Nat×Nat):Bool:=decide (xG b r.1 r.2.1<r.2.2.1)||decide (r.2.2.2<xG b r.1 r.2.1)
def JI(b:xA):Option (Nat×Nat):=
 if b.length<20 then some (1,b.length) else if b.take 4≠Vd then some (1,0) else match cb.find? (zf b) with
  |some r=>some (2,r.1)
  |none=>if b.length≠20+8*xG b 12 2+4*xG b 14 2+12*xG b 16 2 then some (3,20) else none
theorem fC(b:xA)(p w lo hi:Nat):zf b (p,w,lo,hi)=!(Gc lo hi (xG b p w)):=by unfold zf Gc;lia
theorem j5(b:xA):UO b=match JI b with
  |some f=>.error ⟨f.1,f.2⟩
  | none=>match (U1 b).fault with
   |some e=>.error e
   |none=>.ok (U1 b):=by
 unfold UO JI cb Qb1 Gla.SMALLEST Gla.LARGEST Gla.POINTS Gla.LINES Gla.MARKS;by_cases h1:b.length<20
 ·lia
 ·simp only[h1,Wr];by_cases h2:b.take 4≠Vd
  ·lia
  ·simp only[h2,Wr];have key:∀ p w lo hi,zf b (p,w,lo,hi)=!(Gc lo hi (xG b p w)):=fC b;simp only[UF,key,List.find?_nil];cases j:Gc 16 1048575 (xG b 4 4) <;> simp;cases n:Gc 16 1048575 (xG b 8 4) <;> simp;cases z:Gc 4 4096 (xG b 12 2) <;> simp;cases w4:Gc 4 8192 (xG b 14 2) <;> simp;cases B:Gc 1 2048 (xG b 16 2) <;> simp
   have F:Gc 0 0 (xG b 18 2)=decide (xG b 18 2=0):=by unfold Gc;lia
   lia
def iD(l:List Int):PyData:=.list (l.map PyData.int)
theorem rh:∀l:List Int,PyData.canLayAll0 (l.map PyData.int)=true
 |[]=>rfl
 |x::l=>by rw[xT,PyData.canLayAll0,rh l];rfl
theorem eZ:∀l:List Int,PyData.depthAll (l.map PyData.int)=0
 |[]=>rfl
 |x::l=>by rw[xT,PyData.depthAll,eZ l];rfl
theorem Jt(l:List Int):SeqAt.shaped (iD l)=true:=by unfold iD SeqAt.shaped;rw[PyData.canLay0,rh,PyData.depth,eZ];rfl
theorem rm:∀l m:List Int,PyData.eqvAll (l.map PyData.int) (m.map PyData.int)=decide (l=m)
 |[],[]=>rfl
 |[],_::_=>by simp[PyData.eqvAll]
 |_::_,[]=>by simp[PyData.eqvAll]
 | x::l,y::m=>by
  rw[xT,xT,PyData.eqvAll,PyData.eqv,rm l m,Gz];simp
theorem j8(l m:List Int):PyData.eqv (iD l) (iD m)=decide (l=m):=by unfold iD;rw[PyData.eqv];exact rm l m
theorem Yy(K:xz)(H:Hp):∀l:List Int,qu K H (l.map V.int) (l.map PyData.int)
 |[]=>.nil
 |x::l=>.cons (.int x) (Yy K H l)
def bi(b:xA):List Int:=b.map (fun c=>(c.toNat:Int))
theorem Eu(b:xA):bl b=(bi b).map V.int:=by simp[bl,bi]
theorem iU:∀{a b:xA},bi a=bi b->a=b
 |[],[],_=>rfl
 |[],_::_,h=>by simp[bi]at h
 |_::_,[],h=>by simp[bi]at h
 | x::a,y::b,h=>by
  simp only[bi,xT,List.cons.injEq]at h;have j:x.toNat=y.toNat:=by lia
  rw[UInt8.toNat_inj.1 j,iU (a:=a) (b:=b) h.2]
theorem Ae{H:Hp} (h:a' K H a (bl b)):Dp K H (.ref a) (iD (bi b)):=by rw[Eu]at h;exact .lst h (Yy K H _)
abbrev HM:Stmt:=top 53
abbrev IB:Stmt:=top 82
theorem Bw:a7 ["octets","bound","number"] ["octets"] (a6 HM):=.mk'
theorem yX:a7 ["workshop","sheets","kinds","glasses","paintings","end"] ["workshop"] (a6 CW):=.mk'
theorem Eo:a7 ["workshop","places","place"] ["workshop","places"] (a6 Iu):=.mk'
theorem DX:a7 ["workshop","places","place"] ["workshop","places"] (a6 IV):=.mk'
inductive zK(K:xz) (f:xA->Option (Nat×Nat)) (vs:List V) (H:Hp) (Q:VK) (E:XK):Prop
 |mk (a:Addr) (b:xA):vs=[.ref a]->a' K H a (bl b)->b.length<=100000->(∀H' v,Qn H H'->X9 H' v (f b)->Q v H')->zK K f vs H Q E
structure Dl(K:xz)(mg:Str->Option Value)(x:Str)(vs:List V):Prop where
 ex:∃q:Addr,mg x=some (.ref q)/\∀H,bV K H q vs
theorem Yz:bootBuiltins "list" = some (.type "list"):=by decide +kernel
def yu:List (List Int):=cb.map fun r=>[(r.1:Int),(r.2.1:Int),(r.2.2.1:Int),(r.2.2.2:Int)]
theorem EF(F:bF K "head_fault" "head_fault" HM f fd)(T:Z9 K mg C)(U:Txt K mg)(Bd:sG K mg "HEAD_BOUNDS_cartoon" yu) (N:bq P w K mg base 1 "number_at" ["octets","place","size"] (JE K))
  (Sg:Dl K mg "CARTOON_SIGN" [.int 71,.int 76,.int 65,.int 49]) (Rw:bq P w K mg base 2 "row_places" ["octets"] (f' K)):QC P w K mg base bB 3 f fd ["octets"] (zK K JI):=by
 obtain⟨q,as,ab,hq,G,ac⟩:=Bd.ex;obtain⟨qs,ad,af⟩:=Sg.ex;apply F.bL Bw;rintro _ H Q E ⟨a,b,rfl,hS,aj,k⟩;refine⟨Z,fun _ _ _ _ hr=>?_⟩
 refine⟨_,Qb (QD (Qs ZE (Qx Qp Wg U.len Wx (Qa (pv 0) Qc)) (QP T.g20) (Qo _)) (Qd (Qj (Ze (Qa Qi (Qa (Qx Qp Wg U.len Wx (Qa (pv 0) Qc)) Qc))))) Qq)
  (Qb (QD (Qs (jW hr.units) (XF Ys (pv 0) zo (Xb Qi)) (Jr Xx Wg U.lst Yz (Qa (Xp ad) Qc)) (Qo _)) (Qd (Qj (Ze (Qa Qi (Qa Qi Qc))))) Qq)
  (Qb (QL PassesOwn.never Z (jT (Xp ab)) (b0 1 Bw.nd)
   (Qb (bz 2 Bw.nd (Qr N (hr.mono Wa) (Qa (pv 0) (Qa (Qy QO (pv 1) Qi (fun _ _=>rfl)) (Qa (Qy QO (pv 1) Qi (fun _ _=>rfl)) Qc)))))
   (Qd (QD (Xo (Qs ZE (pv 2) (Qy QO (pv 1) Qi (fun _ _=>rfl)) (Qo _)) (ZM (Qs Zn (pv 2) (Qy QO (pv 1) Qi (fun _ _=>rfl)) (Qo _)))).pt
    (Qd (Qj (Ze (Qa Qi (Qa (Qy QO (pv 1) Qi (fun _ _=>rfl)) Qc))))) Qq))))
  (Qb (QD (Qs qa (Qx Qp Wg U.len Wx (Qa (pv 0) Qc)) (Qy QO (Qr Rw hr (Qa (pv 0) Qc)) Qi (fun _ _=>rfl)) (Qo _)) (Qd (Qj (Ze (Qa Qi (Qa (QP T.g20) Qc))))) Qq)
  (Qd (Qj QT))))),?_⟩
 unfold JI at k;refine⟨_,Z,a,_,Z,.inl hS,_,_,Z,Z,_,Z,Qz (fun h1=>?_) (fun h1=>?_)⟩
 ·have h1:((bl b).length:Int)<20:=Wj h1;rw[Ql]at h1;rw[Wi (show b.length<20 by lia)]at k;refine⟨_,Z,a,_,Z,.inl hS,(by show 2<=sizeLine;decide),fun t B=>k _ _ (Qk _ B) ⟨t,Z,?_⟩⟩;show upd H t _ t=_;rw[Qe,Ql];rfl
 ·have h1:¬ ((bl b).length:Int)<20:=fun z=>h1 (Wk z);rw[Ql] at h1;rw[Wh (show ¬ b.length<20 by lia)] at k;refine⟨_,Z,_,Z,a,_,Z,hS,fun l hl=>⟨qs,_,Z,.inr (af _),fun l2 I=>?_⟩⟩
  have ec:X7 (bl b) none (some ((4:Nat):Int))=bl (b.take 4):=by rw[yr];unfold bl;rw[Vo]
  have ag:X7 (bl b) none (some 4)=bl (b.take 4):=ec;rw[ag]at I ⊢;have nl:l≠l2:=Qg (Qe) I;have hA:a' K (upd (upd H l (.lst (bl (b.take 4)))) l2 (.lst [.int 71,.int 76,.int 65,.int 49])) l (bl (b.take 4)):=a'.of (by rw[Qh nl,Qe]);have hB:a' K (upd (upd H l (.lst (bl (b.take 4)))) l2 (.lst [.int 71,.int 76,.int 65,.int 49])) l2 (([71,76,65,49]:List Int).map V.int):=a'.of Qe;have s0:Qn H (upd (upd H l (.lst (bl (b.take 4)))) l2 (.lst [.int 71,.int 76,.int 65,.int 49])):=(Qk _ hl).trans (Qk _ I);refine⟨_,_,Ae hA,Dp.lst (ds:=([71,76,65,49]:List Int).map PyData.int) hB (Yy K _ _),Jt _,Jt [71,76,65,49],_,Z,Qz (fun h2=>?_) (fun h2=>?_)⟩
  ·have h2:(!PyData.eqv (iD (bi (b.take 4))) (iD [71,76,65,49]))=true:=h2;rw[j8] at h2;have h2:¬ bi (b.take 4)=[71,76,65,49]:=by simpa using h2
   have ah:b.take 4≠Vd:=fun e=>h2 (by rw[e];rfl);rw[Wi ah]at k;exact⟨(by show 2<=sizeLine;decide),fun t B=>k _ _ (s0.trans (Qk _ B)) ⟨t,Z,Qe⟩⟩
  ·have h2:¬ (!PyData.eqv (iD (bi (b.take 4))) (iD [71,76,65,49]))=true:=h2;rw[j8] at h2;have h2:bi (b.take 4)=[71,76,65,49]:=by simpa using h2
   have ai:¬b.take 4≠Vd:=fun e=>e (iU (h2.trans Z));rw[Wh ai]at k;generalize upd (upd H l (.lst (bl (b.take 4)))) l2 (.lst [.int 71,.int 76,.int 65,.int 49])=H0 at *;have cl:cb.length=6:=rfl
   refine⟨q,Z,⟨_,hq H0⟩,zx (K:=K) (a:=q) (xs:=as.map V.ref) (fun j σ H'=>tL fun(v1 v2:Option V)=>ek (σ=[some (.ref a),v1,v2]) (Qn H H') (∀m (J:m<j) (hl:m<cb.length),zf b cb[m]=false))
    ⟨none,none,Z,s0,fun m J=>by lia⟩ (fun i σ H' _ _=>hq H') ?_ ?_⟩
   ·rintro j x σ H1 hx ⟨v1,v2,rfl,s1,hb⟩;obtain⟨c,hc,rfl⟩:=Zm hx
    have hj:j<cb.length:=by have:=(List.getElem?_eq_some_iff.1 hc).1;rw[G]at this;simpa [yu] using this
    have n:∀H,bV K H c [.int (cb[j].1:Int),.int (cb[j].2.1:Int),.int (cb[j].2.2.1:Int),.int (cb[j].2.2.2:Int)]:=fun H=>by
     have:=ac j c [(cb[j].1:Int),(cb[j].2.1:Int),(cb[j].2.2.1:Int),(cb[j].2.2.2:Int)] hc (by unfold yu;rw[xJ,xD hj];rfl) H;exact this
    refine⟨_,Z,_,Z,c,_,_,_,Z,Z,n _,Qm (j:=0) Z,_,Z,c,_,_,_,Z,Z,n _,Qm (j:=1) Z,a,b,cb[j].1,cb[j].2.1,_,_,Z,Z,Z,s1.seq hS,fun H2 M=>?_⟩;have s2:=s1.trans M
    have ret:zf b cb[j]=true->∀t,H2 t=none->Q (.ref t) (upd H2 t (.tup [.int 2,.int (cb[j].1:Int)])):=fun aa t B=>by
     rw[lA (p:=zf b) hj aa (fun m J=>hb m J L)]at k;exact k _ _ (s2.trans (Qk _ B)) ⟨t,Z,Qe⟩
    refine⟨_,Z,_,Z,c,_,_,_,Z,Z,n _,Qm (j:=2) Z,_,_,Z,Z,_,Z,Qz (fun h3=>ZG ?_) (fun h3=>?_)⟩
    ·have h3:((xG b cb[j].1 cb[j].2.1:Nat):Int)<(cb[j].2.2.1:Int):=Wj h3;refine⟨_,Z,c,_,_,_,Z,Z,n _,Qm (j:=0) Z,(by show 2<=sizeLine;decide),ret ?_⟩;unfold zf;lia
    ·have h3:¬ ((xG b cb[j].1 cb[j].2.1:Nat):Int)<(cb[j].2.2.1:Int):=fun z=>h3 (Wk z);refine⟨_,Z,_,Z,c,_,_,_,Z,Z,n _,Qm (j:=3) Z,_,_,Z,Z,_,Z,Qz (fun h4=>?_) (fun h4=>?_)⟩
     ·have h4:(cb[j].2.2.2:Int)<((xG b cb[j].1 cb[j].2.1:Nat):Int):=Wj h4;refine⟨_,Z,c,_,_,_,Z,Z,n _,Qm (j:=0) Z,(by show 2<=sizeLine;decide),ret ?_⟩;unfold zf;lia
     ·have h4:¬ (cb[j].2.2.2:Int)<((xG b cb[j].1 cb[j].2.1:Nat):Int):=fun z=>h4 (Wk z);refine⟨_,_,Z,s2,fun m J hl=>?_⟩;by_cases e:m=j
      ·subst e;unfold zf;lia
      grind
   ·rintro σ H1 ⟨v1,v2,rfl,s1,hb⟩;rw[me (p:=zf b) fun m J=>hb m (by rw[xB,G];simpa [yu] using J) J] at k;refine⟨_,Z,a,_,Z,.inl (s1.seq hS),_,Z,a,b,Z,s1.seq hS,fun H2 t M B=>⟨t,_,_,_,Z,Z,bV.of B,Qm (j:=3) Z,Z,_,Z,?_⟩⟩;have s2:=s1.trans M;refine Qz (fun O=>?_) (fun O=>?_)
    ·have O:¬ ((bl b).length:Int)=((20+8*xG b 12 2+4*xG b 14 2+12*xG b 16 2:Nat):Int):=by simpa using O
     rw[Ql]at O;have k2:=k;simp only at k2;rw[Wi (show b.length≠20+8*xG b 12 2+4*xG b 14 2+12*xG b 16 2 by lia)]at k2;exact⟨(by show 2<=sizeLine;decide),fun t B=>k2 _ _ (s2.trans (Qk _ B)) ⟨t,Z,Qe⟩⟩
    ·have O:((bl b).length:Int)=((20+8*xG b 12 2+4*xG b 14 2+12*xG b 16 2:Nat):Int):=by simpa using O
     rw[Ql]at O;have k2:=k;simp only at k2;rw[Wh (show ¬b.length≠20+8*xG b 12 2+4*xG b 14 2+12*xG b 16 2 by lia)]at k2;exact k2 _ _ s2 rfl
open Gla (Pt Plan Mark Sheet)
def Hb(b:xA):List V:=[.int ((xE b).1:Int),.int ((xE b).2.1:Int),.int ((xE b).2.2.1:Int),.int ((xE b).2.2.2.1:Int),.int ((xE b).2.2.2.2:Int)]
inductive yV(K:xz)(vs:List V)(H:Hp)(Q:VK)(E:XK):Prop
 |mk (a:Addr) (b:xA):vs=[.ref a]->a' K H a (bl b)->(∀H' t,Qn H H'->H' t=some (.tup (Hb b))->Q (.ref t) H')->yV K vs H Q E
structure xr(K:xz)(mg:Str->Option Value):Prop where
 g80:GI mg "HEAD_BYTES_workshop" 80
 g16:GI mg "SHEET_BYTES" 16
 g8:GI mg "KIND_BYTES" 8
 g64:GI mg "GLASS_BYTES" 64
 g69:GI mg "PAINTING_BYTES" 69
 g64b:GI mg "BANDS_BYTES" 64
 g4:GI mg "MOST_COATS" 4
def Ah:List (Nat×Nat×Nat):=[(0,0,65535),(4,1,16777215),(8,1,16777215),(12,0,1)]
def wG:List (Nat×Nat×Nat):=[(0,1,1400),(4,0,9999)]
def sheets(b:xA):List Sheet:=(xN (xG b 56 4)).map (fun(i:Nat)=>Qbr b ((xE b).1+16*i))
def kinds(b:xA):List Vu:=(xN (xG b 60 4)).map (fun(i:Nat)=>Qby b ((xE b).2.1+8*i))
def YV(b:xA):Option Nat:=(Gb (fun(_:Nat) (s:Sheet)=>!s.ok) (sheets b)).map fun i=>(xE b).1+16*i
def YU(b:xA):Option Nat:=(Gb (fun(_:Nat) (k:Vu)=>!k.ok) (kinds b)).map fun i=>(xE b).2.1+8*i
theorem Y6(b:xA)(p lo hi s:Nat):za b (p,lo,hi) s=!(Gc lo hi (xG b (s+p) 4)):=by unfold za Gc;lia
theorem gc{s:Nat} {l:List (Nat×Nat×Nat)}:(eN b s l=none)↔l.all (fun r=>!za b r s)=true:=by unfold eN;rw[VW,Uz,V3];grind
theorem t9(b:xA)(p:Nat):(eN b p Ah=none)↔(Qbr b p).ok=true:=by rw[gc];unfold Ah Gla.Sheet.ok Qbr;simp only[UM,List.all_nil,Y6,Qbf,Qbv,UL,Gla.SIDE,Gc,x4,decide_true,UA];exact Iff.rfl
theorem lU(b:xA)(p:Nat):(eN b p wG=none)↔(Qby b p).ok=true:=by rw[gc];unfold wG Gla.Kind.ok Qby;simp only[UM,List.all_nil,Y6,Qbf,Qbv,UL,Gla.HOTTEST,Gc,x4,decide_true,UA];exact Iff.rfl
inductive qO(K:xz)(f:xA->Option Nat)(vs:List V)(H:Hp)(Q:VK)(E:XK):Prop
 |mk (a t:Addr) (b:xA):vs=[.ref a,.ref t]->a' K H a (bl b)->bV K H t (Hb b)->b.length=(xE b).2.2.2.2->b.length<=100000->(∀H',Qn H H'->Q (JC (f b)) H')->qO K f vs H Q E
theorem BY(F:bF K "part_places" "part_places" CW f fd)(T:xr K mg) (N:bq P w K mg base 1 "number_at" ["octets","place","size"] (JE K)):QC P w K mg base bB 2 f fd ["workshop"] (yV K):=by
 apply F.bL yX;rintro _ H Q E ⟨a,b,rfl,j,k⟩;refine⟨Z,fun _ _ _ _ hr=>?_⟩
 refine⟨_,Qb (bz 1 yX.nd (QA QV (QP T.g80) (Qr N hr (Qa (pv 0) (Qa Qi (Qa Qi Qc))))))
  (Qb (bz 2 yX.nd (QA QV (pv 1) (QA ZN (QP T.g16) (Qr N hr (Qa (pv 0) (Qa Qi (Qa Qi Qc)))))))
  (Qb (bz 3 yX.nd (QA QV (pv 2) (QA ZN (QP T.g8) (Qr N hr (Qa (pv 0) (Qa Qi (Qa Qi Qc)))))))
  (Qb (bz 4 yX.nd (QA QV (pv 3) (QA ZN (QP T.g64) (Qr N hr (Qa (pv 0) (Qa Qi (Qa Qi Qc)))))))
  (Qb (bz 5 yX.nd (QA QV (pv 4) (QA ZN (QP T.g69) (Qr N hr (Qa (pv 0) (Qa Qi (Qa Qi Qc)))))))
  (Qd (Qj (Ze (Qa (pv 1) (Qa (pv 2) (Qa (pv 3) (Qa (pv 4) (Qa (pv 5) Qc)))))))))))),?_⟩
 refine⟨_,Z,a,b,4,4,_,_,Z,Z,Z,j,fun H1 I=>⟨_,_,Z,Z,?_⟩⟩;refine⟨_,Z,_,Z,a,b,56,4,_,_,Z,Z,Z,I.seq j,fun H2 n=>⟨_,_,Z,Z,.inl ⟨by decide,by decide⟩,_,_,Z,Z,?_⟩⟩;have J:=I.trans n;refine⟨_,Z,_,Z,a,b,60,4,_,_,Z,Z,Z,J.seq j,fun H3 z=>⟨_,_,Z,Z,.inl ⟨by decide,by decide⟩,_,_,Z,Z,?_⟩⟩;have M:=J.trans z;refine⟨_,Z,_,Z,a,b,64,4,_,_,Z,Z,Z,M.seq j,fun H4 B=>⟨_,_,Z,Z,.inl ⟨by decide,by decide⟩,_,_,Z,Z,?_⟩⟩;have O:=M.trans B;refine⟨_,Z,_,Z,a,b,68,4,_,_,Z,Z,Z,O.seq j,fun H5 G=>⟨_,_,Z,Z,.inl ⟨by decide,by decide⟩,_,_,Z,Z,?_⟩⟩;have U:=O.trans G;refine⟨_,Z,_,Z,_,Z,_,Z,_,Z,(by show 5<=sizeLine;decide),fun t ht=>k _ t (U.trans (Qk _ ht)) ?_⟩;rw[Qe];unfold Hb xE VJ;simp only[Qbn,Int.natCast_mul];rfl
theorem jQ{i:Int}{c n:Nat}(hc:0<c)(B:c<1000)(hi:0<=i)(F:i<2 ^ 40)(I:n<2 ^ 20):C' i (i+(c:Int)*(n:Int)) (c:Int) n:=by
 have J:(c:Int)*(n:Int)<=1000*2 ^ 20:=by have h1:(c:Int)*(n:Int)<=1000*(n:Int):=V6 L L;lia
 have G:0<=(c:Int)*(n:Int):=UC L L
 have z:Builtin.Range.rangeSize i (i+(c:Int)*(n:Int)) (c:Int)=(n:Int):=by
  unfold Builtin.Range.rangeSize;rw[Wi L];by_cases h:n=0
  ·subst h;simp
  ·have M:0<(c:Int)*(n:Int):=UN L L;rw[Wi L];have e:(i+(c:Int)*(n:Int)-i-1)=((c:Int)-1)+(c:Int)*((n:Int)-1):=by rw[Int.mul_sub];lia
   rw[e,Int.add_mul_ediv_left _ _ L,Int.ediv_eq_zero_of_lt L L];lia
 refine⟨by lia,by lia,?_,z⟩;unfold Builtin.Range.small;rw[z];have j:(c:Int)>0:=by lia
 simp only[Builtin.Range.rangeFitsLong,Gf,Qag,Wp,beq_iff_eq,j,Wq];lia
theorem zL(b:xA):(sheets b).length=xG b 56 4:=by simp[sheets]
theorem zM(b:xA)(i:Nat) (h:i<(sheets b).length):(sheets b)[i]=Qbr b ((xE b).1+16*i):=by simp[sheets]
theorem E5(F:bF K "wrong_sheet" "wrong_sheet" Iu f fd)(T:xr K mg)(U:Txt K mg) (Bd:sG K mg "SHEET_BOUNDS" (Yt Ah)) (O:bq P w K mg base 2 "out_of_bounds" ["workshop","start","bounds"] (gr K)) :
  QC P w K mg base bB 3 f fd ["workshop","places"] (qO K YV):=by
 obtain⟨q,as,J,hq,z,M⟩:=Bd.ex;apply F.bL Eo;rintro _ H Q E ⟨a,t,b,rfl,hS,ht,aa,af,k⟩;refine⟨Z,fun _ _ _ _ hr=>?_⟩
 refine⟨_,Qb (QL PassesOwn.never Z (Jo Z U.range (Qa (Qy QO (pv 1) Qi (fun _ _=>rfl)) (Qa (Qy QO (pv 1) Qi (fun _ _=>rfl)) (Qa (QP T.g16) Qc)))) (b0 2 Eo.nd)
   (Qd (QD (Q6 (ZV (Qr O hr (Qa (pv 0) (Qa (pv 2) (Qa (Xp J) Qc)))))) (Qd (Qj (pv 2))) Qq)))
  (Qd (Qj QT)),?_⟩
 have ag:(xE b).1+16*xG b 56 4+8*xG b 60 4<=b.length:=by rw[aa];unfold xE;lia
 have e1:(xE b).2.1=(xE b).1+16*xG b 56 4:=rfl;have k0:(xE b).2.1=(xE b).1+16*xG b 56 4:=rfl
 have rg:C' (((xE b).1:Nat):Int) (((xE b).2.1:Nat):Int) 16 (xG b 56 4):=by have:=jQ (i:=(((xE b).1:Nat):Int)) (c:=16) (n:=xG b 56 4) Wa Wa L L L;grind
 refine⟨_,Z,t,_,_,_,Z,Z,ht,Qm (j:=0) Z,_,Z,t,_,_,_,Z,Z,ht,Qm (j:=1) Z,_,_,_,_,Z,rg,JV (lo:=(((xE b).1:Nat):Int)) (c:=16) (n:=xG b 56 4) (fun i σ H'=>∃v2:Option V,ek (σ=[some (.ref a),some (.ref t),v2]) (Qn H H') (∀j (G:j<i) (hl:j<(sheets b).length),(!((sheets b)[j]).ok)=false))
  ⟨none,Z,Qn.refl _,fun j G=>by lia⟩ ?_ ?_⟩
 ·rintro i σ H1 hi ⟨v2,rfl,I,hb⟩;have ab:i<(sheets b).length:=by rw[zL];exact hi
  have ei:(((xE b).1:Nat):Int)+((i:Nat):Int)*16=(((xE b).1+16*i:Nat):Int):=by lia
  refine⟨_,Z,_,Z,a,q,b,(xE b).1+16*i,_,as,Ah,Z,ei,I.seq hS,hq,(by rw[z];rfl),(fun m c r hm hr H=>by
   have:=M m c [(r.1:Int),(r.2.1:Int),(r.2.2:Int)] hm (by unfold Yt;rw[xJ,hr];rfl) H;exact this),fun H2 ac=>⟨_,Z,?_⟩⟩
  have s2:=I.trans ac;have ok:=t9 b ((xE b).1+16*i);refine Qz (fun h1=>?_) (fun h1=>?_)
  ·have ah:¬eN b ((xE b).1+16*i) Ah=none:=fun e=>by
    rw[e]at h1;exact Wm h1 (by simp[JC])
   have B:(!((sheets b)[i]).ok)=true:=by rw[zM];lia
   have e:YV b=some ((xE b).1+16*i):=by unfold YV;rw[Zq (l:=sheets b) ab B (fun j G=>hb j G L)];rfl
   have:=k H2 s2;rw[e]at this;refine⟨_,Z,?_⟩;show Q (.int ((((xE b).1:Nat):Int)+((i:Nat):Int)*16)) H2;rw[ei];exact this
  ·have ad:eN b ((xE b).1+16*i) Ah=none:=by
    cases hh:eN b ((xE b).1+16*i) Ah with
    |none=>rfl
    |some m=>rw[hh]at h1;exact Wm Z h1
   refine⟨_,Z,s2,fun j G hl=>?_⟩;by_cases qq:j=i
   ·subst qq;rw[zM,ok.1 ad];rfl
   grind
 ·rintro σ H1 ⟨v2,rfl,I,hb⟩
  have e:YV b=none:=by unfold YV;have:Gb (fun(_:Nat) (x:Sheet)=>!x.ok) (sheets b)=none:=Pl.bw.2 fun i hi=>hb i (by rw[zL]at hi;exact hi) hi;grind
  have:=k H1 I;rw[e]at this;exact this
theorem jd(b:xA):(kinds b).length=xG b 60 4:=by simp[kinds]
theorem jf(b:xA)(i:Nat) (h:i<(kinds b).length):(kinds b)[i]=Qby b ((xE b).2.1+8*i):=by simp[kinds]
theorem FU(F:bF K "wrong_kind" "wrong_kind" IV f fd)(T:xr K mg)(U:Txt K mg) (Bd:sG K mg "KIND_BOUNDS" (Yt wG)) (O:bq P w K mg base 2 "out_of_bounds" ["workshop","start","bounds"] (gr K)) :
  QC P w K mg base bB 3 f fd ["workshop","places"] (qO K YU):=by
 obtain⟨q,as,J,hq,z,M⟩:=Bd.ex;apply F.bL DX;rintro _ H Q E ⟨a,t,b,rfl,hS,ht,aa,af,k⟩;refine⟨Z,fun _ _ _ _ hr=>?_⟩
 refine⟨_,Qb (QL PassesOwn.never Z (Jo Z U.range (Qa (Qy QO (pv 1) Qi (fun _ _=>rfl)) (Qa (Qy QO (pv 1) Qi (fun _ _=>rfl)) (Qa (QP T.g8) Qc)))) (b0 2 DX.nd)
   (Qd (QD (Q6 (ZV (Qr O hr (Qa (pv 0) (Qa (pv 2) (Qa (Xp J) Qc)))))) (Qd (Qj (pv 2))) Qq)))
  (Qd (Qj QT)),?_⟩
 have ag:(xE b).1+16*xG b 56 4+8*xG b 60 4<=b.length:=by rw[aa];unfold xE;lia
 have e1:(xE b).2.2.1=(xE b).2.1+8*xG b 60 4:=rfl;have k0:(xE b).2.1=(xE b).1+16*xG b 56 4:=rfl
 have rg:C' (((xE b).2.1:Nat):Int) (((xE b).2.2.1:Nat):Int) 8 (xG b 60 4):=by have:=jQ (i:=(((xE b).2.1:Nat):Int)) (c:=8) (n:=xG b 60 4) Wa Wa L L L;grind
 refine⟨_,Z,t,_,_,_,Z,Z,ht,Qm (j:=1) Z,_,Z,t,_,_,_,Z,Z,ht,Qm (j:=2) Z,_,_,_,_,Z,rg,JV (lo:=(((xE b).2.1:Nat):Int)) (c:=8) (n:=xG b 60 4) (fun i σ H'=>∃v2:Option V,ek (σ=[some (.ref a),some (.ref t),v2]) (Qn H H') (∀j (G:j<i) (hl:j<(kinds b).length),(!((kinds b)[j]).ok)=false))
  ⟨none,Z,Qn.refl _,fun j G=>by lia⟩ ?_ ?_⟩
 ·rintro i σ H1 hi ⟨v2,rfl,I,hb⟩;have ab:i<(kinds b).length:=by rw[jd];exact hi
  have ei:(((xE b).2.1:Nat):Int)+((i:Nat):Int)*8=(((xE b).2.1+8*i:Nat):Int):=by lia
  refine⟨_,Z,_,Z,a,q,b,(xE b).2.1+8*i,_,as,wG,Z,ei,I.seq hS,hq,(by rw[z];rfl),(fun m c r hm hr H=>by
   have:=M m c [(r.1:Int),(r.2.1:Int),(r.2.2:Int)] hm (by unfold Yt;rw[xJ,hr];rfl) H;exact this),fun H2 ac=>⟨_,Z,?_⟩⟩
  have s2:=I.trans ac;have ok:=lU b ((xE b).2.1+8*i);refine Qz (fun h1=>?_) (fun h1=>?_)
  ·have ah:¬eN b ((xE b).2.1+8*i) wG=none:=fun e=>by
    rw[e]at h1;exact Wm h1 (by simp[JC])
   have B:(!((kinds b)[i]).ok)=true:=by rw[jf];lia
   have e:YU b=some ((xE b).2.1+8*i):=by unfold YU;rw[Zq (l:=kinds b) ab B (fun j G=>hb j G L)];rfl
   have:=k H2 s2;rw[e]at this;refine⟨_,Z,?_⟩;show Q (.int ((((xE b).2.1:Nat):Int)+((i:Nat):Int)*8)) H2;rw[ei];exact this
  ·have ad:eN b ((xE b).2.1+8*i) wG=none:=by
    cases hh:eN b ((xE b).2.1+8*i) wG with
    |none=>rfl
    |some m=>rw[hh]at h1;exact Wm Z h1
   refine⟨_,Z,s2,fun j G hl=>?_⟩;by_cases qq:j=i
   ·subst qq;rw[jf,ok.1 ad];rfl
   grind
 ·rintro σ H1 ⟨v2,rfl,I,hb⟩
  have e:YU b=none:=by unfold YU;have:Gb (fun(_:Nat) (x:Vu)=>!x.ok) (kinds b)=none:=Pl.bw.2 fun i hi=>hb i (by rw[jd]at hi;exact hi) hi;grind
  have:=k H1 I;rw[e]at this;exact this
theorem IW{p:Nat}(h:p<b.length):xG b p 1=(b[p]).toNat:=by unfold xG;rw[GC h];show(b[p]).toNat+256*0=_;lia
theorem mw{p:Nat}(h:p<b.length):(bl b)[p]?=some (V.int ((xG b p 1:Nat):Int)):=by rw[IW h];unfold bl;grind
def qU(ks:List Vu)(k:Nat):Nat:=((ks[k]?).map Gla.Kind.heat).getD 0
def X1(ks:List Vu)(b:xA)(p i:Nat):Bool:=
 if i<xG b (p+64) 1 then !decide (xG b (p+65+i) 1<ks.length)||(decide (0<i)&&!decide (qU ks (xG b (p+65+i) 1)<qU ks (xG b (p+65+(i-1)) 1))) else xG b (p+65+i) 1 != 0
theorem kP(ks:List Vu)(b:xA)(p:Nat):Vg ks b p=if Gc 1 4 (xG b (p+64) 1)=false then some (p+64) else((xN 4).find? (X1 ks b p)).map fun i=>p+65+i:=rfl
abbrev ID:Stmt:=top 79
abbrev Ko:Stmt:=top 80
theorem DL:a7 ["workshop","place","coat","heats","kind"] ["workshop","place","coat","heats"] (a6 ID):=.mk'
theorem EU:a7 ["workshop","place","heats","coat"] ["workshop","place","heats"] (a6 Ko):=.mk'
inductive CJ(K:xz)(vs:List V)(H:Hp)(Q:VK)(E:XK):Prop
 |mk (a h:Addr) (b:xA) (ks:List Vu) (p c:Nat) (i j:Int):vs=[.ref a,.int i,.int j,.ref h]->i=((p+64:Nat):Int)->j=(c:Int)->c<4->a' K H a (bl b)->a' K H h (ni (ks.map Gla.Kind.heat))->p+69<=b.length->((0<c->c<xG b (p+64) 1->xG b (p+65+(c-1)) 1<ks.length))->Q (.bl (!X1 ks b p c)) H->CJ K vs H Q E
inductive BJ(K:xz)(vs:List V)(H:Hp)(Q:VK)(E:XK):Prop
 |mk (a h:Addr) (b:xA) (ks:List Vu) (p:Nat) (i:Int):vs=[.ref a,.int i,.ref h]->i=((p+64:Nat):Int)->a' K H a (bl b)->a' K H h (ni (ks.map Gla.Kind.heat))->p+69<=b.length->(∀H',Qn H H'->Q (JC (Vg ks b p)) H')->BJ K vs H Q E
theorem lH{ks:List Vu}{k:Nat}(h:k<ks.length):(ni (ks.map Gla.Kind.heat))[k]?=some (V.int ((qU ks k:Nat):Int)):=by unfold ni qU;rw[xJ,xJ,xD h];rfl
theorem EK(F:bF K "is_right_coat" "is_right_coat" ID f fd)(U:Txt K mg):QC P w K mg base bB 1 f fd ["workshop","place","coat","heats"] (CJ K):=by
 apply F.bL DL;rintro _ H Q E ⟨a,h,b,ks,p,c,i,j,rfl,rfl,rfl,M,B,G,hp,n,k⟩;refine⟨Z,fun _ _ _ _ _=>?_⟩
 refine⟨_,Qb (bz 4 DL.nd (Qy QE (pv 0) (QA QV (QA QV (pv 1) Qi) (pv 2)) (fun _ _=>rfl)))
  (Qb (QD (Qs fx (pv 2) (Qy QE (pv 0) (pv 1) (fun _ _=>rfl)) (Qo _)) (Qd (Qj (QM XI (pv 4) Qi (Qo _)))) Qq)
  (Qb (QD (Qs fx (pv 4) (Qx Qp Wg U.len Wx (Qa (pv 3) Qc)) (Qo _)) (Qd (Qj Xe)) Qq)
  (Qd (Qj (EM (QM XI (pv 2) Qi (Qo _)) (Y3 (QM ZE (Qy QE (pv 3) (pv 4) (fun _ _=>rfl)) (Qy QE (pv 3) (Qy QE (pv 0) (QA QV (pv 1) (pv 2)) (fun _ _=>rfl)) (fun _ _=>rfl)) (Qo _)))))))),?_⟩
 have i1:((p+64:Nat):Int)+1+(c:Int)=((p+65+c:Nat):Int):=by lia
 refine⟨_,Z,_,Z,_,_,Z,Z,_,Z,_,_,Z,Z,a,_,_,_,Z,Z,B,at_of (j:=p+65+c) i1 (mw L),?_⟩;refine⟨_,Z,_,Z,_,Z,a,_,_,_,Z,Z,B,Qm (j:=p+64) (mw L),_,_,Z,Z,_,Z,Qz (fun h1=>?_) (fun h1=>?_)⟩
 ·have h1:((xG b (p+64) 1:Nat):Int)<=(c:Int):=Wj h1;unfold X1 at k;rw[Wh L] at k;refine⟨_,Z,Z,?_⟩
  have e:(!(xG b (p+65+c) 1 != 0))=decide (V.int ((xG b (p+65+c) 1:Nat):Int)=V.int 0):=by grind
  lia
 ·have h1:¬ ((xG b (p+64) 1:Nat):Int)<=(c:Int):=fun z=>h1 (Wk z);unfold X1 at k;rw[Wi L] at k;have hl:((ni (ks.map Gla.Kind.heat)).length:Int)=ks.length:=by simp[ni]
  refine⟨_,Z,_,Z,h,_,Z,.inl G,_,_,Z,Z,_,Z,Qz (fun h2=>?_) (fun h2=>?_)⟩
  ·have h2:((ni (ks.map Gla.Kind.heat)).length:Int)<=((xG b (p+65+c) 1:Nat):Int):=Wj h2;rw[hl]at h2;rw[Wl (show ¬xG b (p+65+c) 1<ks.length by lia)]at k;exact k
  ·have h2:¬ ((ni (ks.map Gla.Kind.heat)).length:Int)<=((xG b (p+65+c) 1:Nat):Int):=fun z=>h2 (Wk z);rw[hl] at h2;rw[Wk (show xG b (p+65+c) 1<ks.length by lia),Bool.not_true,Qbu] at k;refine⟨_,Z,Z,_,Z,Qz (fun I=>?_) (fun I=>?_)⟩
   ·lia
   ·have I:¬ (c:Int)=0:=by simpa using I
    rw[Wk (show 0<c by lia),UA,Qbf]at k;have J:=n L L;have O:((p+64:Nat):Int)+(c:Int)=((p+65+(c-1):Nat):Int):=by lia
    refine⟨_,Z,_,Z,h,_,_,_,Z,Z,G,Qm (lH L),_,Z,_,Z,_,Z,_,Z,_,_,Z,Z,a,_,_,_,Z,Z,B,at_of (j:=p+65+(c-1)) O (mw L),h,_,_,_,Z,Z,G,Qm (lH J),_,_,Z,Z,?_⟩
    have e:decide (qU ks (xG b (p+65+c) 1)<qU ks (xG b (p+65+(c-1)) 1))=decide (((qU ks (xG b (p+65+c) 1):Nat):Int)<((qU ks (xG b (p+65+(c-1)) 1):Nat):Int)):=by lia
    lia
theorem FQ(F:bF K "wrong_coat" "wrong_coat" Ko f fd)(T:xr K mg)(U:Txt K mg) (R:bq P w K mg base 1 "is_right_coat" ["workshop","place","coat","heats"] (CJ K)):QC P w K mg base bB 2 f fd ["workshop","place","heats"] (BJ K):=by
 apply F.bL EU;rintro _ H Q E ⟨a,h,b,ks,p,i,rfl,rfl,J,O,hp,k⟩;refine⟨Z,fun _ _ _ _ hr=>?_⟩
 refine⟨_,Qb (QD (Xo (Qs ZE (Qy QE (pv 0) (pv 1) (fun _ _=>rfl)) Qi (Qo _)) (ZM (Qs Zn (Qy QE (pv 0) (pv 1) (fun _ _=>rfl)) (QP T.g4) (Qo _)))).pt (Qd (Qj (pv 1))) Qq)
  (Qb (QL PassesOwn.never Z (Jp Z U.range (Qa (QP T.g4) Qc)) (b0 3 EU.nd)
   (Qd (QD (X5 (Zd (Qr R hr (Qa (pv 0) (Qa (pv 1) (Qa (pv 3) (Qa (pv 2) Qc))))))) (Qd (Qj (QA QV (QA QV (pv 1) Qi) (pv 3)))) Qq)))
  (Qd (Qj QT))),?_⟩
 rw[kP]at k;have B:=mw (b:=b) (p:=p+64) L;refine⟨_,Z,_,Z,a,_,_,_,Z,Z,J,Qm (j:=p+64) B,_,_,Z,Z,_,Z,Qz (fun h1=>ZG ?_) (fun h1=>?_)⟩
 ·have h1:((xG b (p+64) 1:Nat):Int)<1:=Wj h1;have e:Gc 1 4 (xG b (p+64) 1)=false:=by unfold Gc;simp;lia
  rw[Wi e]at k;exact⟨_,Z,k H (Qn.refl _)⟩
 ·have h1:¬ ((xG b (p+64) 1:Nat):Int)<1:=fun z=>h1 (Wk z);refine⟨_,Z,_,Z,a,_,_,_,Z,Z,J,Qm (j:=p+64) B,_,_,Z,Z,_,Z,Qz (fun h2=>?_) (fun h2=>?_)⟩
  ·have h2:(4:Int)<((xG b (p+64) 1:Nat):Int):=Wj h2;have e:Gc 1 4 (xG b (p+64) 1)=false:=by unfold Gc;simp;lia
   rw[Wi e]at k;exact⟨_,Z,k H (Qn.refl _)⟩
  ·have h2:¬ (4:Int)<((xG b (p+64) 1:Nat):Int):=fun z=>h2 (Wk z);have e:¬ Gc 1 4 (xG b (p+64) 1)=false:=by unfold Gc;simp;lia
   rw[Wh e]at k
   refine⟨_,Z,by decide,by decide,Ju (lo:=0) (n:=(4:Int).toNat) (fun i σ H'=>∃M:Option V,ek (σ=[some (.ref a),some (.int ((p+64:Nat):Int)),some (.ref h),M]) (H'=H) (∀j,j<i->X1 ks b p j=false))
    ⟨none,Z,Z,fun j hj=>by lia⟩ ?_ ?_⟩
   ·rintro i σ H1 hi ⟨M,rfl,rfl,I⟩;have hi:i<4:=hi;have ei:(0:Int)+(i:Int)=(i:Int):=by lia
    rw[ei];refine⟨_,Z,_,Z,_,Z,_,Z,a,h,b,ks,p,i,_,_,Z,Z,Z,hi,J,O,hp,(fun h0 hn=>?_),_,Z,Qz (fun G=>?_) (fun G=>?_)⟩
    ·have:=I (i-1) L;unfold X1 at this;lia
    ·have G:X1 ks b p i=true:=by simpa using G
     rw[Zt (n:=4) hi G I]at k;refine⟨_,Z,_,_,Z,Z,_,Z,_,_,Z,Z,?_⟩;have:=k H1 (Qn.refl _);have e2:((p+64:Nat):Int)+1+(i:Int)=((p+65+i:Nat):Int):=by lia
     show Q (.int (((p+64:Nat):Int)+1+(i:Int))) H1;rw[e2];exact this
    ·have G:X1 ks b p i=false:=by simpa using G
     refine⟨_,Z,Z,fun j hj=>?_⟩;grind
   ·rintro σ H1 ⟨M,rfl,rfl,I⟩;rw[zd (n:=4) (fun i hi=>I i hi)]at k;exact k H1 (Qn.refl _)
def wb:List (Nat×Nat×Nat):=[(8,0,1000),(12,1,1000),(16,0,1000),(20,1,1000),(24,0,65535),(28,0,1000),(32,1,1000),(36,1,16777215),(40,0,65535),(44,0,65535),(48,0,65535),(52,1,255),(56,0,1024),(60,0,16),(64,0,256),(68,0,256)]
def qh(b:xA):Option (Nat×Nat):=
 if b.length<80 then some (1,b.length) else if b.take 4≠G3 then some (1,0) else match eN b 0 wb with
  |some p=>some (2,p)
  |none=>if b.length≠(xE b).2.2.2.2 then some (3,4) else none
theorem DI:a7 ["workshop","place"] ["workshop"] (a6 IB):=.mk'
theorem EZ(F:bF K "head_fault" "head_fault" IB f fd)(T:xr K mg)(U:Txt K mg) (Bd:sG K mg "HEAD_BOUNDS_workshop" (Yt wb)) (O:bq P w K mg base 2 "out_of_bounds" ["workshop","start","bounds"] (gr K))
  (Sg:Dl K mg "WORKSHOP_SIGN" [.int 71,.int 76,.int 65,.int 87]) (an:bq P w K mg base 2 "part_places" ["workshop"] (yV K)):QC P w K mg base bB 3 f fd ["workshop"] (zK K qh):=by
 obtain⟨q,as,aa,hq,M,ab⟩:=Bd.ex;obtain⟨qs,ac,ad⟩:=Sg.ex;apply F.bL DI;rintro _ H Q E ⟨a,b,rfl,I,ak,k⟩;refine⟨Z,fun _ _ _ _ hr=>?_⟩
 refine⟨_,Qb (QD (Qs ZE (Qx Qp Wg U.len Wx (Qa (pv 0) Qc)) (QP T.g80) (Qo _)) (Qd (Qj (Ze (Qa Qi (Qa (Qx Qp Wg U.len Wx (Qa (pv 0) Qc)) Qc))))) Qq)
  (Qb (QD (Qs (jW hr.units) (XF Ys (pv 0) zo (Xb Qi)) (Jr Xx Wg U.lst Yz (Qa (Xp ac) Qc)) (Qo _)) (Qd (Qj (Ze (Qa Qi (Qa Qi Qc))))) Qq)
  (Qb (bz 1 DI.nd (Qr O hr (Qa (pv 0) (Qa Qi (Qa (Xp aa) Qc)))))
  (Qb (QD (Q6 (ZV (pv 1))) (Qd (Qj (Ze (Qa Qi (Qa (pv 1) Qc))))) Qq)
  (Qb (QD (Qs qa (Qx Qp Wg U.len Wx (Qa (pv 0) Qc)) (Qy QO (Qr an hr (Qa (pv 0) Qc)) Qi (fun _ _=>rfl)) (Qo _)) (Qd (Qj (Ze (Qa Qi (Qa Qi Qc))))) Qq)
  (Qd (Qj QT)))))),?_⟩
 unfold qh at k;refine⟨_,Z,a,_,Z,.inl I,_,_,Z,Z,_,Z,Qz (fun h1=>?_) (fun h1=>?_)⟩
 ·have h1:((bl b).length:Int)<80:=Wj h1;rw[Ql]at h1;rw[Wi (show b.length<80 by lia)]at k;refine⟨_,Z,a,_,Z,.inl I,(by show 2<=sizeLine;decide),fun t n=>k _ _ (Qk _ n) ⟨t,Z,?_⟩⟩;show upd H t _ t=_;rw[Qe,Ql];rfl
 ·have h1:¬ ((bl b).length:Int)<80:=fun z=>h1 (Wk z);rw[Ql] at h1;rw[Wh (show ¬ b.length<80 by lia)] at k;refine⟨_,Z,_,Z,a,_,Z,I,fun l hl=>⟨qs,_,Z,.inr (ad _),fun J B=>?_⟩⟩
  have ec:X7 (bl b) none (some ((4:Nat):Int))=bl (b.take 4):=by rw[yr];unfold bl;rw[Vo]
  have af:X7 (bl b) none (some 4)=bl (b.take 4):=ec;rw[af]at B ⊢;have nl:l≠J:=Qg (Qe) B;have hA:a' K (upd (upd H l (.lst (bl (b.take 4)))) J (.lst [.int 71,.int 76,.int 65,.int 87])) l (bl (b.take 4)):=a'.of (by rw[Qh nl,Qe]);have hB:a' K (upd (upd H l (.lst (bl (b.take 4)))) J (.lst [.int 71,.int 76,.int 65,.int 87])) J (([71,76,65,87]:List Int).map V.int):=a'.of Qe;have s0:Qn H (upd (upd H l (.lst (bl (b.take 4)))) J (.lst [.int 71,.int 76,.int 65,.int 87])):=(Qk _ hl).trans (Qk _ B);refine⟨_,_,Ae hA,Dp.lst (ds:=([71,76,65,87]:List Int).map PyData.int) hB (Yy K _ _),Jt _,Jt [71,76,65,87],_,Z,Qz (fun h2=>?_) (fun h2=>?_)⟩
  ·have h2:(!PyData.eqv (iD (bi (b.take 4))) (iD [71,76,65,87]))=true:=h2;rw[j8] at h2;have h2:¬ bi (b.take 4)=[71,76,65,87]:=by simpa using h2
   have ag:b.take 4≠G3:=fun e=>h2 (by rw[e];rfl);rw[Wi ag]at k;exact⟨(by show 2<=sizeLine;decide),fun t n=>k _ _ (s0.trans (Qk _ n)) ⟨t,Z,Qe⟩⟩
  ·have h2:¬ (!PyData.eqv (iD (bi (b.take 4))) (iD [71,76,65,87]))=true:=h2;rw[j8] at h2;have h2:bi (b.take 4)=[71,76,65,87]:=by simpa using h2
   have ah:¬b.take 4≠G3:=fun e=>e (iU (h2.trans Z));rw[Wh ah]at k;generalize upd (upd H l (.lst (bl (b.take 4)))) J (.lst [.int 71,.int 76,.int 65,.int 87])=H0 at *
   refine⟨_,Z,a,q,b,0,_,as,wb,Z,Z,s0.seq I,hq,(by rw[M];rfl),(fun m c r hm hr H=>by
    have:=ab m c [(r.1:Int),(r.2.1:Int),(r.2.2:Int)] hm (by unfold Yt;rw[xJ,hr];rfl) H;exact this),fun H1 ai=>?_⟩
   have s1:=s0.trans ai;cases ho:eN b 0 wb with
   | some p=>
    rw[ho]at k;refine⟨_,Z,_,Z,Qz (fun h3=>?_) (fun h3=>Wm (by simp[JC]) h3)⟩;exact⟨_,Z,(by show 2<=sizeLine;decide),fun t n=>k _ _ (s1.trans (Qk _ n)) ⟨t,Z,Qe⟩⟩
   | none=>
    rw[ho]at k;refine⟨_,Z,_,Z,Qz (fun h3=>Wm h3 (by simp[JC])) (fun h3=>?_)⟩;refine⟨_,Z,a,_,Z,.inl (s1.seq I),_,Z,a,b,Z,s1.seq I,fun H2 t aj n=>?_⟩;have s2:=s1.trans aj;refine⟨t,_,_,_,Z,Z,bV.of n,Qm (j:=4) Z,Z,_,Z,Qz (fun G=>?_) (fun G=>?_)⟩
    ·have G:¬ ((bl b).length:Int)=(((xE b).2.2.2.2:Nat):Int):=by simpa using G
     rw[Ql]at G;have k2:=k;simp only at k2;rw[Wi (show b.length≠(xE b).2.2.2.2 by lia)]at k2;exact⟨(by show 2<=sizeLine;decide),fun t n=>k2 _ _ (s2.trans (Qk _ n)) ⟨t,Z,Qe⟩⟩
    ·have G:((bl b).length:Int)=(((xE b).2.2.2.2:Nat):Int):=by simpa using G
     rw[Ql]at G;have k2:=k;simp only at k2;rw[Wh (show ¬b.length≠(xE b).2.2.2.2 by lia)]at k2;exact k2 _ _ s2 rfl
end Gp
namespace L2
open PySem PySem.Spec PyProof.Rows
theorem oF{lo c:Int}{n:Nat}{g:TG}{tt:TT}{te:TE}{vs:List Nat}{σ:St}{H1:Hp}{D:Addr}{J:Hp->Prop}(j:Nat->Hp->Prop) (h0:j 0 (upd H1 D (.lst [])))
  (O:∀ i H,i<n->j i H->g (.int (lo+(i:Nat)*c)) (ZB σ vs) H fun z H2=>ZB z vs=ZB σ vs/\tt z H2 fun b F=>
   if b=true then te z F fun y G=>∃acc,G D=some (.lst acc)/\acc.length<sizeLine/\j (i+1) (upd G D (.lst (acc++[y]))) else j (i+1) F) (hd:∀H,j n H->J H) :
  ∃W:Nat->Nat->Hp->Prop,(∃m,W 0 m (upd H1 D (.lst [])))/\∀i m H,W i m H->
   ((Ac lo c n).stop i H/\J H)\/((Ac lo c n).go i H/\∃ I:Hp->Prop,(∀ H',I H'->∃ M,M<m/\W (i+1) M H')/\∀ x H',(Ac lo c n).yld i H x H'->g x (ZB σ vs) H' fun z H2=>ZB z vs=ZB σ vs/\tt z H2 fun b F=>
    if b=true then te z F fun y G=>∃acc,G D=some (.lst acc)/\acc.length<sizeLine/\I (upd G D (.lst (acc++[y]))) else I F):=by
 refine⟨fun i m H=>m=n-i/\i<=n/\j i H,⟨n,by simp,x4 _,h0⟩,?_⟩;rintro i m H ⟨rfl,hi,p⟩;by_cases B:i<n
 ·refine .inr ⟨B,j (i+1),fun H' U=>⟨n-(i+1),by lia,Z,B,U⟩,fun x H' y=>?_⟩;obtain⟨e,y⟩:=y;subst e y;exact O i _ B p
 ·have e:i=n:=by lia
  subst e;exact .inl ⟨xM _,hd H p⟩
end L2
namespace Gp
open PySem PySem.Spec PyProof.Rows L2
abbrev vG:Stmt:=top 81
theorem fh:a7 ["workshop","places","heats","painting","place"] ["workshop","places"] (a6 vG):=.mk'
def YT(b:xA):Option Nat:=(xN (xG b 68 4)).findSome? fun(i:Nat)=>Vg (kinds b) b ((xE b).2.2.2.1+69*i)
theorem ym{n i:Nat}{f:Nat->Option Nat}{x:Nat}(hi:i<n)(h:f i=some x)(z:∀j,j<i->f j=none):(xN n).findSome? f=some x:=by
 rw[List.findSome?_eq_some_iff];refine⟨xN i,i,(xN n).drop (i+1),?_,h,?_⟩
 ·apply Qa3
  ·simp;lia
  ·intro m h1 h2;rcases Ut m i with q | q | q
   ·rw[VD (by simpa using q)];simp
   ·subst q;rw[UW We];simp
   ·rw[UW (by simp;lia)];simp only[U4,List.getElem_range];rw[List.getElem_cons];rw[dif_neg L];simp;lia
 ·intro j B;exact z j (List.mem_range.1 B)
theorem iF(b:xA):(kinds b).map Gla.Kind.heat=(xN (xG b 60 4)).map fun i=>xG b ((xE b).2.1+8*i) 4:=by unfold kinds;rw[Vx];rfl
theorem Ap(F:bF K "wrong_painting" "wrong_painting" vG f fd)(T:xr K mg)(U:Txt K mg) (N:bq P w K mg base 1 "number_at" ["octets","place","size"] (JE K)) (Wc:bq P w K mg base 2 "wrong_coat" ["workshop","place","heats"] (BJ K)) :
  QC P w K mg base bB 3 f fd ["workshop","places"] (qO K YT):=by
 apply F.bL fh;rintro _ H Q E ⟨a,t,b,rfl,hS,J,ab,ac,k⟩;refine⟨Z,fun _ _ _ _ hr=>?_⟩
 refine⟨_,Qb (fD (i:=2) (own:=[("place",4)]) Z fh.nd Z Z (ml Z Z Z Z) (Jo Z U.range (Qa (Qy QO (pv 1) Qi (fun _ _=>rfl)) (Qa (Qy QO (pv 1) Qi (fun _ _=>rfl)) (Qa (QP T.g8) Qc))))
   (ZI (N:=["workshop","places","heats","painting","place"]) (sc:=a6 vG) Wb) (fun _ _ _ _ _=>b0 4 fh.nd) (fun _ _ _ _ _=>Jm) (fun _ _ _ _ _=>Qr N (hr.mono Wa) (Qa (pv 0) (Qa (pv 4) (Qa Qi Qc)))))
  (Qb (QL PassesOwn.never Z (Jo Z U.range (Qa (Qy QO (pv 1) Qi (fun _ _=>rfl)) (Qa (Qy QO (pv 1) Qi (fun _ _=>rfl)) (Qa (QP T.g69) Qc)))) (b0 3 fh.nd)
   (Qb (bz 4 fh.nd (Qr Wc hr (Qa (pv 0) (Qa (QA QV (pv 3) (QP T.g64b)) (Qa (pv 2) Qc)))))
   (Qd (QD (Q6 (ZV (pv 4))) (Qd (Qj (pv 4))) Qq))))
  (Qd (Qj QT))),?_⟩
 have e1:(xE b).2.2.1=(xE b).2.1+8*xG b 60 4:=rfl;have e3:(xE b).2.2.2.1=(xE b).2.2.1+64*xG b 64 4:=rfl;have e2:(xE b).2.2.2.2=(xE b).2.2.2.1+69*xG b 68 4:=rfl
 have ad:(xE b).2.1+8*xG b 60 4<=b.length/\(xE b).2.2.2.1+69*xG b 68 4=b.length:=by lia
 have M:C' (((xE b).2.1:Nat):Int) (((xE b).2.2.1:Nat):Int) 8 (xG b 60 4):=by have:=jQ (i:=(((xE b).2.1:Nat):Int)) (c:=8) (n:=xG b 60 4) Wa Wa L L L;grind
 have O:C' (((xE b).2.2.2.1:Nat):Int) (((xE b).2.2.2.2:Nat):Int) 69 (xG b 68 4):=by have:=jQ (i:=(((xE b).2.2.2.1:Nat):Int)) (c:=69) (n:=xG b 68 4) Wa Wa L L L;grind
 refine⟨_,Z,t,_,_,_,Z,Z,J,Qm (j:=1) Z,_,Z,t,_,_,_,Z,Z,J,Qm (j:=2) Z,_,_,_,_,Z,M,fun h hh=>oF (lo:=(((xE b).2.1:Nat):Int)) (c:=8) (n:=xG b 60 4) (fun i H'=>Qn H H'/\H' h=some (.lst (ni ((xN i).map fun i=>xG b ((xE b).2.1+8*i) 4))))
  ⟨Qk _ hh,Qe⟩ ?_ ?_⟩
 ·rintro i H1 hi ⟨z,h1⟩;have ei:(((xE b).2.1:Nat):Int)+((i:Nat):Int)*8=(((xE b).2.1+8*i:Nat):Int):=by lia
  refine⟨Z,_,Z,_,Z,a,b,(xE b).2.1+8*i,4,_,_,Z,ei,Z,z.seq hS,fun H2 B=>?_⟩;have h2:H2 h=some (.lst (ni ((xN i).map fun i=>xG b ((xE b).2.1+8*i) 4))):=B _ _ h1;refine⟨_,h2,?_,?_,?_⟩
  ·simp[ni];exact xW hi (xK (show xG b 60 4<=100000 by lia) Wa)
  ·intro c o e;rw[Qh (Qg e hh)];exact B _ _ (z _ _ e)
  ·rw[Qe,UY];simp[ni]
 ·rintro H1 ⟨z,h1⟩;rw[<-iF] at h1
  refine⟨_,Z,t,_,_,_,Z,Z,Qn.tup z J,Qm (j:=3) Z,_,Z,t,_,_,_,Z,Z,Qn.tup z J,Qm (j:=4) Z,_,_,_,_,Z,O,JV (lo:=(((xE b).2.2.2.1:Nat):Int)) (c:=69) (n:=xG b 68 4) (fun i σ H'=>tL fun(v3 v4:Option V)=>ek (σ=[some (.ref a),some (.ref t),some (.ref h),v3,v4]) (Qn H1 H') (∀j,j<i->Vg (kinds b) b ((xE b).2.2.2.1+69*j)=none))
   ⟨none,none,Z,Qn.refl _,fun j hj=>by lia⟩ ?_ ?_⟩
  ·rintro i σ H2 hi ⟨v3,v4,rfl,G,hb⟩;have ei:(((xE b).2.2.2.1:Nat):Int)+((i:Nat):Int)*69+64=(((xE b).2.2.2.1+69*i+64:Nat):Int):=by lia
   refine⟨_,Z,_,Z,_,_,Z,Z,_,Z,a,h,b,kinds b,(xE b).2.2.2.1+69*i,_,Z,ei,(z.trans G).seq hS,a'.of (G _ _ h1),by lia,fun H3 aa=>?_⟩;have s3:=G.trans aa;cases hc:Vg (kinds b) b ((xE b).2.2.2.1+69*i) with
   | some x=>
    refine⟨_,Z,_,Z,Qz (fun I=>?_) (fun I=>Wm (by simp[JC]) I)⟩;refine⟨_,Z,?_⟩
    have e:YT b=some x:=by unfold YT;exact ym hi hc hb
    have:=k H3 (z.trans s3);rw[e]at this;exact this
   | none=>
    refine⟨_,Z,_,Z,Qz (fun I=>Wm I (by simp[JC])) (fun I=>?_)⟩;refine⟨_,_,Z,s3,fun j hj=>?_⟩;by_cases qq:j=i
    ·lia
    ·grind
  ·rintro σ H2 ⟨v3,v4,rfl,G,hb⟩
   have e:YT b=none:=by unfold YT;grind
   have:=k H2 (z.trans G);rw[e]at this;exact this
end Gp
namespace L2
open PySem PySem.Spec PyProof.Rows
def Kx(K:xz)(j:Nat->Prop)(Ok:Nat->Addr->FuncData->List Str->Sp->Prop)(i:Nat)(t:TA):TE:=fun σ H Q=>∃(f:Addr)(fd:FuncData)(ps:List Str)(k:Nat)(sp:Sp),σ[i]?=some (some (.ref f))/\GR K (.ref f)=true/\Xr K fd ps []/\Ok k f fd ps sp/\j k/\t σ H fun vs H1=>sp vs H1 Q E0
theorem rM{X:Cx}(i:Nat){x:Str}{p pos:Pos}{e:Expr}{es:List Expr}{t:TA} (G:PA X (e::es) t) (J:X.N[i]?=some x:=by rfl) (M:vO X.env.scope x:=by first|exact G1 rfl|exact UJ (G1 Z)|exact UJ (UJ Z)) (hd:(x==("__debug__" : Str))=false:=by decide)
  (j:(x==("__classdict__" : Str))=false:=by decide) (O:starEach (e::es) X.env=(false,eval e X.env)::starEach es X.env:=by rfl) (n:(backTo pos (starEach es X.env)).any (·.1)=false:=by rfl) :
  PE X (.Call (.Name x p) (e::es) [] pos) (Kx X.K (fun k=>ZJ k X.A) (fun k f fd ps sp=>QC X.prog X.w X.K X.mg X.base bB k f fd ps sp) i t):=by
 intro pins s σ H Q I h;obtain⟨f,fd,ps,k,sp,h1,hk,U,F,hr,h⟩:=h;refine wpAny_Call_Name_kw (bx (jU (pos:=p) J M hd j pins s σ H (fun v H'=>v=.ref f/\H'=H) I ⟨_,h1,Z,Z⟩) fun u s0 ⟨v,H0,z,r0,ev,eH⟩=>?_);subst ev eH;cases r0;refine VG (h₀:=X.base) z.ok.mod.kin hk (bx (G pos pins s0 σ _ _ z h) fun us s1 ⟨vs,H1,B,r,q⟩=>⟨B.eE,?_⟩) O n;exact jP (dvs:=[]) (ds:=[]) F hr U .nil Zc B r (by rw[Uw];exact q)
end L2
namespace Gp
open Gla (Pt Plan Mark)
def JF(S:Plan):Option Nat:=if UD S=false then some 20 else none
def rules:List (Plan->Option Nat):=[YE,Yj,JF,YY,YX,YW,Z5,X4,YZ,qy]
def X0(S:Plan):Nat->List (Plan->Option Nat)->Option (Nat×Nat)
 |_,[]=>none
 | n,f::r=>match f S with
  |some p=>some (n,p)
  |none=>X0 S (n+1) r
def qG(S:Plan):Option (Nat×Nat):=X0 S 4 rules
theorem sh(S:Plan):(S.fault).map (fun e=>(e.rule,e.place))=qG S:=by
 unfold Plan.fault qG rules;simp only[X0,YE,Yj,JF,YY,YX,YW,Z5,X4,YZ,qy];cases G:Ul (fun(p:Pt)=>decide (p.x<=S.w)&&decide (p.y<=S.h)) Pt.below S.pts with
 |some i=>rfl
 | none=>
  simp only[Ux];cases I:Ul (fun(l:Nat×Nat)=>decide (l.1<l.2)&&decide (l.2<S.pts.length)) Uh S.lines with
  |some i=>rfl
  | none=>
   simp only[Ux];by_cases n:UD S=false
   ·simp[n,Qb1]
   ·simp only[n,Wr];cases J:Gb (U6 S) S.lines with
    |some i=>rfl
    | none=>
     simp only[Ux];cases M:(xN S.pts.length).find? (fun(i:Nat)=>decide ((S.near i).length<2)) with
     |some i=>rfl
     | none=>
      simp only[Ux];cases O:(xN S.pts.length).find? (fun(i:Nat)=>!((Vm S.nears S.pts.length 0 (Gh S.pts.length)).getD i false)) with
      |some i=>rfl
      | none=>
       simp only[Ux];cases z:(xN S.pts.length).find? (VY S.nears S.pts.length) with
       |some i=>rfl
       | none=>
        simp only[Ux];cases B:Ul (Gla.markOk S) Gla.markBelow S.marks with
        |some i=>rfl
        | none=>
         simp only[Ux];cases F:V7 S S.outlines 0 [] S.marks with
         |some i=>rfl
         | none=>
          simp only[Ux];by_cases j:S.marks.length<S.outlines.length
          ·simp[j]
          ·simp[j]
theorem map_none{α β:Type}{f:α->β}{o:Option α}(h:o.map f=none):o=none:=by cases o<;>simp_all
theorem vT{S:Plan}(hw:16<=S.w/\S.w<=1048575)(G:16<=S.h/\S.h<=1048575)(I:YE S=none)(J:Yj S=none)(M:JF S=none)(O:YY S=none)(U:YX S=none)(h9:YW S=none)(z:Z5 S=none) :
  Pl.Good S/\∀v,v<S.pts.length->2<=(S.near v).length:=by
 have F:Pl.a9 S:=Pl.uV hw.2 G.2 (map_none I) (map_none J) (map_none O)
 have hf:UD S=true:=by unfold JF at M;lia
 have C9:∀v,v<S.pts.length->2<=(S.near v).length:=by have:=map_none U;grind
 have c2:∀v,v<S.pts.length->VY S.nears S.pts.length v=false:=by have:=map_none z;grind
 have A:=Pl.ew hf;obtain⟨i,hi,pi⟩:=A.c00;obtain⟨j,hj,B⟩:=A.cw0;have aa:i≠j:=by intro e;subst e;rw[pi]at B;simp at B;lia
 refine⟨⟨F,F.conn (map_none h9),fun v n=>F.uB n L (c2 v n),fun v n=>?_,by lia,by lia,hf⟩,C9⟩;have:=C9 v n;match hn:S.near v,this with
 |a::_,_=>exact⟨a,F.cj.1 (by rw[hn];simp)⟩
 |[],this=>simp at this
end Gp
namespace PySem
open Sem (wp)
section
variable {prog:Program} {w:World} {A:Around} {E:Value->Shared->Prop} {s:Shared}
theorem rQ{T j:String}{self:Value}{av:List Value} {kv:List (Str×Value)} (hl:typeLookup (.type T) "__init__" = pure (some (.builtin "object.__init__"))) (B:Bind.madeBy (.type T)=pure (some j)) (z:(some j != some "object.__new__")=true) :
  Meets (Builtin.«object.__init__» ⟨self::av,kv⟩) (fun _ R s=>s.TypeIs self T/\R (.ok (.ret .none)) s):=by
 refine Meets.of_wp fun prog w A R s ⟨F,n⟩=>?_;match av,kv with
 |[],[]=>exact wpAny_pure ⟨_,Z,n⟩
 | a::av,kv=>
  repeat (any_goals (first|assumption|wp_step))
  exact⟨_,Z,n⟩
 | [],k::kv=>
  repeat (any_goals (first|assumption|wp_step))
  exact⟨_,Z,n⟩
theorem oU{T z:String}{M:Builtin}{av:List Value} {kv:List (Str×Value)} {S:Spec} {Q:Value->Shared->Prop} (tc:TypeCalled T z "object.__init__")
  (B:(some z != some "object.__new__")=true) (c1:checkTypeCall T ⟨av,kv⟩=pure ()) (c2:checkBuiltinCall z ⟨.type T::av,kv⟩=pure ())
  (c3:∀o,argsOk "object.__init__" ⟨o::av,kv⟩) (en:entryFor table z=some M) (mt:Meets (M ⟨.type T::av,kv⟩) S)
  (hq:S A.in1 (wants (fun o I=>I.TypeIs o T/\Q o I) E) s):wpAny (model prog w) A (call (.type T) av kv) Q E s:=by
 obtain⟨c,tl,em⟩:=tc.mro;have m1:=tc.made;have m2:=tc.sub;refine wpAny_call (codeAny_of_tree ?_);show wpAny _ _ (callAny (.type T) _) _ _ _;refine wpAny_pure ⟨Code.quiet_builtin _ Wb,codeAny_builtin F.entry_type_call ?_⟩;rw[Around.under_plain (weight_type_call_type T av kv) (units_type_call_type T av kv)];have n1:=tc.notType;have n2:=tc.canCreate;repeat (any_goals (first|assumption|wp_step))
 refine codeAny_mono (codeAny_call_builtin tc.plain en (wpAny_of_eq c2 (mt prog w A.in1 _ s hq))) fun J I n=>?_;match J,n with
 |.error e,n=>exact n
 | .ok (.ret o),n=>
  obtain⟨O,hQ⟩:=n;have l1:=tc.init.lookup;have l2:=tc.init.bind o;repeat (any_goals (first|assumption|wp_step))
  refine codeAny_mono (codeAny_call_builtin tc.init.plain F.entry_object_init (tc.init.check _ _ _ _ _ _ _ _ O (c3 o) ((rQ (av:=av) (kv:=kv) l1 tc.made B) prog w A.in1 (wants (fun r U=>r=.none/\Q o U) E) I ?hi))) fun G U j=>?_;case hi=>exact⟨O,Z,hQ⟩
  match G,j with
  |.error e,j=>exact j
  | .ok (.ret r),j=>
   obtain⟨rfl,aa⟩:=j;repeat (any_goals (first|assumption|wp_step))
  |.ok .next,j=>exact j.elim
  |.ok .brk,j=>exact j.elim
  |.ok .cont,j=>exact j.elim
 |.ok .next,n=>exact n.elim
 |.ok .brk,n=>exact n.elim
 |.ok .cont,n=>exact n.elim
end
open AutoSeq1 (wpAny_loadPart')
set_option maxHeartbeats 2000000 in
theorem uw(l:Addr)(a8:Array Value)(n:Nat)(F:Option Addr) (G:Array (Option Value)) (k:Int) (tk:Tok) (I:Builtin.SmallTypes.fitsIndex k=true) :
  Meets (Builtin.«enumerate.__new__» ⟨[.type "enumerate",.ref l],[("start",.int k tk)]⟩) (fun _ R s=>s.heap.get? l=some { cls:=.type "list",dict:=F,data:=.seq a8 n,slots:=G }/\
   R (.ok (.ret (.ref ((s.heap.push { cls:=.type "list_iterator",data:=.fields #[.ref l,.int 0 0] }).objs.size))))
    { s with heap:=(s.heap.push { cls:=.type "list_iterator",data:=.fields #[.ref l,.int 0 0] }).push { cls:=.type "enumerate",data:=.fields #[.none,.bool false,.ref s.heap.objs.size,rawInt k,.none,.none] } }):=by
 refine .of_wp fun prog w A R s q=>?_;obtain⟨J,g,d,z,os⟩:=s;obtain⟨j,q⟩:=q;have es:=sub_enumerate;have B:Heap.IsList (Shared.heap ⟨J,g,d,z,os⟩) l a8:=⟨_,j,Z,n,Z⟩
 wp_walk using wpAny_loadPart' j
 refine wpAny_stack_any fun FC=>wpAny_pure ?_;split
 ·rename_i M _ _ _ _ _;cases (M==Value.type "enumerate")
  ·wp_walk using wpAny_loadPart' j,wpAny_pyIter_list B
   exact⟨_,Z,q⟩
  ·wp_walk using wpAny_loadPart' j,wpAny_pyIter_list B
   exact⟨_,Z,q⟩
 ·wp_walk using wpAny_loadPart' j,wpAny_pyIter_list B
  exact⟨_,Z,q⟩
theorem Draws.shift{prog:Program}{w:World}{A:Around}{it:Addr}{z:List Addr}{n:Nat}{P:Nat->Value->Prop}{St:Nat->Heap->Prop}(D:Draws prog w A it z n P St)(c:Nat) :
  Draws prog w A it z (n+c) (fun i x=>c<=i/\P (i-c) x) (fun i h=>c<=i/\St (i-c) h) where
 live:=fun i h st=>D.live _ h st.2
 frame:=fun i h h' st k=>⟨st.1,D.frame _ h h' st.2 k⟩
 item:=fun i s Q E hi st B=>D.item (i-c) s Q E (by have:=st.1;lia) st.2 fun x h' tk p j F=>B x h' tk ⟨st.1,p⟩ ⟨by have:=st.1;lia,by rw[show i+1-c=i-c+1 by have:=st.1;lia];exact j⟩ F
 done:=fun s Q E st G=>D.done s Q E (by have:=st.2;rw[Nat.add_sub_cancel]at this;exact this) G
end PySem
namespace L2
open PySem PySem.Spec PyProof.Rows
def rO(K:xz)(a:Addr)(c:Nat):It:=
 ⟨fun i H=>∃(xs:List V)(x:V),a' K H a xs/\xs[i]?=some x,fun i H v H'=>∃T x,v=.ref T/\H T=none/\H'=upd H T (.tup [.int ((i+c:Nat):Int),x])/\∀xs,a' K H a xs->xs[i]?=some x,fun i H=>∃xs:List V,a' K H a xs/\xs.length<=i⟩
theorem ko{P : Program}{w : World}{K : xz}{M : List Expr}{kk : Nat}{dD : Pos}(a e it : Addr)(c : Nat)(aa : a≠it)(ab : a≠e) :
    zg P w K (.Tuple M kk dD) (rO K a c) [e, it] e (fun i h => (∃B, IsEnum h e it ((i+c : Nat) : Int) B)/\h.IsListIter it a i/\e≠it) where
  mem := by simp
  obj := fun i h st b F => by
    obtain ⟨⟨B, G⟩, ⟨o, ho, hc, hd⟩, _⟩ := st; have e' : b=e\/b=it := by simpa using F
    rcases e' with z|z
    · grind
    · grind
  keep := fun i h h' st k => let ⟨⟨B, G⟩, hi, n⟩ := st; ⟨⟨B, k e We _ G⟩, hi.at fun o q => k it We o q, n⟩
  item := by
    intro X hP hw hK hc i pins s σ H E I hf st hg; subst hP hw hK; obtain ⟨⟨B, G⟩, J, n⟩ := st; obtain ⟨xs, x, hq, hx⟩ := hg; obtain ⟨a8, rv, p, hz⟩ := I.list hq; obtain ⟨u, hu, ru⟩ := rv.get hx; have ac : e<s.heap.objs.size := Wu G; have ao : it<s.heap.objs.size := by obtain ⟨_, q, _⟩ := J; exact Wu q
    have D := (Draws.list (prog := X.prog) (w := X.w) (A := X.A.in1) (I.ok.hd hc) it a aa a8.toArray).shift c; have ad : c<=i+c/\(s.heap.IsListIter it a (i+c-c)/\s.heap.IsList a a8.toArray) := ⟨by lia, by rw [Nat.add_sub_cancel]; exact J, p.isList⟩; have ak : i<a8.length := by rw [<- rv.length]; exact(List.getElem?_eq_some_iff.1 hx).1
    refine wpAny_pyNext_enum_itemD D (i := i+c) G ad (by rw [xQ]; lia) n (by simp only [GY, GF, Ws, not_or]; exact⟨n, fun z => ab z.symm⟩) fun y h' tk hy ho an hT hsz hk => ?_
    have af : y=u := by
      grind
    subst af; refine⟨_, rfl, wpAny_letOwnedTupleGo_enum (s := { s with heap := h', toks := tk+1 }) ho fun O aq sb => ?_⟩; have ag := (sb.2 s.heap.objs.size (G8 ac)).trans hT
    have ah : Zh X.prog X.w (upd H s.heap.objs.size (.tup [.int ((i+c : Nat) : Int), x])) O s.heap.objs.size (.tup [.int ((i+c : Nat) : Int), x]) :=
      ⟨by show 2<=sizeLine; decide, [.int ((i+c : Nat) : Int) tk, y], .cons ⟨_, rfl⟩ (.cons ru .nil), ⟨_, ag, rfl, _, rfl⟩⟩
    have I1 : Inv X pins σ (upd H s.heap.objs.size (.tup [.int ((i+c : Nat) : Int), x])) { s with heap := O, toks := tk+1 } :=
      I.dO (ch := [e, it]) (fun b ob F q => (sb.2 b (fun z => F (by simp [z]))).trans (hk b ob (fun z => F (by simp [z])) (fun z => F (by simp [z])) q)) hf (xM _) ah
    have U : h'.IsListIter it a (i+1) := by
      grind
    refine⟨.ref s.heap.objs.size, _, I1, rfl, ⟨_, x, rfl, I.bp.fresh (xM _), rfl, fun ys hy => by rw [I.cM hy hq]; exact hx⟩, ⟨⟨y, ?_⟩, U.at fun o q => (sb.2 it (Ne.symm n)).trans q, n⟩, fun b F => ?_⟩
    · lia
    · have ai : b<s.heap.objs.size := by
        have e' : b=e\/b=it := by simpa using F
        rcases e' with z|z
        · lia
        · lia
      rw [Qh (x3 ai)]; exact(hf b F).1
  done := by
    intro X hP hw hK hc i pins s σ H E I hf st hg; subst hP hw hK; obtain ⟨⟨B, G⟩, J, n⟩ := st; obtain ⟨xs, hq, hx⟩ := hg; obtain ⟨a8, rv, p, hz⟩ := I.list hq; obtain ⟨f0, f1, f2, f3, f4, f5⟩ := hf it We; have hl := rv.length; have aj : a8.toArray[i]? = none := by simp; lia
    have D : Draws X.prog X.w X.A.in1 it [it, a] i (fun _ _ => False) (fun j h => j=i/\h.IsListIter it a i/\h.IsList a a8.toArray) :=
      { live := fun _ _ st => let ⟨o, ho, _⟩ := st.2.1; ⟨o, ho⟩
        frame := fun _ _ _ st hk => ⟨st.1, st.2.1.at fun o z => hk it We o z, st.2.2.at fun o z => hk a We o z⟩
        item := fun j s Q E hj st _ => Wm st.1 L
        done := fun s Q E st hE => wpAny_nextOf_list_end (I.ok.hd hc) st.2.1 st.2.2 aj hE }
    exact wpAny_pyNext_enum_endD D G ⟨Z, J, p.isList⟩ fun h' eb => ⟨Z, I.turned (t' := s.toks) (fun b o F q => eb b o F q) f0 f1 f3 f4 f5⟩
  self := fun A i s Q E st h => let ⟨⟨_, G⟩, _⟩ := st; wpAny_pyIter_enum G h
theorem Jv{K:xz}{a:Addr}{c:Nat}{xs:List V}{p q:Nat}{tb:TS}{D:JD}{σ:St}{H:Hp}(j:Nat->St->Hp->Prop)(h0:j 0 σ H)(hl:∀i σ H,i<=xs.length->j i σ H->a' K H a xs)
  (I:∀i x σ H H',xs[i]?=some x->j i σ H->Qn H H'->tb { D with nx:=j (i+1),ct:=j (i+1),bk:=D.nx } ((σ.set p (some (.int ((i+c:Nat):Int)))).set q (some x)) H') (hd:∀σ H,j xs.length σ H->D.nx σ H) :
  ∃W:Nat->Nat->St->Hp->Prop,(∃m,W 0 m σ H)/\∀i m σ H,W i m σ H->
   ((rO K a c).stop i H/\D.nx σ H)\/((rO K a c).go i H/\∃N:St->Hp->Prop,(∀B H',N B H'->∃G,G<m/\W (i+1) G B H')/\∀x H',(rO K a c).yld i H x H'->yJ K 2 (Z4 (Zz p) (Z4 (Zz q) xc)) x σ H' fun J H2=>tb { D with nx:=N,ct:=N,bk:=D.nx } J H2):=by
 refine⟨fun i m σ H=>m=xs.length-i/\i<=xs.length/\j i σ H,⟨xs.length,by simp,x4 _,h0⟩,?_⟩;rintro i m σ H ⟨rfl,hi,pv⟩;have F:=hl i σ H hi pv;by_cases n:i<xs.length
 ·refine .inr ⟨⟨xs,xs[i],F,by simp[n]⟩,j (i+1),fun B H' M=>⟨xs.length-(i+1),by lia,Z,n,M⟩,fun x H' y=>?_⟩;obtain⟨T,z,rfl,O,rfl,y⟩:=y;refine⟨T,_,Z,bV.of Qe,Z,_,_,Z,_,_,Z,Z,?_⟩;exact I i z σ H _ (y xs F) pv fun b o e=>by rw[Qh (Qg e O)];exact e
 ·have e:i=xs.length:=by lia
  subst e;exact .inl ⟨⟨xs,F,xM _⟩,hd σ H pv⟩
end L2
namespace PySem
open PySem.F
theorem se(a:Value)(v:Value):checkTypeCall "enumerate" ⟨[a],[("start",v)]⟩=pure ():=by kernel_rfl
theorem pY(a:Value)(v:Value):checkBuiltinCall "enumerate.__new__" ⟨[.type "enumerate",a],[("start",v)]⟩=pure ():=by kernel_rfl
theorem sx(o a:Value)(v:Value):argsOk "object.__init__" ⟨[o,a],[("start",v)]⟩:=by kernel_rfl
theorem iM{prog:Program}{w:World}{A:Around}{E:Value->Shared->Prop}{s:Shared}{l:Addr}{j:Array Value}{Q:Value->Shared->Prop}{k:Int}{tk:Tok}(z:Builtin.SmallTypes.fitsIndex k=true)(U:s.heap.IsList l j)
  (h:∀h',IsEnum h' (s.heap.objs.size+1) s.heap.objs.size k .none->h'.IsListIter s.heap.objs.size l 0->(∀b o,s.heap.get? b=some o->h'.get? b=some o)->Q (.ref (s.heap.objs.size+1)) { s with heap:=h' }) :
  wpAny (model prog w) A (call (.type "enumerate") [.ref l] [("start",.int k tk)]) Q E s:=by
 obtain⟨⟨c,hW,dt,sl⟩,hl,B,n,G⟩:=U
 replace B:c=.type "list" := B
 replace G:dt=.seq j n:=G
 subst B G;refine oU F.called_enumerate Wa (se _ _) (pY _ _) (fun o=>sx o _ _) F.entry_enumerate_new (uw l j n hW sl k tk z) ⟨hl,?_⟩;show _/\_;generalize I:s.heap.push { cls:=.type "list_iterator",data:=.fields #[.ref l,.int 0 0] }=g;have hz:g.objs.size=s.heap.objs.size+1:=by rw[<-I];exact Ww ..
 have J:g.get? s.heap.objs.size=some { cls:=.type "list_iterator",data:=.fields #[.ref l,.int 0 0] }:=by rw[<-I];exact Wv _ rfl
 have M:∀b o,s.heap.get? b=some o->g.get? b=some o:=fun b o x=>by rw[<-I];exact Wt _ x
 have O:IsEnum (g.push { cls:=.type "enumerate",data:=.fields #[.none,.bool false,.ref s.heap.objs.size,rawInt k,.none,.none] }) (s.heap.objs.size+1) s.heap.objs.size k .none:=by have q:=Wv g (o:={ cls:=.type "enumerate",data:=.fields #[.none,.bool false,.ref s.heap.objs.size,rawInt k,.none,.none] }) rfl;lia
 rw[hz];exact⟨⟨_,O,Z⟩,h _ O ⟨_,Wt _ J,Z,Z⟩ fun b o x=>Wt _ (M b o x)⟩
theorem fF{M:Model}{A:Around}{E:Value->Shared->Prop}{s:Shared}{pos:Pos}{T:String} {args:List (Bool×Sem Value)} {vd:List (Option Str×Sem Value)} {Q:Value->Shared->Prop}
  (pl:(args.any (·.1)||vd.any (·.1.isNone))=false) (h:wpAny M A (evalArgs (.type T) true args vd) (fun a j=>wpAny M A (call (.type T) a.pos a.kw) Q E j) E s):wpAny M A (callWith pos (.type T) [] args vd) Q E s:=by
 unfold callWith;refine wpAny_bind (wpAny_holding (wpAny_mono h (fun a j h1=>wpAny_bind (wpAny_standAt ?_)) fun _ _ z=>z));simp only[pl];refine wpAny_bind (wpAny_pure ?_);exact wpAny_bind (wpAny_mono h1 (fun r n hr=>wpAny_bind (wpAny_holding (wpAny_point (wpAny_pure hr)))) fun _ _ z=>z)
end PySem
namespace L2
open PySem PySem.Spec PyProof.Rows
inductive my(K:xz)(R:It->Hp->Prop)(vs zs:List V)(H2:Hp):Prop
 |mk (a:Addr) (c:Nat) (xs:List V):vs=[.ref a]->zs=[.int (c:Int)]->c<65536->a' K H2 a xs->R (rO K a c) H2->my K R vs zs H2
def A7(K:xz)(ta tk:TA):TI:=fun σ H R=>ta σ H fun vs H1=>tk σ H1 (my K R vs)
theorem J9{X:Cx}{e M:Expr}{ta tk:TA}{p pos dD vl:Pos}{n:List Expr}{kk:Nat}(hg:Gl X "enumerate")(hm:X.mg "enumerate" = none)(ha:PA X [e] ta)(hk:PK X [⟨some "start",M,vl⟩] tk) (O:starEach [e] X.env=[(false,eval e X.env)]:=by rfl) :
  PI X (.Tuple n kk dD) (.Call (.Name "enumerate" p) [e] [⟨some "start",M,vl⟩] pos) (A7 X.K ta tk):=by
 intro pins s σ H R I h;refine wpAny_Call_Name_kw (X6 I hg hm boot_enumerate ?_);refine fF (by rw[O];rfl) (evalArgs_kw2 Wg (bx (ha pos pins s σ H _ I h) fun us s1 ⟨vs,H1,I1,r1,q1⟩=>?_) O);refine bx (hk pos pins s1 σ H1 _ I1 q1) fun ws j ⟨zs,H2,B,r2,q2⟩=>?_;obtain⟨a,c,xs,ex,ez,hc,hq,q⟩:=q2;subst ex ez;cases r1 with
 | cons r F=>
  cases F;cases r;cases r2 with
  | cons r' F=>
   cases F;obtain⟨t,rfl⟩:=r';obtain⟨a8,rv,U,hz⟩:=B.list hq;have la:a<j.heap.objs.size:=U.lt
   have G:Builtin.SmallTypes.fitsIndex (c:Int)=true:=by unfold Builtin.SmallTypes.fitsIndex;grind
   refine iM G U.isList fun h' he J hk=>wpAny_pyIter_enum he ?_;have I3:Inv X pins σ H2 { j with heap:=h' }:=B.kept (t':=j.toks) hk;refine⟨j.heap.objs.size+1,[j.heap.objs.size+1,j.heap.objs.size],_,_,H2,rfl,I3,ko a (j.heap.objs.size+1) j.heap.objs.size c (x3 la) (x3 (Vr la)),⟨⟨.none,by rw[U5];exact he⟩,J,Qa8 _⟩,fun b hb=>?_,q⟩;have e':b=j.heap.objs.size+1\/b=j.heap.objs.size:=by simpa using hb
   have z:j.heap.objs.size<=b:=by lia
   exact B.gF z (B.bp.fresh z)
end L2
namespace Gp
open PySem PySem.Spec PyProof.Rows L2
open Gla (Plan)
structure C4(S:Plan):Prop where
 w:16<=S.w/\S.w<=1048575
 h:16<=S.h/\S.h<=1048575
 siz:Ji S
 pts:4<=S.pts.length
 smm:∀m∈S.marks,Sm m.at_
theorem CY(h:JI b=none):C4 (U1 b):=by
 unfold JI at h;split at h
 ·cases h
 ·split at h
  ·cases h
  ·split at h
   ·cases h
   ·rename_i hf;rw[Uz] at hf
    have g:∀r∈cb,r.2.2.1<=xG b r.1 r.2.1/\xG b r.1 r.2.1<=r.2.2.2:=by intro r hr;have:=hf r hr;unfold zf at this;lia
    have g1:=g (4,4,16,1048575) (by simp[cb]);have j:=g (8,4,16,1048575) (by simp[cb]);have n:=g (12,2,4,4096) (by simp[cb]);have g4:=g (14,2,4,8192) (by simp[cb]);have g5:=g (16,2,1,2048) (by simp[cb]);simp only at g1 j n g4 g5;refine⟨g1,j,⟨?_,?_,?_⟩,?_,?_⟩
    ·show((xN _).map _).length<=_;grind
    ·show((xN _).map _).length<=_;grind
    ·show((xN _).map _).length<=_;grind
    ·show 4<=((xN _).map _).length;grind
    ·intro m z;obtain⟨i,_,rfl⟩:=List.mem_map.1 z;exact⟨EV _ _,EV _ _⟩
inductive uK(K:xz)(C:Addr)(vs:List V)(H:Hp)(Q:VK)(E:XK):Prop
 |mk (d:Addr) (S:Plan) (dx lp ll lm:Addr) (ap al am:List Addr):vs=[.ref d]->Dw K C H d S dx lp ll lm ap al am->C4 S->(∀H' v,Qn H H'->X9 H' v (qG S)->Q v H')->uK K C vs H Q E
def Jd(b:xA):Option (Nat×Nat):=match JI b with
 |some x=>some x
 |none=>qG (U1 b)
inductive Cz(K:xz) (f:xA->Option (Nat×Nat)) (vs:List V) (H:Hp) (Q:VK) (E:XK):Prop
 |mk (a t:Addr) (b:xA):vs=[.ref a,.ref t]->a' K H a (bl b)->bV K H t (Hb b)->qh b=none->b.length<=100000->(∀H' v,Qn H H'->X9 H' v (f b)->Q v H')->Cz K f vs H Q E
def rL (f:xA->Option (Nat×Nat)) (b:xA):Option (Nat×Nat):=match qh b with
 |some x=>some x
 |none=>f b
abbrev Kg:Stmt:=top 56
abbrev Ba:Stmt:=top 85
theorem ER:a7 ["octets","fault"] ["octets"] (a6 Kg):=.mk'
theorem x':a7 ["workshop","fault"] ["workshop"] (a6 Ba):=.mk'
theorem Ee(F:bF K "cartoon_fault" "cartoon_fault" Kg f fd) (G:bq P w K mg base 3 "head_fault_cartoon" ["octets"] (zK K JI)) (Dr:bq P w K mg base 3 "drawing_of" ["octets"] (ma K C))
  (I:bq P w K mg base 6 "drawing_fault" ["drawing"] (uK K C)):QC P w K mg base bB 7 f fd ["octets"] (zK K Jd):=by
 apply F.bL ER;rintro _ H Q E ⟨a,b,rfl,B,hl,k⟩;refine⟨Z,fun _ _ _ _ hr=>?_⟩
 refine⟨_,Qb (bz 1 ER.nd (Qr G (hr.mono Wa) (Qa (pv 0) Qc)))
  (Qb (QD (Q6 (ZV (pv 1))) (Qd (Qj (pv 1))) Qq)
  (Qd (Qj (Qr I (hr.mono Wa) (Qa (Qr Dr (hr.mono Wa) (Qa (pv 0) Qc)) Qc))))),?_⟩
 refine⟨_,Z,a,b,Z,B,hl,fun H1 v z j=>?_⟩;cases e:JI b with
 | some x=>
  rw[e]at j;obtain⟨q,rfl,J⟩:=j;refine⟨_,Z,_,Z,Qz (fun n=>?_) (fun n=>Wm We n)⟩;refine⟨_,Z,k H1 _ z ?_⟩;unfold Jd;rw[e];exact⟨q,Z,J⟩
 | none=>
  rw[e]at j;have M:v=.bP:=j;subst M;refine⟨_,Z,_,Z,Qz (fun n=>Wm n We) (fun n=>?_)⟩;refine⟨_,Z,a,b,Z,z.seq B,fun H2 d dx lp ll lm ap al am O D=>?_⟩;refine⟨d,_,dx,lp,ll,lm,ap,al,am,Z,D,CY e,fun U v s3 j=>k U v ((z.trans O).trans s3) ?_⟩;unfold Jd;rw[e];exact j
theorem CA {g:xA->Option (Nat×Nat)} (F:bF K "workshop_fault" "workshop_fault" Ba f fd) (I:bq P w K mg base 3 "head_fault_workshop" ["workshop"] (zK K qh)) (J:bq P w K mg base 2 "part_places" ["workshop"] (yV K))
  (M:bq P w K mg base 8 "parts_fault" ["workshop","places"] (Cz K g)):QC P w K mg base bB 9 f fd ["workshop"] (zK K (rL g)):=by
 apply F.bL x';rintro _ H Q E ⟨a,b,rfl,B,hl,k⟩;refine⟨Z,fun _ _ _ _ hr=>?_⟩
 refine⟨_,Qb (bz 1 x'.nd (Qr I (hr.mono Wa) (Qa (pv 0) Qc)))
  (Qb (QD (Q6 (ZV (pv 1))) (Qd (Qj (pv 1))) Qq)
  (Qd (Qj (Qr M (hr.mono Wa) (Qa (pv 0) (Qa (Qr J (hr.mono Wa) (Qa (pv 0) Qc)) Qc)))))),?_⟩
 refine⟨_,Z,a,b,Z,B,hl,fun H1 v z j=>?_⟩;cases e:qh b with
 | some x=>
  rw[e]at j;obtain⟨q,rfl,O⟩:=j;refine⟨_,Z,_,Z,Qz (fun n=>?_) (fun n=>Wm We n)⟩;refine⟨_,Z,k H1 _ z ?_⟩;unfold rL;rw[e];exact⟨q,Z,O⟩
 | none=>
  rw[e]at j;have U:v=.bP:=j;subst U;refine⟨_,Z,_,Z,Qz (fun n=>Wm n We) (fun n=>?_)⟩;refine⟨_,Z,_,Z,a,b,Z,z.seq B,fun H2 t G ht=>?_⟩;refine⟨a,t,b,Z,(z.trans G).seq B,bV.of ht,e,hl,fun H3 v s3 j=>k H3 v ((z.trans G).trans s3) ?_⟩;unfold rL;rw[e];exact j
open Gla (Pt Plan Mark)
theorem qi{S:Plan}{p:Nat}:∀{l:List (Plan->Option Nat)} {n i:Nat} {f:Plan->Option Nat},l[i]?=some f->f S=some p->(∀(j:Nat)(g:Plan->Option Nat),j<i->l[j]?=some g->g S=none)->X0 S n l=some (n+i,p)
 |[],_,_,_,h,_,_=>by simp at h
 | g::l,n,0,f,h,hf,_=>by
  have e:g=f:=by simpa using h
  subst e;simp[X0,hf]
 | g::l,n,i+1,f,h,hf,hb=>by
  have B:=hb 0 g L rfl;have:=qi (n:=n+1) (l:=l) (i:=i) (f:=f) (by simpa using h) hf (fun j g' F z=>hb (j+1) g' L (by simpa using z));simp only[X0,B,this];rw[show n+1+i=n+(i+1) by lia]
theorem qk{S:Plan}:∀{l:List (Plan->Option Nat)} {n:Nat},(∀(j:Nat)(g:Plan->Option Nat),l[j]?=some g->g S=none)->X0 S n l=none
 |[],_,_=>rfl
 | g::l,n,hb=>by
  have z:=hb 0 g rfl;simp only[X0,z];exact qk fun j g' B=>hb (j+1) g' (by simpa using B)
theorem iz{S:Plan}(O:C4 S)(j:YE S=none)(n:Yj S=none):nN S:=by
 obtain⟨z,B⟩:=Pl.bO (map_none j);obtain⟨F,I⟩:=Pl.bO (map_none n);refine⟨fun l hl=>by simpa using F l hl,O.siz,Pl.dm Pl.dR B,fun p G=>?_,O.smm⟩;have q:p.x<=S.w/\p.y<=S.h:=by simpa using z p G
 have:=O.w;have:=O.h;exact⟨by lia,by lia⟩
theorem fy{S:Plan}(z:Yj S=none):S.lines.Nodup:=by obtain⟨_,B⟩:=Pl.bO (map_none z);have st:=Pl.dm Pl.cV B;rw[List.nodup_iff_pairwise_ne,UV];intro i j hi F n e;have q:=st i j n F;rw[e]at q;unfold Uh at q;simp at q
theorem uJ{S:Plan}(O:C4 S)(j:YE S=none)(n:Yj S=none)(B:JF S=none)(F:YY S=none)(G:YX S=none)(I:YW S=none)(z:Z5 S=none):oW S:=
 have g:=vT O.w O.h j n B F G I z
 ⟨g.1,g.2,(iz O j n).sm,iz O j n⟩
theorem p5{S:Plan}(h:X4 S=none):∀m∈S.marks,U0 S m.at_=true:=by obtain⟨a,_⟩:=Pl.bO (map_none h);exact fun m j=>a m j
def K4(P:Program)(w:World)(K:xz)(mg:Str->Option Value)(base:Heap)(C:Addr)(S:Plan)(f:Addr)(pre:Prop)(r:Plan->Option Nat):Prop:=
 ∃(fd:FuncData)(k:Nat)(ok:Plan->Prop),k<=5/\GR K (.ref f)=true/\Xr K fd ["drawing"] []/\QC P w K mg base bB k f fd ["drawing"] (XR K C ok r)/\(pre->ok S)
abbrev HS:Stmt:=top 55
theorem uv:a7 ["drawing","checks","rule","check","place"] ["drawing"] (a6 HS):=.mk'
theorem Fx(F:bF K "drawing_fault" "drawing_fault" HS f fd)(U:Txt K mg) (c4:bq P w K mg base 2 "wrong_point" ["drawing"] (XR K C (fun _=>True) YE)) (c5:bq P w K mg base 3 "wrong_line" ["drawing"] (XR K C (fun _=>True) Yj))
  (c6:bq P w K mg base 5 "open_frame" ["drawing"] (XR K C (fun S=>C4 S/\nN S/\S.lines.Nodup) JF)) (c7:bq P w K mg base 5 "entangled_line" ["drawing"] (XR K C nN YY)) (c8:bq P w K mg base 2 "loose_point" ["drawing"] (XR K C (fun S=>X3 S/\Ji S) YX))
  (c9:bq P w K mg base 2 "unreached_point" ["drawing"] (XR K C FZ YW)) (aj:bq P w K mg base 2 "parting_point" ["drawing"] (XR K C FZ Z5)) (ak:bq P w K mg base 4 "wrong_mark" ["drawing"] (XR K C nN X4))
  (an:bq P w K mg base 5 "crowding_mark" ["drawing"] (XR K C (fun S=>oW S/\∀m∈S.marks,U0 S m.at_=true) YZ)) (ao:bq P w K mg base 5 "unmarked_pane" ["drawing"] (XR K C (fun S=>Pl.Good S) qy)) :
  QC P w K mg base bB 6 f fd ["drawing"] (uK K C):=by
 obtain⟨f4,aq,m4,k4,b4,F4⟩:=c4.ex;obtain⟨f5,au,m5,k5,b5,F5⟩:=c5.ex;obtain⟨f6,av,m6,k6,b6,F6⟩:=c6.ex;obtain⟨f7,aw,m7,k7,b7,F7⟩:=c7.ex;obtain⟨f8,ax,m8,k8,b8,F8⟩:=c8.ex;obtain⟨f9,ay,m9,k9,b9,F9⟩:=c9.ex;obtain⟨G,aa,vw,C5,az,aA⟩:=aj.ex;obtain⟨I,ab,AX,aB,aC,aD⟩:=ak.ex;obtain⟨J,ac,aE,aF,aG,aH⟩:=an.ex;obtain⟨M,ad,aI,aJ,aK,aM⟩:=ao.ex;apply F.bL uv;rintro _ H Q E ⟨d,S,dx,lp,ll,lm,ap,al,am,rfl,D,O,k⟩;refine⟨Z,fun _ _ _ _ hr=>?_⟩
 refine⟨_,Qb (bz 1 uv.nd (QU (Qa (Zo Z m4 (v:=.ref f4) Z) (Qa (Zo Z m5 (v:=.ref f5) Z) (Qa (Zo Z m6 (v:=.ref f6) Z) (Qa (Zo Z m7 (v:=.ref f7) Z) (Qa (Zo Z m8 (v:=.ref f8) Z)
   (Qa (Zo Z m9 (v:=.ref f9) Z) (Qa (Zo Z vw (v:=.ref G) Z) (Qa (Zo Z AX (v:=.ref I) Z) (Qa (Zo Z aE (v:=.ref J) Z) (Qa (Zo Z aI (v:=.ref M) Z) Qc))))))))))))
  (Qb (QL PassesOwn.never Z (J9 Z U.enum (Qa (pv 1) Qc) (zq Qi jS)) (ZF (n:=2) Z (QF (b0 2 uv.nd) (QF (b0 3 uv.nd) Zl)))
   (Qb (bz 4 uv.nd (rM 3 (Qa (pv 0) Qc)))
   (Qd (QD (Q6 (ZV (pv 4))) (Qd (Qj (Ze (Qa (pv 2) (Qa (pv 4) Qc))))) Qq))))
  (Qd (Qj QT))),?_⟩
 have af:∀(i:Nat)(x:V),[V.ref f4,.ref f5,.ref f6,.ref f7,.ref f8,.ref f9,.ref G,.ref I,.ref J,.ref M][i]?=some x->(∀j g,j<i->rules[j]?=some g->g S=none)->
   ∃g r,x=.ref g/\rules[i]?=some r/\K4 P w K mg base C S g True r:=by
  intro i x z B;have e4:0<i->YE S=none:=fun q=>B 0 _ q rfl;have e5:1<i->Yj S=none:=fun q=>B 1 _ q rfl;have e6:2<i->JF S=none:=fun q=>B 2 _ q rfl;have e7:3<i->YY S=none:=fun q=>B 3 _ q rfl;have e8:4<i->YX S=none:=fun q=>B 4 _ q rfl;have e9:5<i->YW S=none:=fun q=>B 5 _ q rfl;have aN:6<i->Z5 S=none:=fun q=>B 6 _ q rfl;have aO:7<i->X4 S=none:=fun q=>B 7 _ q rfl;have o5:1<i->nN S:=fun q=>iz O (e4 L) (e5 q);have ag:6<i->oW S:=fun q=>uJ O (e4 L) (e5 L) (e6 L) (e7 L) (e8 L) (e9 L) (aN q);have hp:=O.pts;match i,z with
  |0,z=>exact⟨f4,_,(Wo z).symm,Z,aq,2,_,by decide,k4,b4,F4,fun _=>trivial⟩
  |1,z=>exact⟨f5,_,(Wo z).symm,Z,au,3,_,by decide,k5,b5,F5,fun _=>trivial⟩
  |2,z=>exact⟨f6,_,(Wo z).symm,Z,av,5,_,by decide,k6,b6,F6,fun _=>⟨O,o5 Wa,fy (e5 Wa)⟩⟩
  |3,z=>exact⟨f7,_,(Wo z).symm,Z,aw,5,_,by decide,k7,b7,F7,fun _=>o5 Wa⟩
  |4,z=>exact⟨f8,_,(Wo z).symm,Z,ax,2,_,by decide,k8,b8,F8,fun _=>⟨(o5 Wa).cE,O.siz⟩⟩
  |5,z=>exact⟨f9,_,(Wo z).symm,Z,ay,2,_,by decide,k9,b9,F9,fun _=>⟨(o5 Wa).cE,O.siz,by lia⟩⟩
  |6,z=>exact⟨G,_,(Wo z).symm,Z,aa,2,_,by decide,C5,az,aA,fun _=>⟨(o5 Wa).cE,O.siz,by lia⟩⟩
  |7,z=>exact⟨I,_,(Wo z).symm,Z,ab,4,_,by decide,aB,aC,aD,fun _=>o5 Wa⟩
  |8,z=>exact⟨J,_,(Wo z).symm,Z,ac,5,_,by decide,aF,aG,aH,fun _=>⟨ag Wa,p5 (aO Wa)⟩⟩
  |9,z=>exact⟨M,_,(Wo z).symm,Z,ad,5,_,by decide,aJ,aK,aM,fun _=>(ag Wa).good⟩
  |n+10,z=>simp at z
 refine⟨(by show 10<=sizeLine;decide),fun l hl=>⟨_,Z,l,4,_,Z,Z,by decide,a'.of Qe,Jv (K:=K) (a:=l) (c:=4) (xs:=_) (fun i σ H'=>C7 fun(v2 v3 v4:Option V)=>Dd (σ=[some (.ref d),some (.ref l),v2,v3,v4]) (Qn H H') (H' l=some (.lst [V.ref f4,.ref f5,.ref f6,.ref f7,.ref f8,.ref f9,.ref G,.ref I,.ref J,.ref M])) (∀(j:Nat)(g:Plan->Option Nat),j<i->rules[j]?=some g->g S=none))
  ⟨none,none,none,Z,Qk _ hl,Qe,fun j g hj=>by lia⟩ (fun i σ H' _ ⟨_,_,_,_,_,h1,_⟩=>a'.of h1) ?_ ?_⟩⟩
 ·rintro i x σ H1 H2 z ⟨v2,v3,v4,rfl,s1,h1,B⟩ ah;obtain⟨g,r,rfl,aP,aQ,k',ok,aT,aR,aS,Fi,bp⟩:=af i x z B;have s2:=s1.trans ah;refine⟨g,aQ,["drawing"],k',_,Z,aR,aS,Fi,hr.mono L,_,Z,d,S,dx,lp,ll,lm,ap,al,am,Z,D.same s2,bp trivial,fun H3 ai=>?_⟩;have s3:=s2.trans ai;cases hc:r S with
  | some p=>
   refine⟨_,Z,_,Z,Qz (fun h3=>?_) (fun h3=>Wm (by simp[JC]) h3)⟩;refine⟨_,Z,_,Z,(by show 2<=sizeLine;decide),fun q hq=>k _ _ (s3.trans (Qk _ hq)) ?_⟩;have e:qG S=some (4+i,p):=qi aP hc B;rw[e];refine⟨q,Z,?_⟩;rw[Vj 4 i];exact Qe
  | none=>
   refine⟨_,Z,_,Z,Qz (fun h3=>Wm h3 (by simp[JC])) (fun h3=>?_)⟩;refine⟨_,_,_,Z,s3,ai _ _ (ah _ _ h1),fun j g' hj hg=>?_⟩;by_cases qq:j=i
   ·lia
   ·grind
 ·rintro σ H1 ⟨v2,v3,v4,rfl,s1,h1,B⟩
  have e:qG S=none:=qk fun j g hg=>B j g (by
   have:=(List.getElem?_eq_some_iff.1 hg).1;exact this) hg
  refine k _ _ s1 ?_;rw[e];rfl
def Xm(b:xA):Nat->List (xA->Option Nat)->Option (Nat×Nat)
 |_,[]=>none
 | n,f::r=>match f b with
  |some p=>some (n,p)
  |none=>Xm b (n+1) r
theorem qV{p:Nat}:∀{l:List (xA->Option Nat)} {n i:Nat} {f:xA->Option Nat},l[i]?=some f->f b=some p->(∀(j:Nat)(g:xA->Option Nat),j<i->l[j]?=some g->g b=none)->Xm b n l=some (n+i,p)
 |[],_,_,_,h,_,_=>by simp at h
 | g::l,n,0,f,h,hf,_=>by
  have e:g=f:=by simpa using h
  subst e;simp[Xm,hf]
 | g::l,n,i+1,f,h,hf,hb=>by
  have B:=hb 0 g L rfl;have:=qV (n:=n+1) (l:=l) (i:=i) (f:=f) (by simpa using h) hf (fun j g' F z=>hb (j+1) g' L (by simpa using z));simp only[Xm,B,this];rw[show n+1+i=n+(i+1) by lia]
theorem qW:∀{l:List (xA->Option Nat)} {n:Nat},(∀(j:Nat)(g:xA->Option Nat),l[j]?=some g->g b=none)->Xm b n l=none
 |[],_,_=>rfl
 | g::l,n,hb=>by
  have z:=hb 0 g rfl;simp only[Xm,z];exact qW fun j g' B=>hb (j+1) g' (by simpa using B)
def YS:List (xA->Option Nat):=[YV,YU,YT]
def QI(b:xA):xA:=(b.drop 80).take ((xE b).1-80)
def ZW(b:xA):Option (Nat×Nat):=match Jd (QI b) with
 |some f=>some (4,80+f.2)
 |none=>Xm b 5 YS
theorem nk(h:qh b=none):b.length=(xE b).2.2.2.2:=by unfold qh at h;lia
theorem fw(b:xA):X7 (bl b) (some 80) (some (((xE b).1:Nat):Int))=bl (QI b):=by have:=fZ (xs:=bl b) (p:=80) (q:=(xE b).1);rw[show((80:Nat):Int)=80 from Z]at this;rw[this];unfold QI bl;rw[Vo,V8]
inductive vZ(K:xz)(vs:List V)(H:Hp)(Q:VK)(E:XK):Prop
 |mk (a:Addr) (b:xA):vs=[.ref a]->a' K H a (bl b)->(∀H' l,Qn H H'->H' l=some (.lst (bl (QI b)))->Q (.ref l) H')->vZ K vs H Q E
abbrev Ia:Stmt:=top 76
theorem Kh:a7 ["workshop"] ["workshop"] (a6 Ia):=.mk'
abbrev Bu:Stmt:=top 84
theorem g0:a7 ["workshop","places","fault","rule","check","place"] ["workshop","places"] (a6 Bu):=.mk'
theorem Ek(F:bF K "cartoon_within" "cartoon_within" Ia f fd)(T:xr K mg) (B:bq P w K mg base 2 "part_places" ["workshop"] (yV K)):QC P w K mg base bB 3 f fd ["workshop"] (vZ K):=by apply F.bL Kh;rintro _ H Q E ⟨a,b,rfl,n,k⟩;refine⟨Z,fun _ _ _ _ hr=>?_⟩;refine⟨_,Qd (Qj (XF Ys (pv 0) (Xb (QP T.g80)) (Xb (Qy QO (Qr B hr (Qa (pv 0) Qc)) Qi (fun _ _=>rfl))))),?_⟩;refine⟨_,Z,_,Z,_,Z,a,b,Z,n,fun H1 t z G=>⟨t,_,_,_,Z,Z,bV.of G,Qm (j:=0) Z,_,Z,a,_,Z,z.seq n,fun l hl=>?_⟩⟩;rw[fw];exact k _ _ (z.trans (Qk _ hl)) Qe
theorem Cb(F:bF K "parts_fault" "parts_fault" Bu f fd)(T:xr K mg)(U:Txt K mg) (Cw:bq P w K mg base 3 "cartoon_within" ["workshop"] (vZ K)) (Cf:bq P w K mg base 7 "cartoon_fault" ["octets"] (zK K Jd)) (c5:bq P w K mg base 3 "wrong_sheet" ["workshop","places"] (qO K YV))
  (c6:bq P w K mg base 3 "wrong_kind" ["workshop","places"] (qO K YU)) (c7:bq P w K mg base 3 "wrong_painting" ["workshop","places"] (qO K YT)) :
  QC P w K mg base bB 8 f fd ["workshop","places"] (Cz K ZW):=by
 obtain⟨f5,ac,m5,k5,b5,F5⟩:=c5.ex;obtain⟨f6,ad,m6,k6,b6,F6⟩:=c6.ex;obtain⟨f7,af,m7,k7,b7,F7⟩:=c7.ex;apply F.bL g0;rintro _ H Q E ⟨a,t,b,rfl,hS,ht,hw,ag,k⟩;refine⟨Z,fun _ _ _ _ hr=>?_⟩
 refine⟨_,Qb (bz 2 g0.nd (Qr Cf hr (Qa (Qr Cw (hr.mono Wa) (Qa (pv 0) Qc)) Qc)))
  (Qb (QD (Q6 (ZV (pv 2))) (Qd (Qj (Ze (Qa Qi (Qa (QA QV (QP T.g80) (Qy QO (pv 2) Qi (fun _ _=>rfl))) Qc))))) Qq)
  (Qb (QL PassesOwn.never Z (J9 Z U.enum (Qa (QU (Qa (Zo Z m5 (v:=.ref f5) Z) (Qa (Zo Z m6 (v:=.ref f6) Z) (Qa (Zo Z m7 (v:=.ref f7) Z) Qc)))) Qc) (zq Qi jS))
    (ZF (n:=2) Z (QF (b0 3 g0.nd) (QF (b0 4 g0.nd) Zl)))
   (Qb (bz 5 g0.nd (rM 4 (Qa (pv 0) (Qa (pv 1) Qc))))
   (Qd (QD (Q6 (ZV (pv 5))) (Qd (Qj (Ze (Qa (pv 3) (Qa (pv 5) Qc))))) Qq))))
  (Qd (Qj QT)))),?_⟩
 have M:=nk hw
 have ah:(QI b).length<=100000:=by unfold QI;grind
 refine⟨_,Z,a,b,Z,hS,fun H0 l s0 hl=>?_⟩;refine⟨l,QI b,Z,a'.of hl,ah,fun H1 v ai J=>?_⟩;have s1:=s0.trans ai;cases e:Jd (QI b) with
 | some x=>
  rw[e]at J;obtain⟨q,rfl,hq⟩:=J;refine⟨_,Z,_,Z,Qz (fun B=>?_) (fun B=>Wm We B)⟩;refine⟨_,Z,q,_,_,_,Z,Z,bV.of hq,Qm (j:=1) Z,_,_,Z,Z,(by show 2<=sizeLine;decide),fun z hz=>k _ _ (s1.trans (Qk _ hz)) ?_⟩;unfold ZW;rw[e];exact⟨z,Z,Qe⟩
 | none=>
  rw[e]at J;have hv:v=.bP:=J;subst hv;refine⟨_,Z,_,Z,Qz (fun B=>Wm B We) (fun B=>?_)⟩;have aj:ZW b=Xm b 5 YS:=by unfold ZW;rw[e]
  rw[aj]at k
  have O:∀(i:Nat)(x:V),[V.ref f5,.ref f6,.ref f7][i]?=some x->∃g r I,x=.ref g/\YS[i]?=some r/\GR K (.ref g)=true/\Xr K I ["workshop","places"] []/\QC P w K mg base bB 3 g I ["workshop","places"] (qO K r):=by
   intro i x G;match i,G with
   |0,G=>exact⟨f5,_,ac,(Wo G).symm,Z,k5,b5,F5⟩
   |1,G=>exact⟨f6,_,ad,(Wo G).symm,Z,k6,b6,F6⟩
   |2,G=>exact⟨f7,_,af,(Wo G).symm,Z,k7,b7,F7⟩
   |n+3,G=>simp at G
  refine⟨(by show 3<=sizeLine;decide),fun l2 ak=>⟨l2,5,_,Z,Z,by decide,a'.of Qe,Jv (K:=K) (a:=l2) (c:=5) (xs:=_) (fun i σ H'=>C7 fun(v3 v4 v5:Option V)=>Dd (σ=[some (.ref a),some (.ref t),some .bP,v3,v4,v5]) (Qn H H') (H' l2=some (.lst [V.ref f5,.ref f6,.ref f7])) (∀(j:Nat)(g:xA->Option Nat),j<i->YS[j]?=some g->g b=none))
   ⟨none,none,none,Z,s1.trans (Qk _ ak),Qe,fun j g hj=>by lia⟩ (fun i σ H' _ ⟨_,_,_,_,_,h1,_⟩=>a'.of h1) ?_ ?_⟩⟩
  ·rintro i x σ H2 H3 G ⟨v3,v4,v5,rfl,s2,h1,J⟩ aa;obtain⟨g,r,I,rfl,an,ao,aq,Fi⟩:=O i x G;have s3:=s2.trans aa;refine⟨g,I,["workshop","places"],3,_,Z,ao,aq,Fi,hr.mono Wa,_,Z,_,Z,a,t,b,Z,s3.seq hS,Qn.tup s3 ht,M,ag,fun H4 ab=>?_⟩;have s4:=s3.trans ab;cases hc:r b with
   | some p=>
    refine⟨_,Z,_,Z,Qz (fun B=>?_) (fun B=>Wm (by simp[JC]) B)⟩;refine⟨_,Z,_,Z,(by show 2<=sizeLine;decide),fun q hq=>k _ _ (s4.trans (Qk _ hq)) ?_⟩;have e2:Xm b 5 YS=some (5+i,p):=qV an hc J;rw[e2];refine⟨q,Z,?_⟩;rw[Vj 5 i];exact Qe
   | none=>
    refine⟨_,Z,_,Z,Qz (fun B=>Wm B (by simp[JC])) (fun B=>?_)⟩;refine⟨_,_,_,Z,s4,ab _ _ (aa _ _ h1),fun j g' hj hg=>?_⟩;by_cases qq:j=i
    ·lia
    ·grind
  ·rintro σ H2 ⟨v3,v4,v5,rfl,s2,h1,J⟩
   have e2:Xm b 5 YS=none:=qW fun j g hg=>J j g (by
    have:=(List.getElem?_eq_some_iff.1 hg).1;exact this) hg
   refine k _ _ s2 ?_;rw[e2];rfl
theorem iq(b:xA):(Gb (fun(i:Nat) (x:Nat×Nat)=>!Gla.within x.1 x.2 (xG b (8+4*i) 4)) Qbz).map (fun i=>8+4*i)=eN b 0 wb:=by
 unfold Gb Qbz eN wb;have key:∀p lo hi,za b (p,lo,hi) 0=!(Gc lo hi (xG b p 4)):=fun p lo hi=>by rw[Y6,U5]
 simp only[List.zipIdx_cons,List.zipIdx_nil,UF,List.find?_nil,key];cases F:Gc 0 1000 (xG b 8 4)<;>simp[F];cases G:Gc 1 1000 (xG b 12 4)<;>simp[G];cases I:Gc 0 1000 (xG b 16 4)<;>simp[I];cases w4:Gc 1 1000 (xG b 20 4)<;>simp[w4];cases J:Gc 0 65535 (xG b 24 4)<;>simp[J];cases M:Gc 0 1000 (xG b 28 4)<;>simp[M];cases O:Gc 1 1000 (xG b 32 4)<;>simp[O];cases w8:Gc 1 16777215 (xG b 36 4)<;>simp[w8];cases U:Gc 0 65535 (xG b 40 4)<;>simp[U];cases j:Gc 0 65535 (xG b 44 4)<;>simp[j];cases n:Gc 0 65535 (xG b 48 4)<;>simp[n];cases z:Gc 1 255 (xG b 52 4)<;>simp[z];cases B:Gc 0 1024 (xG b 56 4)<;>simp[B];grind
def kS:Except Gla.Fault VZ->Option (Nat×Nat)
 |.error e=>some (e.rule,e.place)
 |.ok _=>none
theorem JX(b:xA):(b.drop VJ).take (xG b 4 4)=QI b:=by
 unfold QI
 have e:(xE b).1-80=xG b 4 4:=by show 80+xG b 4 4-80=_;lia
 rw[e];rfl
def fW(b:xA)(S:Plan):Except Gla.Fault VZ:=match Gb (fun(_:Nat) (s:Gla.Sheet)=>!s.ok) (Ui b S).sheets with
 |some i=>.error ⟨5,(xE b).1+16*i⟩
 | none=>match Gb (fun (_:Nat) (k:Vu)=>!k.ok) (Ui b S).kinds with
  |some i=>.error ⟨6,(xE b).2.1+8*i⟩
  | none=>match (xN (xG b 68 4)).findSome? fun (i:Nat)=>Vg (Ui b S).kinds b ((xE b).2.2.2.1+69*i) with
   |some p=>.error ⟨7,p⟩
   |none=>.ok (Ui b S)
theorem sX(b:xA)(S:Plan):kS (fW b S)=Xm b 5 YS:=by have j:YV b=(Gb (fun(_:Nat) (s:Gla.Sheet)=>!s.ok) (Ui b S).sheets).map fun i=>(xE b).1+16*i:=rfl;have n:YU b=(Gb (fun(_:Nat) (k:Vu)=>!k.ok) (Ui b S).kinds).map fun i=>(xE b).2.1+8*i:=rfl;have z:YT b=(xN (xG b 68 4)).findSome? fun(i:Nat)=>Vg (Ui b S).kinds b ((xE b).2.2.2.1+69*i):=rfl;unfold fW;simp only[YS,Xm];rw[j,n,z];generalize Gb (fun(_:Nat) (s:Gla.Sheet)=>!s.ok) (Ui b S).sheets=o5;generalize Gb (fun(_:Nat) (k:Vu)=>!k.ok) (Ui b S).kinds=o6;generalize ((xN (xG b 68 4)).findSome? fun(i:Nat)=>Vg (Ui b S).kinds b ((xE b).2.2.2.1+69*i))=o7;cases o5<;>cases o6<;>cases o7<;>rfl
theorem tS(b:xA):kS (match UO (QI b) with
  |.error e=>.error ⟨4,VJ+e.place⟩
  |.ok S=>fW b S)=ZW b:=by
 unfold ZW Jd;rw[j5,<-sh];have j:=sX b (U1 (QI b));generalize JI (QI b)=o;generalize (U1 (QI b)).fault=o2;cases o with
 |some f=>rfl
 | none=>cases o2 with
  |some e=>rfl
  |none=>exact j
theorem vb(b:xA):Qaa b=if b.length<VJ then .error ⟨1,b.length⟩ else if b.take 4≠G3 then .error ⟨1,0⟩
  else match Gb (fun(i:Nat) (x:Nat×Nat)=>!Gla.within x.1 x.2 (xG b (8+4*i) 4)) Qbz with
  |some i=>.error ⟨2,8+4*i⟩
  | none=>if b.length≠(xE b).2.2.2.2 then .error ⟨3,4⟩ else match UO ((b.drop VJ).take (xG b 4 4)) with
   |.error e=>.error ⟨4,VJ+e.place⟩
   |.ok S=>fW b S:=rfl
theorem j3(b:xA):kS (Qaa b)=rL ZW b:=by
 rw[vb,JX];have j:=iq b;have n:=tS b;unfold rL qh;rw[<-j];generalize Gb (fun(i:Nat) (x:Nat×Nat)=>!Gla.within x.1 x.2 (xG b (8+4*i) 4)) Qbz=o
 generalize (match UO (QI b) with
  |.error e=>.error ⟨4,VJ+e.place⟩
  |.ok S=>fW b S:Except Gla.Fault VZ)=pl at n
 generalize ZW b=pw at n;by_cases h1:b.length<80
 ·rw[Wi (show b.length<VJ from h1),Wi h1];rfl
 ·rw[Wh (show ¬ b.length<VJ from h1),Wh h1];by_cases h2:b.take 4≠G3
  ·rw[Wi h2,Wi h2];rfl
  ·rw[Wh h2,Wh h2];cases o with
   |some i=>rfl
   | none=>
    rw[Ux];dsimp only;by_cases z:b.length≠(xE b).2.2.2.2
    ·rw[Wi z,Wi z];rfl
    ·lia
end Gp
namespace L2
open PySem PySem.Spec PyProof.Rows
theorem lP{K:xz}{a b:Addr}{xs ys:List V}{p q n:Nat}{tb:TS}{D:JD}{σ:St}{H:Hp}(j:Nat->St->Hp->Prop)(hn:n=min xs.length ys.length)(h0:j 0 σ H)(hl:∀i σ H,i<=n->j i σ H->a' K H a xs/\a' K H b ys)
  (J:∀i x y σ H H',xs[i]?=some x->ys[i]?=some y->j i σ H->Qn H H'->tb { D with nx:=j (i+1),ct:=j (i+1),bk:=D.nx } ((σ.set p (some x)).set q (some y)) H') (hd:∀σ H,j n σ H->D.nx σ H) :
  ∃W:Nat->Nat->St->Hp->Prop,(∃m,W 0 m σ H)/\∀i m σ H,W i m σ H->
   ((Fs K a b).stop i H/\D.nx σ H)\/((Fs K a b).go i H/\∃N:St->Hp->Prop,(∀z H',N z H'->∃I,I<m/\W (i+1) I z H')/\∀x H',(Fs K a b).yld i H x H'->yJ K 2 (Z4 (Zz p) (Z4 (Zz q) xc)) x σ H' fun M H2=>tb { D with nx:=N,ct:=N,bk:=D.nx } M H2):=by
 refine⟨fun i m σ H=>m=n-i/\i<=n/\j i σ H,⟨n,by simp,x4 _,h0⟩,?_⟩;rintro i m σ H ⟨rfl,hi,pv⟩;obtain⟨B,F⟩:=hl i σ H hi pv;by_cases G:i<n
 ·have O:i<xs.length:=by lia
  have U:i<ys.length:=by lia
  refine .inr ⟨⟨xs,ys,xs[i],ys[i],B,F,by simp[O],by simp[U]⟩,j (i+1),fun z H' p'=>⟨n-(i+1),by lia,Z,G,p'⟩,fun x H' y=>?_⟩;obtain⟨T,z1,z2,rfl,hT,rfl,y1,y2⟩:=y;refine⟨T,_,Z,bV.of Qe,Z,_,_,Z,_,_,Z,Z,?_⟩;exact J i z1 z2 σ H _ (y1 xs B) (y2 ys F) pv fun c o e=>by rw[Qh (Qg e hT)];exact e
 ·have e:i=n:=by lia
  subst e;exact .inl ⟨⟨xs,ys,B,F,by lia⟩,hd σ H pv⟩
noncomputable def EB (h:Heap) (d:PyData) (u:Value):Bool:=@decide (∃e as,Reads h u e as/\e.canLay0=true/\PyData.eqv e d=true) (VM _)
theorem Cg{h:Heap}{d e:PyData}{u:Value}{as:List Addr}(r:Reads h u e as)(l:e.canLay0=true):EB h d u=PyData.eqv e d:=by
 unfold EB;cases q:PyData.eqv e d with
 |true=>exact @decide_eq_true _ (VM _) ⟨e,as,r,l,q⟩
 | false=>
  refine @decide_eq_false _ (VM _) ?_;rintro⟨z,j,B,F,n⟩;have:=SeqAt.Reads.unique e z u as j l r B;subst this;rw[q]at n;cases n
theorem mJ{A:Around}{s:Shared}{d:PyData}{v:Value}{bs:List Addr}(z:Reads s.heap v d bs)(B:d.canLay0=true)(F:A.units+d.depth<cLine):∀(ds:List PyData)(us:List Value)(as:List Addr),ReadsAll s.heap us ds as->PyData.canLayAll0 ds=true->
  (∀u∈us,SeqAt.EqAt A s u v (EB s.heap d u))/\us.any (EB s.heap d)=ds.any fun e=>PyData.eqv e d
 | [],us,_,h,_=>by
  cases h;exact⟨fun u G=>(by cases G),Z⟩
 | e::ds,us,_,h,l=>by
  cases h with
  | cons r rs=>
   have n:e.canLay0=true/\PyData.canLayAll0 ds=true:=by simpa [PyData.canLayAll0] using l
   obtain⟨i1,I⟩:=mJ z B F ds _ _ rs n.2;have q:=Cg (d:=d) r n.1;refine⟨fun u j=>?_,?_⟩
   ·rcases List.mem_cons.mp j with rfl | j
    ·rw[q];exact SeqAt.eqAt_reads e d A s _ _ _ _ r z n.1 B (by have:=V5 e.depth d.depth;lia)
    grind
   ·grind
inductive jR(K:xz)(x:V)(y:V)(H:Hp)(Q:VK):Prop
 |mk (p:_) (xs:_) (d:_) (ds:_):y=.ref p->a' K H p xs->Dp K H x d->qu K H xs ds->d.canLay0=true->d.depth<=8->PyData.canLayAll0 ds=true->(Q (.bl (!(ds.any fun e=>PyData.eqv e d))) H)->jR K x y H Q
theorem oB{X:Cx}(U:X.A.units+64<cLine):eC X (compareOp .NotIn) (jR X.K):=by intro pins s σ H x y v u Q I z B h;obtain⟨p,xs,d,ds,rfl,F,hd,j,G,dd,n,q⟩:=h;cases B;obtain⟨a8,r,pl,hz⟩:=I.list F;obtain⟨as,J⟩:=Dp.reads I d x v hd z;obtain⟨bs,M⟩:=Dp.readsAll I ds xs a8 j r;obtain⟨O,e2⟩:=mJ (A:=X.A.in1) J G (by show X.A.units+1+d.depth<cLine;lia) ds a8 bs M n;refine SeqAt.notIn_listAt (EB s.heap d) pl.isList (fun w hw=>O w (by simpa using hw)) ⟨.bl _,H,I,Z,?_⟩;grind
end L2
namespace Gp
open PySem PySem.Spec PyProof.Rows L2
open Gla (Pt Plan)
def tD(p:Nat×Nat):PyData:=.tuple [.int (p.1:Int),.int (p.2:Int)]
theorem BG(p q:Nat×Nat):PyData.eqv (tD p) (tD q)=decide (p=q):=by unfold tD;rw[PyData.eqv,PyData.eqvAll,PyData.eqvAll,PyData.eqvAll,PyData.eqv,PyData.eqv,Gz];grind
theorem ue(p:Nat×Nat):(tD p).canLay0=true:=by unfold tD;simp[PyData.canLay0,PyData.canLayAll0]
theorem rJ(p:Nat×Nat):(tD p).depth<=8:=by unfold tD;simp[PyData.depth,PyData.depthAll]
theorem yR:∀ps:List (Nat×Nat),PyData.canLayAll0 (ps.map tD)=true
 |[]=>rfl
 |p::ps=>by rw[xT,PyData.canLayAll0,ue,yR ps];rfl
theorem wQ{H:Hp}{p:Nat×Nat} (h:H a=some (.tup [.int (p.1:Int),.int (p.2:Int)])):Dp K H (.ref a) (tD p):=
 .tup (bV.of h) (.cons (.int _) (.cons (.int _) .nil))
theorem gR{H:Hp}:∀(as:List Addr) (ps:List (Nat×Nat)),as.length=ps.length->(∀(i:Nat)(a:Addr)(p:Nat×Nat),as[i]?=some a->ps[i]?=some p->H a=some (.tup [.int (p.1:Int),.int (p.2:Int)]))->qu K H (as.map V.ref) (ps.map tD)
 |[],[],_,_=>.nil
 |[],_::_,h,_=>by simp at h
 |_::_,[],h,_=>by simp at h
 |a::as,p::ps,h,k=>.cons (wQ (k 0 a p Z Z)) (gR as ps (by simpa using h) fun i a p h1 h2=>k (i+1) a p (by simpa using h1) (by simpa using h2))
def Xw(S:Plan):List (Nat×Nat):=[(0,0),(S.w,0),(0,S.h),(S.w,S.h)]
def qe(S:Plan)(c:Nat×Nat):Bool:=!((S.pts.map xy).any fun p=>decide (p=c))
abbrev Ha:Stmt:=top 26
inductive Bz(K:xz)(C:Addr)(vs:List V)(H:Hp)(Q:VK)(E:XK):Prop
 |mk (d:Addr) (S:Plan) (dx lp ll lm:Addr) (ap al am:List Addr):vs=[.ref d]->Dw K C H d S dx lp ll lm ap al am->(∀H',Qn H H'->Q (.bl ((Xw S).any (qe S))) H')->Bz K C vs H Q E
theorem vC:a7 ["drawing","corners","corner"] ["drawing"] (a6 Ha):=.mk'
theorem pb:bootBuiltins "any" = some (.builtin "any"):=by decide +kernel
theorem Ez(F:bF K "lacks_corner" "lacks_corner" Ha f fd)(T:Z9 K mg C)(U:Txt K mg):QC P w K mg base bB 4 f fd ["drawing"] (Bz K C):=by
 apply F.bL vC;rintro _ H Q E ⟨d,S,dx,lp,ll,lm,ap,al,am,rfl,D,k⟩;refine⟨Z,fun _ _ _ _ hr=>?_⟩
 refine⟨_,Qb (bz 1 vC.nd (QU (Qa (Ze (Qa Qi (Qa Qi Qc))) (Qa (Ze (Qa (Qw (pv 0) Z) (Qa Qi Qc))) (Qa (Ze (Qa Qi (Qa (Qw (pv 0) Z) Qc))) (Qa (Ze (Qa (Qw (pv 0) Z) (Qa (Qw (pv 0) Z) Qc))) Qc))))))
  (Qd (Qj (Qx (Aw Z) Wg U.any pb (Qa (qQ (own:=[("corner",2)]) (te:=pf (jR K) (ZH 2) (vu K (ZH 0) "points")) Z vC.nd (Q3 (pv 1)) (ZI (N:=["drawing","corners","corner"]) (sc:=a6 Ha) Wb) (fun _ _ _ _ _=>b0 2 vC.nd) (fun _ _ _ _ _=>Jm)
   (fun _ _ _ _ _=>by exact QM (oB hr.units) (pv 2) (Qw (pv 0) Z) (by with_unfolding_all rfl))) Qc)))),?_⟩
 refine⟨(by show 2<=sizeLine;decide),fun t1 aa=>?_⟩;have s1:=Qk (.tup [.int 0,.int 0]) aa;generalize e1:upd H t1 (.tup [.int 0,.int 0])=H1 at s1 ⊢;have g1:H1 t1=some (.tup [.int 0,.int 0]):=by rw[<-e1];exact Qe
 refine⟨_,Z,d,C,dx,_,_,Z,(D.same s1).ins,T.cl,T.nW,p6 _ _ _ _ _,(by show 2<=sizeLine;decide),fun G ab=>?_⟩;have O:=Qk (.tup [.int (S.w:Int),.int 0]) ab;have s2:=s1.trans O;generalize e2:upd H1 G (.tup [.int (S.w:Int),.int 0])=H2 at s2 O ⊢;have g2:H2 G=some (.tup [.int (S.w:Int),.int 0]):=by rw[<-e2];exact Qe
 refine⟨_,Z,d,C,dx,_,_,Z,(D.same s2).ins,T.cl,T.nH,t8 _ _ _ _ _,(by show 2<=sizeLine;decide),fun I ac=>?_⟩;have J:=Qk (.tup [.int 0,.int (S.h:Int)]) ac;have s3:=s2.trans J;generalize e3:upd H2 I (.tup [.int 0,.int (S.h:Int)])=H3 at s3 J ⊢;have g3:H3 I=some (.tup [.int 0,.int (S.h:Int)]):=by rw[<-e3];exact Qe
 refine⟨_,Z,d,C,dx,_,_,Z,(D.same s3).ins,T.cl,T.nW,p6 _ _ _ _ _,_,Z,d,C,dx,_,_,Z,(D.same s3).ins,T.cl,T.nH,t8 _ _ _ _ _,(by show 2<=sizeLine;decide),fun M ad=>?_⟩;have B:=Qk (.tup [.int (S.w:Int),.int (S.h:Int)]) ad;have s4:=s3.trans B;generalize e4:upd H3 M (.tup [.int (S.w:Int),.int (S.h:Int)])=H4 at s4 B ⊢;have g4:H4 M=some (.tup [.int (S.w:Int),.int (S.h:Int)]):=by rw[<-e4];exact Qe
 refine⟨(by show 4<=sizeLine;decide),fun l hl=>?_⟩;have j:=Qk (.lst [V.ref t1,.ref G,.ref I,.ref M]) hl;have s5:=s4.trans j;generalize e5:upd H4 l (.lst [V.ref t1,.ref G,.ref I,.ref M])=H5 at s5 j ⊢;have g5:H5 l=some (.lst [V.ref t1,.ref G,.ref I,.ref M]):=by rw[<-e5];exact Qe
 have a1:H5 t1=some (.tup [.int 0,.int 0]):=j _ _ (B _ _ (J _ _ (O _ _ g1)));have a2:H5 G=some (.tup [.int (S.w:Int),.int 0]):=j _ _ (B _ _ (J _ _ g2));have a3:H5 I=some (.tup [.int 0,.int (S.h:Int)]):=j _ _ (B _ _ g3);have a4:H5 M=some (.tup [.int (S.w:Int),.int (S.h:Int)]):=j _ _ g4
 have af:∀(i:Nat)(x:V),[V.ref t1,.ref G,.ref I,.ref M][i]?=some x->∃(a:Addr)(c:Nat×Nat),x=.ref a/\(Xw S)[i]?=some c/\H5 a=some (.tup [.int (c.1:Int),.int (c.2:Int)]):=by
  intro i x z;match i,z with
  |0,z=>exact⟨t1,_,(Wo z).symm,Z,a1⟩
  |1,z=>exact⟨G,_,(Wo z).symm,Z,a2⟩
  |2,z=>exact⟨I,_,(Wo z).symm,Z,a3⟩
  |3,z=>exact⟨M,_,(Wo z).symm,Z,a4⟩
  |n+4,z=>simp at z
 refine⟨_,Z,l,Z,⟨_,a'.of g5⟩,fun r Dc=>qd (K:=K) (a:=l) (xs:=[V.ref t1,.ref G,.ref I,.ref M]) (fun i H'=>Qn H5 H'/\H' r=some (.lst (((Xw S).take i).map fun c=>V.bl (qe S c))))
  ⟨Qk _ Dc,Qe⟩ (fun i H' _ ⟨s6,_⟩=>a'.of (s6 _ _ g5)) ?_ ?_⟩
 ·rintro i x H6 z ⟨s6,h6⟩;obtain⟨a,c,rfl,hc,ha⟩:=af i x z;have D6:=D.same (s5.trans s6);refine⟨Z,_,Z,_,Z,d,C,dx,_,_,Z,D6.ins,T.cl,T.nP,XJ _ _ _ _ _,lp,_,tD c,_,Z,D6.pts.lst,wQ (s6 _ _ ha),gR _ _ D6.pts.len D6.pts.at_,ue _,rJ _,yR _,?_⟩;refine⟨_,h6,?_,?_,?_⟩
  ·have:((Xw S).take i).length<=4:=by rw[Gk];show min i 4<=4;lia
   rw[xB];exact xV this Wa
  ·intro b o e;rw[Qh (Qg e Dc)];exact s6 _ _ e
  ·rw[Qe,Ug,hc,Gq]
   have:(!((S.pts.map xy).map tD).any fun e=>PyData.eqv e (tD c))=qe S c:=by unfold qe;rw[VN];congr 2;funext p;exact BG p c
   rw[this];rfl
 ·rintro H6 ⟨s6,h6⟩;refine⟨r,(Xw S).map (qe S),Z,a'.of (by rw[h6];simp[Xw]),?_⟩;have:=k H6 (s5.trans s6);rw[VN];exact this
end Gp
namespace PySem
open PySem.F
abbrev X8(h:Heap)(e j:Addr)(i:Int)(kept:Value)(a:Addr)(f:Bool):Prop:=
 h.get? e=some { cls:=.type "enumerate",dict:=none,data:=.fields #[rawInt a,.bool f,.ref j,rawInt i,.none,kept],slots:=#[] }
section
variable {prog:Program} {w:World} {A:Around} {E:Value->Shared->Prop} {s:Shared}
theorem rV{a:Addr}{o:Obj}{Q:Option Obj->Shared->Prop}(x:s.heap.get? a=some o) (q:Q (some o) s):wpAny (model prog w) A (loadIfAlive a) Q E s:=by
 have j:Q (s.heap.get? a) s:=by rw[x];exact q
 exact fun _ _ _=>j
theorem gd{e j l a:Addr}{f:Bool}{i:Nat}{a8:Array Value}{x kept:Value}{oa:Obj}{Q:Option Value->Shared->Prop}(xe:X8 s.heap e j i kept a f)(xa:s.heap.get? a=some oa)(aa:a≠e)(ab:a≠j)
  (xj:s.heap.IsListIter j l i) (xl:s.heap.IsList l a8) (xi:a8[i]?=some x) (J:e≠j)
  (q:∀ h',X8 h' e j ((i:Int)+1) kept a true->h'.IsListIter j l (i+1)->h'.get? s.heap.objs.size=some { cls:=.type "tuple",data:=.seq #[.int i s.toks,x] }->h'.objs.size=s.heap.objs.size+1->
   (∀b o,b≠e->b≠j->s.heap.get? b=some o->h'.get? b=some o)->Q (some (.ref s.heap.objs.size)) { s with heap:=h',toks:=s.toks+1 }) :
  wpAny (model prog w) A (pyNext (.ref e)) Q E s:=by
 obtain⟨G,z,B,n,F⟩:=s;have ty:Shared.TypeIs ⟨G,z,B,n,F⟩ (.ref e) "enumerate" := ⟨_,xe,Z⟩;unfold pyNext;refine wpAny_bind (wpAny_attempt (wpAny_callSpecial?_slot (name:=xC "__next__") ty slot_enumerate_next (wpAny_call_entry slot_enumerate_next ty entry_enumerate_next ?_ (args_enumerate_next_1 _))));show wpAny _ _ (field (.ref e) 2 >>= _) _ _ (Shared.mk G z B n F);refine wpAny_bind (wpAny_field xe Z (x:=.ref j) Z ?_);refine wpAny_bind (wpAny_nextOf_list_item xj xl xi fun O y1 U=>?_)
 replace U:Heap.SameBut j G O:=U
 have w1:X8 O e j i kept a f:=(U.2 e J).trans xe;show wpAny _ _ (field (.ref e) 3 >>= _) _ _ (Shared.mk O z B n F);refine wpAny_bind (wpAny_field w1 Z (x:=rawInt i) Z ?_);show wpAny _ _ (field (.ref e) 4 >>= _) _ _ (Shared.mk O z B n F);refine wpAny_bind (wpAny_field w1 Z (x:=.none) Z ?_);show wpAny _ _ (mkInt i >>= _) _ _ (Shared.mk O z B n F);refine wpAny_bind (wpAny_mkInt ?_);show wpAny _ _ (setField (.ref e) 3 (rawInt ((i:Int)+1)) >>= _) _ _ (Shared.mk O z B (n+1) F);refine wpAny_bind (wpAny_setField_rec w1 We fun p2 w2 z2=>?_)
 replace z2:Heap.SameBut e O p2:=z2
 replace w2:X8 p2 e j ((i:Int)+1) kept a f:=w2
 show wpAny _ _ (setField (.ref e) 4 .none >>= _) _ _ (Shared.mk p2 z B (n+1) F);refine wpAny_bind (wpAny_setField_rec w2 We fun p3 w3 z3=>?_)
 replace z3:Heap.SameBut e p2 p3:=z3
 replace w3:X8 p3 e j ((i:Int)+1) kept a f:=w3
 show wpAny _ _ (newTuple [.int i n,x] >>= _) _ _ (Shared.mk p3 z B (n+1) F);refine wpAny_bind (wpAny_newTuple ?_);have w4:X8 (p3.push { cls:=.type "tuple",data:=.seq #[.int i n,x] }) e j ((i:Int)+1) kept a f:=Wt _ w3;generalize eg:p3.push { cls:=.type "tuple",data:=.seq #[.int i n,x] }=p4 at w4;have sz:p3.objs.size=G.objs.size:=by rw[z3.1,z2.1,U.1]
 have el:e<G.objs.size:=Wu xe;have t4:p4.get? G.objs.size=some { cls:=.type "tuple",data:=.seq #[.int i n,x] }:=by rw[<-eg,<-sz];exact Wv _ rfl
 have n4:p4.objs.size=G.objs.size+1:=by rw[<-eg,Ww,sz]
 have k4:∀b o,b≠e->b≠j->G.get? b=some o->p4.get? b=some o:=fun b o be bj hb=>by
  rw[<-eg];exact Wt _ (z3.extBut b o be (z2.extBut b o be (U.extBut b o bj hb)))
 have y4:p4.IsListIter j l (i+1):=by rw[<-eg];obtain⟨o,ho,r⟩:=(y1.extBut z2.extBut J.symm).extBut z3.extBut J.symm;exact⟨o,Wt _ ho,r⟩
 show wpAny _ _ (Builtin.SmallTypes.ownedTupleIsFree (.ref e) >>= _) _ _ (Shared.mk p4 z B (n+1) F);rw[sz];clear eg w3 z3 w2 z2 w1 U y1 sz;have a4:p4.get? a=some oa:=k4 a oa aa ab xa;refine wpAny_bind ?_;unfold Builtin.SmallTypes.ownedTupleIsFree;refine wpAny_bind (wpAny_field w4 Z (x:=rawInt a) Z ?_);show wpAny _ _ (loadIfAlive ((a:Int).toNat) >>= _) _ _ (Shared.mk p4 z B (n+1) F);rw[Ub];refine wpAny_bind (rV a4 ?_);simp only[Option.isNone_some,G6,Wr];refine wpAny_bind (wpAny_field w4 Z (x:=.bool f) Z ?_)
 have fin:∀I:Heap,X8 I e j ((i:Int)+1) kept a true->Heap.SameBut e p4 I->Q (some (.ref G.objs.size)) (Shared.mk I z B (n+1) F):=fun I w5 M=>
  q I w5 (y4.extBut M.extBut J.symm) (M.extBut _ _ (G8 el) t4) (by show I.objs.size=G.objs.size+1;rw[M.1,n4]) fun b o be bj hb=>M.extBut b o be (k4 b o be bj hb)
 cases f with
 | true=>
  rw[Wh (show ¬((Value.bool true != Value.bool true)=true) from xX)];refine wpAny_pure ?_;simp only[G6,Wr];exact wpAny_pure ⟨_,Z,wpAny_pure (fin p4 w4 (Heap.SameBut.refl _ _))⟩
 | false=>
  rw[Wi (show(Value.bool false != Value.bool true)=true from Z)];refine wpAny_bind (wpAny_setField_rec w4 We fun I w5 M=>?_)
  replace M:Heap.SameBut e p4 I:=M
  replace w5:X8 I e j ((i:Int)+1) kept a true:=w5
  refine wpAny_pure ?_;simp only[G6,Wr];exact wpAny_pure ⟨_,Z,wpAny_pure (fin I w5 M)⟩
theorem iB{e j l a:Addr}{f:Bool}{i:Nat}{a8:Array Value}{kept:Value}{Q:Option Value->Shared->Prop}(n:A.handled=none)(xe:X8 s.heap e j i kept a f)(z:s.heap.IsListIter j l i)(B:s.heap.IsList l a8)(F:a8[i]?=none)
  (q:∀h',Heap.ExtBut j s.heap h'->Q none { s with heap:=h' }):wpAny (model prog w) A (pyNext (.ref e)) Q E s:=by
 have ty:s.TypeIs (.ref e) "enumerate" := ⟨_,xe,Z⟩;unfold pyNext;refine wpAny_bind (wpAny_attempt (wpAny_callSpecial?_slot (name:=xC "__next__") ty slot_enumerate_next (wpAny_call_entry slot_enumerate_next ty entry_enumerate_next ?_ (args_enumerate_next_1 _))));show wpAny _ _ (field (.ref e) 2 >>= _) _ _ s;refine wpAny_bind (wpAny_field xe Z (x:=.ref j) Z ?_);refine wpAny_bind (wpAny_nextOf_list_end n z B F fun M y G I=>?_);obtain⟨o,J,hc⟩:=I;exact wpAny_bind (wpAny_isInstance (T := "StopIteration") (b:=true) ⟨o,J,hc⟩ isSubtype_stop (wpAny_pure (q _ G)))
def yC(h:Heap)(e j S:Addr)(i:Nat):Prop:=(i=0/\∃n,IsEnum h e j 0 n)\/∃kept a f z,X8 h e j i kept a f/\h.get? a=some z/\a≠e/\a≠j/\a≠S
theorem yC.keep{h h':Heap}{e j S:Addr}{i:Nat}(x:yC h e j S i)(k:∀b o,b≠S->h.get? b=some o->h'.get? b=some o)(n:e≠S):yC h' e j S i:=by
 rcases x with⟨z,B,y⟩|⟨kept,a,f,G,y,I,J,M,F⟩
 ·exact .inl ⟨z,B,k _ _ n y⟩
 ·exact .inr ⟨kept,a,f,G,k _ _ n y,k _ _ F I,J,M,F⟩
structure zC(a8:Array Value)(lo:Addr)(h:Heap)(as:List Addr):Prop where
 rise:as.Pairwise (·<·)
 above:∀a∈as,lo<a
 at_:∀(m:Nat)(a:Addr),as[m]?=some a->∃t x,a8[m]?=some x/\h.get? a=some { cls:=.type "tuple",data:=.seq #[.int m t,x] }
end
section
variable {prog:Program} {w:World} {A:Around} {s:Shared} {R:Result->Shared->Prop} {a8:Array Value}
theorem gx{S e j l:Addr}(hh:A.handled=none)(n1:e≠S)(n2:j≠S)(n3:e≠j)(n4:l≠S)(n5:l≠e)(n6:l≠j)(lo:Addr)(l1:e<=lo)(l2:j<=lo)(l3:S<=lo)(sz:a8.size<=sizeLine)(B:Value){h0:Heap}
  (hR:∀ h' tk acc c as,(∀ b o,b≠S->b≠e->b≠j->h0.get? b=some o->h'.get? b=some o)->h'.get? S=some { cls:=.type "list",dict:=none,data:=.seq acc c,slots:=#[] }->as.length=a8.size->zC a8 lo h' as->
   acc.toList=as.map Value.ref->R (.ok (.ret B)) { s with heap:=h',toks:=tk }) :
  ∀(k i:Nat)(h:Heap)(tk c:Nat)(acc:Array Value)(as:List Addr),a8.size-i=k->i<=a8.size->yC h e j S i->h.IsListIter j l i->h.IsList l a8->(∀b o,b≠S->b≠e->b≠j->h0.get? b=some o->h.get? b=some o)->
   h.get? S=some { cls:=.type "list",dict:=none,data:=.seq acc c,slots:=#[] }->acc.toList=as.map Value.ref->as.length=i->zC a8 lo h as->lo<h.objs.size->
   codeAny (model prog w) A (.builtin "list.extend.loop" ⟨[.ref S,.ref e,B],[]⟩) R { s with heap:=h,toks:=tk }:=by
 intro k;induction k with
 | zero=>
  intro i h tk c acc as hk hi st M J keep hS ea O G U;have ie:i=a8.size:=by lia
  refine codeAny_builtin entry_extend_loop ?_;rw[Around.under_plainId plain_extend_loop _];show wpAny _ A.in1 (pyNext (.ref e) >>= _) _ _ _
  have fin:∀h',Heap.ExtBut j h h'->R (.ok (.ret B)) { s with heap:=h',toks:=tk }:=fun h' z=>by
   refine hR h' tk acc c as (fun b o b1 b2 b3 x=>z b o b3 (keep b o b1 b2 b3 x)) (z S _ n2.symm hS) L ⟨G.rise,G.above,fun m a n=>?_⟩ ea;obtain⟨t,x,x1,x2⟩:=G.at_ m a n;exact⟨t,x,x1,z a _ (G8 (xV l2 (G.above a (xZ n)))) x2⟩
  have none:a8[i]?=none:=VX L;rcases st with⟨z,ab,y⟩|⟨kept,a,f,oa,y,ya,_⟩
  ·subst z;exact wpAny_bind (wpAny_pyNext_enum_end (s:={ s with heap:=h,toks:=tk }) (A:=A.in1) hh y M J none fun h' z=>wpAny_pure (fin h' z))
  ·exact wpAny_bind (iB (s:={ s with heap:=h,toks:=tk }) (A:=A.in1) hh y M J none fun h' z=>wpAny_pure (fin h' z))
 | succ k ih=>
  intro i h tk c acc as hk hi st M J keep hS ea O G U;have lt:i<a8.size:=by lia
  have xi:a8[i]?=some a8[i]:=GV lt;have sa:acc.size=i:=by rw[<-VA,ea,xB,O]
  have eS:S<h.objs.size:=Wu hS;have le:e<h.objs.size:=xV l1 U;have lj:j<h.objs.size:=xV l2 U;refine codeAny_builtin entry_extend_loop ?_;rw[Around.under_plainId plain_extend_loop _];show wpAny _ A.in1 (pyNext (.ref e) >>= _) _ _ _
  have go:∀h',yC h' e j S (i+1)->h'.IsListIter j l (i+1)->h'.get? h.objs.size=some { cls:=.type "tuple",data:=.seq #[.int i tk,a8[i]] }->(∀b o,b≠e->b≠j->h.get? b=some o->h'.get? b=some o)->
    wpAny (model prog w) A.in1 (updateSeq S (·.push (Value.ref h.objs.size)) >>= fun _=>again (.builtin "list.extend.loop" ⟨[.ref S,.ref e,B],[]⟩))
     (fun fin s'=>match fin with|.done f=>R (.ok f) s' | .again c'=>c'.quiet=true/\codeAny (model prog w) A c' R s') (fun x s'=>R (.error x) s') { s with heap:=h',toks:=tk+1 }:=by
   intro h' ac ad ht kp;have aa:=kp S _ n1.symm n2.symm hS;have up:∀b o,b≠S->h'.get? b=some o->(h'.update S (Obj.mapSeq (·.push (Value.ref h.objs.size)))).get? b=some o:=fun b o nb x=>(Heap.get?_update_other _ _ nb.symm).trans x;refine wpAny_bind ?_
   refine wpAny_updateSeq aa Z (wpAny_pure ⟨plainId_quiet plain_extend_loop _,ih (i+1) _ (tk+1) _ (acc.push (Value.ref h.objs.size)) (as++[h.objs.size]) L lt (ac.keep up n1) (ad.at fun o x=>up j o n2 x) (J.at fun o x=>up l o n4 (kp l o n5 n6 x))
    (fun b o b1 b2 b3 x=>up b o b1 (kp b o b2 b3 (keep b o b1 b2 b3 x))) (Heap.get?_update_self _ aa Z) (by rw[Array.toList_push,ea,Gq];rfl) (by rw[xF,O];rfl) ⟨?_,?_,?_⟩ ?_⟩) (by rw[sa];lia) (by show(acc.push (Value.ref h.objs.size)).size<=sizeLine+1;rw[Array.size_push,sa];lia)
   ·refine List.pairwise_append.mpr ⟨G.rise,List.pairwise_singleton _ _,fun a F b I=>?_⟩;rw[List.mem_singleton.mp I];obtain⟨m,n⟩:=List.mem_iff_getElem?.mp F;obtain⟨_,_,_,x⟩:=G.at_ m a n;exact Wu x
   ·intro a F;rcases List.mem_append.mp F with F | F
    ·exact G.above a F
    ·rw[List.mem_singleton.mp F];exact U
   ·intro m b n;rcases Ut m as.length with z | z | z
    ·rw[GU z]at n;obtain⟨t,x,x1,x2⟩:=G.at_ m b n;have I:=G.above b (xZ n);exact⟨t,x,x1,up b _ (G8 (xV l3 I)) (kp b _ (G8 (xV l1 I)) (G8 (xV l2 I)) x2)⟩
    ·subst z;have I:h.objs.size=b:=by simpa using n
     subst I;exact⟨tk,a8[i],by rw[O];exact xi,up _ _ (G8 eS) (by rw[O];exact ht)⟩
    ·have no:(as++[h.objs.size])[m]?=none:=Ud (by rw[xF,G0];lia);rw[no]at n;cases n
   ·have x:(h'.update S (Obj.mapSeq (·.push (Value.ref h.objs.size)))).get? h.objs.size=_:=up _ _ (G8 eS) ht;exact Qal U (Wu x)
  rcases st with⟨z,ab,y⟩|⟨kept,a,f,oa,y,ya,m1,m2,m3⟩
  ·subst z;refine wpAny_bind (wpAny_pyNext_enum_item (s:={ s with heap:=h,toks:=tk }) y M J xi n3 fun h' y1 y2 y3 y4 y5=>?_);exact go h' (.inr ⟨_,_,false,_,y1,y3,G8 le,G8 lj,G8 eS⟩) y2 y3 y5
  ·refine wpAny_bind (gd (s:={ s with heap:=h,toks:=tk }) y ya m1 m2 M J xi n3 fun h' y1 y2 y3 y4 y5=>?_);exact go h' (.inr ⟨kept,a,true,oa,y1,y5 a oa m1 m2 ya,m1,m2,m3⟩) y2 y3 y5
end
theorem eX:typeLookup (.type "enumerate") "__len__" = pure none:=by rw[typeLookup_type,builtinLookup_eq_fast];kernel_rfl
theorem xh:typeLookup (.type "enumerate") "__length_hint__" = pure none:=by rw[typeLookup_type,builtinLookup_eq_fast];kernel_rfl
section
variable {prog:Program} {w:World} {A:Around} {E:Value->Shared->Prop} {s:Shared} {a8:Array Value}
theorem yK{R:Result->Shared->Prop}{S e j l:Addr}{z:Value}(hh:A.handled=none)(xe:IsEnum s.heap e j 0 z)(xj:s.heap.IsListIter j l 0)(xl:s.heap.IsList l a8)(B:e≠S)(J:j≠S)(n3:e≠j)(M:l≠S)(n5:l≠e)(n6:l≠j)(lo:Addr)(l1:e<=lo)(l2:j<=lo)(l3:S<=lo)(l4:lo<s.heap.objs.size)
  (n:Value) (c0:Nat) (O:s.heap.get? S=some { cls:=.type "list",data:=.seq #[] c0 }) (sz:a8.size<=sizeLine)
  (hR:∀ h' tk acc c as,(∀ b o,b≠S->b≠e->b≠j->s.heap.get? b=some o->h'.get? b=some o)->h'.get? S=some { cls:=.type "list",dict:=none,data:=.seq acc c,slots:=#[] }->as.length=a8.size->zC a8 lo h' as->
   acc.toList=as.map Value.ref->R (.ok (.ret n)) { s with heap:=h',toks:=tk }) :
  wpAny (model prog w) A.in1 (Builtin.List.listExtendWith (.ref S) (.ref e) n)
   (fun fin s'=>match fin with|.done f=>R (.ok f) s' | .again U=>U.quiet=true/\codeAny (model prog w) A U R s') (fun x s'=>R (.error x) s') s:=by
 have ty:s.TypeIs (.ref e) "enumerate" := ⟨_,xe,Z⟩
 have key:∀(h:Heap)(F tk:Nat),(∀b o,b≠S->s.heap.get? b=some o->h.get? b=some o)->h.get? S=some { cls:=.type "list",data:=.seq #[] F }->lo<h.objs.size->codeAny (model prog w) A (.builtin "list.extend.loop" ⟨[.ref S,.ref e,n],[]⟩) R { s with heap:=h,toks:=tk }:=by
  intro h F tk hk G I
  exact gx (s:=s) (h0:=s.heap) hh B J n3 M n5 n6 lo l1 l2 l3 sz n hR a8.size 0 h tk F #[] [] (Nat.sub_zero _) (x4 _) (.inl ⟨Z,z,hk _ _ B xe⟩) (xj.at fun o x=>hk j o J x) (xl.at fun o x=>hk l o M x) (fun b o b1 _ _ x=>hk b o b1 x) G Z rfl
   ⟨List.Pairwise.nil,(fun _ ha=>nomatch ha),(fun m a hm=>by simp at hm)⟩ I
 unfold Builtin.List.listExtendWith;refine wpAny_bind (wpAny_typeOf ty ?_);have r1:Builtin.List.listSameRef (.ref S) (.ref e)=false:=by simp[Builtin.List.listSameRef,B.symm]
 have r2:(Value.type "enumerate" == Value.type "list")=false:=by decide
 have r3:(Value.type "enumerate" == Value.type "tuple")=false:=by decide
 simp only[r1,r2,r3,Bool.or_false,G6,Wr];refine wpAny_bind (wpAny_pyIter_enum xe ?_);refine wpAny_bind (wpAny_holding ?_);unfold Builtin.List.listLengthHint;refine wpAny_bind (wpAny_specialOf ty eX ?_);show wpAny _ A.in1 (specialOf (Value.ref e) (xC "__length_hint__") >>= _) _ _ _;refine wpAny_bind (wpAny_specialOf ty xh ?_);refine wpAny_pure ?_;show wpAny _ A.in1 (rule "list.extend.makes-room" >>= fun _=>Builtin.List.listTouch (.ref S) >>= fun _=>again (.builtin "list.extend.loop" ⟨[.ref S,.ref e,n],[]⟩)) _ _ _;refine wpAny_bind (wpAny_rule ?_);refine wpAny_bind ?_;show wpAny _ A.in1 (updateSeq S (·.push .none) >>= fun _=>updateSeq S (·.pop)) _ _ s;refine wpAny_bind (wpAny_updateSeq O Z ?_);have g2:=Heap.get?_update_self (Obj.mapSeq (·.push Value.none)) O rfl;refine wpAny_updateSeq (hz:=by seq_fits) g2 Z ?_;have g3:=Heap.get?_update_self (Obj.mapSeq (·.pop)) g2 rfl;refine wpAny_pure ⟨plainId_quiet plain_extend_loop _,key _ _ _ (fun b o nb x=>?_) g3 ?_⟩
 ·exact(Heap.get?_update_other _ _ nb.symm).trans ((Heap.get?_update_other _ _ nb.symm).trans x)
 ·obtain⟨oe,aa⟩:∃o,s.heap.get? e=some o:=⟨_,xe⟩;simpa [Heap.size_update] using l4
theorem fM{e j l:Addr}{B:Value}{Q:Value->Shared->Prop}(hh:A.handled=none)(xe:IsEnum s.heap e j 0 B)(M:s.heap.IsListIter j l 0)(O:s.heap.IsList l a8)(n3:e≠j)(n5:l≠e)(n6:l≠j)(sz:a8.size<=sizeLine)
  (hQ:∀ h' tk acc c as,(∀ b o,b≠e->b≠j->s.heap.get? b=some o->h'.get? b=some o)->h'.get? s.heap.objs.size=some { cls:=.type "list",dict:=none,data:=.seq acc c,slots:=#[] }->as.length=a8.size->zC a8 s.heap.objs.size h' as->
   acc.toList=as.map Value.ref->Q (.ref s.heap.objs.size) { s with heap:=h',toks:=tk }) :
  wpAny (model prog w) A (call (.type "list") [.ref e]) Q E s:=by
 have le:e<s.heap.objs.size:=Wu xe;have F:j<s.heap.objs.size:=by obtain⟨_,x,_⟩:=M;exact Wu x
 have ll:l<s.heap.objs.size:=by obtain⟨_,x,_⟩:=O;exact Wu x
 refine callType_codes (Q₁:=fun z U=>z=.ref s.heap.objs.size/\U={ s with heap:=s.heap.push { cls:=.type "list",data:=.seq #[] } }) called_list (typeCall_list_1 _) entry_list_init (code_list_new _ ⟨rfl,rfl⟩) fun z U vf=>?_;obtain⟨rfl,rfl⟩:=vf;generalize n:s.heap.objs.size=S at *;have g1:(s.heap.push { cls:=.type "list",data:=.seq #[] }).get? S=some { cls:=.type "list",data:=.seq #[] }:=by rw[<-n];exact Wv _ rfl
 have up:∀b o,s.heap.get? b=some o->(s.heap.push { cls:=.type "list",data:=.seq #[] }).get? b=some o:=fun b o x=>Wt _ x;have zs:(s.heap.push { cls:=.type "list",data:=.seq #[] }).objs.size=S+1:=by rw[Ww,n]
 generalize s.heap.push { cls:=.type "list",data:=.seq #[] }=hp at *;refine⟨⟨_,g1,Z⟩,args_list_init_2 _ _,?_⟩;show wpAny _ A.in1.in1 (do let I <- Builtin.List.listItems (.ref S);Builtin.List.listUpdate (.ref S) (fun _=>#[]);letGo I.toList.reverse;Builtin.List.listExtendWith (.ref S) (.ref e) .none) _ _ _;refine wpAny_bind ?_;unfold Builtin.List.listItems;refine wpAny_bind (wpAny_seqItems g1 Z (wpAny_pure ?_));show wpAny _ A.in1.in1 (updateSeq S (fun _=>#[]) >>= fun _=>letGo (#[]:Array Value).toList.reverse >>= fun _=>Builtin.List.listExtendWith (.ref S) (.ref e) .none) _ _ _;refine wpAny_bind (wpAny_updateSeq g1 Z ?_);have g2:=Heap.get?_update_self (Obj.mapSeq (fun _=>(#[]:Array Value))) g1 rfl;have k2:∀b o,b≠S->hp.get? b=some o->(hp.update S (Obj.mapSeq (fun _=>(#[]:Array Value)))).get? b=some o:=fun b o nb x=>(Heap.get?_update_other _ _ nb.symm).trans x;refine wpAny_bind (wpAny_letGo ?_);refine yK (A:=A.in1) hh (k2 _ _ (x3 le) (up _ _ xe)) (M.at fun o x=>k2 _ _ (x3 F) (up _ _ x)) (O.at fun o x=>k2 _ _ (x3 ll) (up _ _ x)) (x3 le) (x3 F) n3 (x3 ll) n5 n6 S (VR le) (VR F) (xM _) ?_ .none _ g2 sz ?_
 ·simp[Heap.size_update,zs]
 ·intro h' tk acc c as kp J hl G ha;exact⟨Z,hQ h' tk acc c as (fun b o b1 b2 x=>kp b o (x3 (n▸Wu x)) b1 b2 (k2 _ _ (x3 (n▸Wu x)) (up _ _ x))) J hl G ha⟩
end
end PySem
namespace L2
open PySem PySem.Spec PyProof.Rows
theorem Inv.grow{X:Cx} {pins:List (Addr×Obj)} {σ:St} {H H':Hp} {s:Shared} {h':Heap} {t':Nat} (I:Inv X pins σ H s) (k:∀b u,s.heap.get? b=some u->h'.get? b=some u) (same:∀b,b<s.heap.objs.size->H' b=H b)
  (B:∀b o,s.heap.objs.size<=b->H' b=some o->Zh X.prog X.w H' h' b o):Inv X pins σ H' { s with heap:=h',toks:=t' }:=by
 have fr:∀b,s.heap.objs.size<=b->H b=none:=fun b F=>I.bp.fresh F
 have j:∀b o,H b=some o->H' b=some o:=fun b o e=>by
  grind
 refine I.un ⟨fun b u q _ _ _=>k b u q,fun b u q _ _ _=>⟨u.slots,k b u q⟩,fun b u q n _=>?_,fun b u q _=>⟨u,k b u q⟩,fun b xs q=>j b _ q,fun b u xs q=>j b _ q,fun b ps q=>⟨#[],by rw[j b _ q];simp⟩⟩ fun b o e=>?_
 ·rw[same b (Wu q)];exact n
 ·rcases Uk b s.heap.objs.size with z | z
  ·rw[same b z]at e;exact(I.bp b o e).gG (fun c v _ q=>k c v q) (fun c q=>j c _ q) fun c xs q=>j c _ q
  grind
def yF(H:Hp)(l:Addr)(as:List Addr)(xs:List V):Hp:=fun b=>if b=l then some (.lst (as.map V.ref)) else if b∈as then some (.tup [.int ((as.idxOf b:Nat):Int),(xs[as.idxOf b]?).getD .bP]) else H b
def K'(K:xz)(ta:TA):TE:=fun σ H Q=>ta σ H fun vs H1=>∃(a:Addr)(xs:List V),vs=[.ref a]/\a' K H1 a xs/\∀(l:Addr)(as:List Addr)(H2:Hp),Qn H1 H2->H1 l=none->H2 l=some (.lst (as.map V.ref))->as.length=xs.length->
 (∀(i:Nat)(c:Addr)(x:V),as[i]?=some c->xs[i]?=some x->H2 c=some (.tup [.int (i:Int),x]))->Q (.ref l) H2
theorem Jj:∀as:List Addr,QH (as.map V.ref) (as.map Value.ref)
 |[]=>.nil
 |a::as=>.cons Z (Jj as)
theorem iY:bootBuiltins "list" = some (.type "list"):=by decide +kernel
theorem gg{X:Cx}{e:Expr}{ta:TA}{p O pos pos':Pos}(hc:X.calm=true)(U:Gl X "list")(aa:X.mg "list" = none)(ab:Gl X "enumerate")(ac:X.mg "enumerate" = none)(ha:PA X [e] ta) (hs:starEach [e] X.env=[(false,eval e X.env)]:=by rfl)
  (J:starEach [.Call (.Name "enumerate" O) [e] [] pos'] X.env=[(false,eval (.Call (.Name "enumerate" O) [e] [] pos') X.env)]:=by rfl):PE X (.Call (.Name "list" p) [.Call (.Name "enumerate" O) [e] [] pos'] [] pos) (K' X.K ta):=by
 intro pins s σ H Q I h;refine wpAny_Call_Name_kw (X6 I U aa iY ?_);refine callWith_type1 ?_ (by exact J) rfl;rw[J];refine Calls.spliced_cons ?_;refine Call_ (X6 I ab ac boot_enumerate (callWith_type1 (bx (ha pos' pins s σ H _ I h) fun us F ⟨vs,H1,M,r1,q1⟩=>?_) hs Z));obtain⟨a,xs,ex,hq,q⟩:=q1;subst ex;cases r1 with
 | cons r rr=>
  cases rr;cases r;obtain⟨a8,rv,pl,hz⟩:=M.list hq;have la:a<F.heap.objs.size:=pl.lt;have hl:=rv.length;refine call_enumerate_list pl.isList fun h' he ad hsz hk=>?_;refine Calls.spliced_nil ?_;refine fM (s:={ F with heap:=h' }) (I.ok.hd hc) he ad (pl.isList.at fun o x=>hk _ _ x) (Qa8 _) (x3 (Vr la)) (x3 la) (by simp only[xQ];lia) fun h2 tk acc c as kp hS j G n=>?_;dsimp only at kp hS j G n ⊢;have nd:as.Nodup:=G.rise.imp fun z=>x3 z;have lS:F.heap.objs.size<h'.objs.size:=by rw[hsz];lia
  have hi:∀a∈as,F.heap.objs.size<a:=fun a m=>Qal lS (G.above a m);have nS:h'.objs.size∉as:=fun m=>Uq _ (G.above _ m);have nl:as.length=xs.length:=by rw[j,xQ,hl]
  have at_:∀(i:Nat)(c:Addr)(x:V),as[i]?=some c->xs[i]?=some x->yF H1 h'.objs.size as xs c=some (.tup [.int (i:Int),x]):=fun i c x hc hx=>by
   have m:c∈as:=xZ hc;unfold yF;grind
  refine⟨.ref _,yF H1 h'.objs.size as xs,?_,Z,q h'.objs.size as _ ?_ (M.bp.fresh (VR lS)) ?_ nl at_⟩
  ·have G2:=M.grow (H':=yF H1 h'.objs.size as xs) (h':=h2) (t':=tk) (fun b u e=>?_) (fun b hb=>?_) (fun b o hb e=>?_)
   ·exact G2
   ·have:=Wu e;grind
   ·unfold yF;grind
   ·by_cases z:b=h'.objs.size
    ·subst z;have e2:yF H1 h'.objs.size as xs h'.objs.size=some (.lst (as.map V.ref)):=by unfold yF;rw[Wi Z]
     rw[e2]at e;cases e;refine⟨by rw[xB];lia,as.map Value.ref,c,Jj as,?_⟩;rw[hS,<-n]
    ·by_cases m:b∈as
     ·obtain⟨i,B⟩:=List.mem_iff_getElem?.mp m;obtain⟨t,v,hv,hg⟩:=G.at_ i b B;have li:i<xs.length:=by rw[<-nl];exact (List.getElem?_eq_some_iff.1 B).1
      have ex:xs[i]?=some xs[i]:=xD li;rw[at_ i b _ B ex]at e;cases e;obtain⟨u,hu,ru⟩:=rv.get ex
      have:v=u:=by grind
      subst this;exact⟨by show 2<=sizeLine;decide,[.int i t,v],.cons ⟨t,Z⟩ (.cons ru .nil),⟨_,hg,Z,_,Z⟩⟩
     ·unfold yF at e;rw[Wh z,Wh m,M.bp.fresh hb]at e;cases e
  ·intro b o e
   have lb:b<F.heap.objs.size:=by
    rcases Uk b F.heap.objs.size with z|z
    ·exact z
    ·rw[M.bp.fresh z]at e;cases e
   unfold yF;grind
  ·unfold yF;rw[Wi Z]
end L2
namespace Gp
open PySem PySem.Spec PyProof.Rows L2
open Gla (Pt Plan)
def ze(S:Plan)(on:Pt->Bool)(n:Nat):List Nat:=(xN n).filter fun i=>on (S.pt i)
theorem pO(S:Plan)(on:Pt->Bool):ze S on S.pts.length=Gm S on:=rfl
theorem jn(S:Plan)(on:Pt->Bool)(n:Nat):ze S on (n+1)=ze S on n++(if on (S.pt n)=true then [n] else []):=by unfold ze;rw[UY,Qan];grind
theorem tR(S:Plan)(on:Pt->Bool)(n:Nat):(ze S on n).length<=n:=by have:=List.length_filter_le (fun i=>on (S.pt i)) (xN n);rw[U4]at this;exact this
structure Et(H:Hp)(q:Addr)(as ap:List Addr):Prop where
 lst:H q=some (.lst (as.map V.ref))
 len:as.length=ap.length
 at_:∀(i:Nat)(c a:Addr),as[i]?=some c->ap[i]?=some a->H c=some (.tup [.int (i:Int),.ref a])
theorem Et.same{H H':Hp}{q:Addr}{as ap:List Addr}(h:Et H q as ap)(e:Qn H H'):Et H' q as ap:=⟨e _ _ h.lst,h.len,fun i c a h1 h2=>e _ _ (h.at_ i c a h1 h2)⟩
theorem zy{K:xz}{C d q D dx lp ll lm:Addr}{S:Plan}{as ap al am:List Addr}{H:Hp}{on:Pt->Bool}{tt:TT}{I:Hp->Prop}(Dr:Dw K C H d S dx lp ll lm ap al am)(n:Et H q as ap)(sz:S.pts.length<=65536)(J:H D=none)
  (hT:∀(i:Nat)(a:Addr)(H':Hp)(Q:Bool->Hp->Prop),Dw K C H' d S dx lp ll lm ap al am->ap[i]?=some a->Q (on (S.pt i)) H'->tt [some (.ref d),some (.ref q),some (.int (i:Int)),some (.ref a)] H' Q)
  (hQ:∀H',Qn H H'->H' D=some (.lst (ni (Gm S on)))->I H') :
  ∃W:Nat->Nat->Hp->Prop,(∃m,W 0 m (upd H D (.lst [])))/\∀i m H,W i m H->
   ((tE K q).stop i H/\I H)\/((tE K q).go i H/\∃ B:Hp->Prop,(∀ H',B H'->∃ M,M<m/\W (i+1) M H')/\∀ x H',(tE K q).yld i H x H'->yJ K 2 (Z4 (Zz 2) (Z4 (Zz 3) xc)) x (ZB [some (.ref d),some (.ref q),none,none] [2,3]) H' fun F H2=>ZB F [2,3]=ZB [some (.ref d),some (.ref q),none,none] [2,3]/\tt F H2 fun b O=>
    if b=true then ZH 2 F O fun y U=>∃acc,U D=some (.lst acc)/\acc.length<sizeLine/\B (upd U D (.lst (acc++[y]))) else B O):=by
 have la:ap.length=S.pts.length:=by have:=Dr.pts.len;rw[xB]at this;exact this
 refine qd (K:=K) (a:=q) (xs:=as.map V.ref) (fun i H'=>Qn H H'/\H' D=some (.lst (ni (ze S on i)))) ⟨Qk _ J,Qe⟩ (fun i H' _ ⟨j,_⟩=>a'.of (j _ _ n.lst)) ?_ ?_
 ·rintro i x H1 hx ⟨j,h1⟩;obtain⟨c,hc,rfl⟩:=Zm hx;have hi:i<ap.length:=by rw[<-n.len];exact (List.getElem?_eq_some_iff.1 hc).1
  have ha:ap[i]?=some ap[i]:=xD hi;have G:=j _ _ (n.at_ i c _ hc ha);refine⟨c,_,Z,bV.of G,Z,_,_,Z,_,_,Z,Z,Z,?_⟩;refine hT i ap[i] H1 _ (Dr.same j) ha ?_;by_cases z:on (S.pt i)=true
  ·rw[Wi z];refine⟨_,Z,_,h1,?_,?_,?_⟩
   ·rw[show(ni (ze S on i)).length=(ze S on i).length by simp[ni]];exact xV (xK (tR S on i) (show i<=65536 by lia)) Wa
   ·intro b o e;rw[Qh (Qg e J)];exact j _ _ e
   ·rw[Qe,jn,Wi z];simp[ni]
  ·rw[Wh z];refine⟨j,?_⟩;rw[h1,jn,Wh z,Uw]
 ·rintro H1 ⟨j,h1⟩;refine hQ H1 j ?_;rw[h1,xB,n.len,la,pO]
def qP(S:Plan):List (List Nat):=[Gm S fun p=>p.y==0,Gm S fun p=>p.y==S.h,Gm S fun p=>p.x==0,Gm S fun p=>p.x==S.w]
abbrev BS:Stmt:=top 27
inductive Bh(K:xz)(C:Addr)(vs:List V)(H:Hp)(Q:VK)(E:XK):Prop
 |mk (d:Addr) (S:Plan) (dx lp ll lm:Addr) (ap al am:List Addr):vs=[.ref d]->Dw K C H d S dx lp ll lm ap al am->Ji S->(∀(H':Hp)(r:Addr)(rs:List Addr),Qn H H'->H' r=some (.lst (rs.map V.ref))->rs.length=4->(∀(i:Nat)(a:Addr)(l:List Nat),rs[i]?=some a->(qP S)[i]?=some l->H' a=some (.lst (ni l)))->Q (.ref r) H')->Bh K C vs H Q E
theorem J7:a7 ["drawing","places","number","point"] ["drawing"] (a6 BS):=.mk'
theorem uP{S:Plan}{i:Nat}(h:i<S.pts.length):S.pt i=S.pts[i]:=by unfold Plan.pt;simp[List.getD,h]
theorem zz(a b:Nat):decide (V.int (a:Int)=V.int (b:Int))=(a==b):=by lia
theorem Dw.Hg{H:Hp}{d:Addr}{S:Plan}{dx lp ll lm:Addr}{ap al am:List Addr}(D:Dw K C H d S dx lp ll lm ap al am){i:Nat}(h:ap[i]?=some a):H a=some (.tup [.int ((S.pt i).x:Int),.int ((S.pt i).y:Int)]):=by
 have j:ap.length=S.pts.length:=by have:=D.pts.len;rw[xB]at this;exact this
 have hi:i<S.pts.length:=by rw[<-j];exact(List.getElem?_eq_some_iff.1 h).1
 have:=D.pts.at_ i a (xy S.pts[i]) h (by rw[xJ,xD hi];rfl);rw[uP hi];exact this
theorem E3(F:bF K "edge_rows" "edge_rows" BS f fd)(T:Z9 K mg C)(U:Txt K mg):QC P w K mg base bB 4 f fd ["drawing"] (Bh K C):=by
 apply F.bL J7;rintro _ H Q E ⟨d,S,dx,lp,ll,lm,ap,al,am,rfl,D,sz,k⟩;refine⟨Z,fun _ _ _ _ _=>?_⟩
 refine⟨_,Qb (bz 1 J7.nd (gg Z Z U.lst Z U.enum (Qa (Qw (pv 0) Z) Qc)))
  (Qd (Qj (QU
   (Qa (qQ (own:=[("number",2),("point",3)]) (g:=yJ K 2 (Z4 (Zz 2) (Z4 (Zz 3) xc))) (tt:=fe (pf D8 (pf (nI K) (ZH 3) (tC (.int 1))) (tC (.int 0)))) (te:=ZH 2) Z J7.nd (Q3 (pv 1)) (ZI (N:=["drawing","places","number","point"]) (sc:=a6 BS) Wb)
    (fun _ _ _ _ _=>by exact ZF (n:=2) Z (QF (b0 2 J7.nd) (QF (b0 3 J7.nd) Zl))) (fun _ _ _ _ _=>by exact zm (Qs XI (Qy QO (pv 3) Qi (fun _ _=>rfl)) Qi (Qo _))) (fun _ _ _ _ _=>by exact pv 2))
   (Qa (qQ (own:=[("number",2),("point",3)]) (g:=yJ K 2 (Z4 (Zz 2) (Z4 (Zz 3) xc))) (tt:=fe (pf D8 (pf (nI K) (ZH 3) (tC (.int 1))) (vu K (ZH 0) "height"))) (te:=ZH 2) Z J7.nd (Q3 (pv 1)) (ZI (N:=["drawing","places","number","point"]) (sc:=a6 BS) Wb)
    (fun _ _ _ _ _=>by exact ZF (n:=2) Z (QF (b0 2 J7.nd) (QF (b0 3 J7.nd) Zl))) (fun _ _ _ _ _=>by exact zm (Qs XI (Qy QO (pv 3) Qi (fun _ _=>rfl)) (Qw (pv 0) Z) (Qo _))) (fun _ _ _ _ _=>by exact pv 2))
   (Qa (qQ (own:=[("number",2),("point",3)]) (g:=yJ K 2 (Z4 (Zz 2) (Z4 (Zz 3) xc))) (tt:=fe (pf D8 (pf (nI K) (ZH 3) (tC (.int 0))) (tC (.int 0)))) (te:=ZH 2) Z J7.nd (Q3 (pv 1)) (ZI (N:=["drawing","places","number","point"]) (sc:=a6 BS) Wb)
    (fun _ _ _ _ _=>by exact ZF (n:=2) Z (QF (b0 2 J7.nd) (QF (b0 3 J7.nd) Zl))) (fun _ _ _ _ _=>by exact zm (Qs XI (Qy QO (pv 3) Qi (fun _ _=>rfl)) Qi (Qo _))) (fun _ _ _ _ _=>by exact pv 2))
   (Qa (qQ (own:=[("number",2),("point",3)]) (g:=yJ K 2 (Z4 (Zz 2) (Z4 (Zz 3) xc))) (tt:=fe (pf D8 (pf (nI K) (ZH 3) (tC (.int 0))) (vu K (ZH 0) "width"))) (te:=ZH 2) Z J7.nd (Q3 (pv 1)) (ZI (N:=["drawing","places","number","point"]) (sc:=a6 BS) Wb)
    (fun _ _ _ _ _=>by exact ZF (n:=2) Z (QF (b0 2 J7.nd) (QF (b0 3 J7.nd) Zl))) (fun _ _ _ _ _=>by exact zm (Qs XI (Qy QO (pv 3) Qi (fun _ _=>rfl)) (Qw (pv 0) Z) (Qo _))) (fun _ _ _ _ _=>by exact pv 2))
   Qc))))))),?_⟩
 refine⟨_,Z,d,C,dx,_,_,Z,D.ins,T.cl,T.nP,XJ _ _ _ _ _,lp,_,Z,D.pts.lst,fun q as H1 s1 _ hq ac ag=>?_⟩;have Pq:Et H1 q as ap:=⟨hq,by rw[ac,xB],fun i c a h1 h2=>ag i c (.ref a) h1 (by rw[xJ,h2];rfl)⟩;have D1:=D.same s1;refine⟨_,Z,q,Z,⟨_,a'.of Pq.lst⟩,fun r1 eM=>zy (on:=fun p=>p.y==0) D1 Pq sz.1 eM (fun i a H' Q' I z B=>?_) fun H2 ad g1=>?_⟩
 ·refine⟨_,Z,a,_,_,_,Z,Z,bV.of (I.Hg z),Qm (j:=1) Z,Z,_,Z,?_⟩;have e:=zz (S.pt i).y 0;lia
 have s2:=s1.trans ad;have O:=Pq.same ad;refine⟨_,Z,q,Z,⟨_,a'.of O.lst⟩,fun r2 ah=>zy (on:=fun p=>p.y==S.h) (D.same s2) O sz.1 ah (fun i a H' Q' I z B=>?_) fun H3 aa g2=>?_⟩
 ·refine⟨_,Z,a,_,_,_,Z,Z,bV.of (I.Hg z),Qm (j:=1) Z,_,Z,d,C,dx,_,_,Z,I.ins,T.cl,T.nH,t8 _ _ _ _ _,Z,_,Z,?_⟩;rw[<-zz]at B;exact B
 have s3:=s2.trans aa;have ab:=O.same aa;refine⟨_,Z,q,Z,⟨_,a'.of ab.lst⟩,fun r3 ai=>zy (on:=fun p=>p.x==0) (D.same s3) ab sz.1 ai (fun i a H' Q' I z B=>?_) fun H4 J g3=>?_⟩
 ·refine⟨_,Z,a,_,_,_,Z,Z,bV.of (I.Hg z),Qm (j:=0) Z,Z,_,Z,?_⟩;have e:=zz (S.pt i).x 0;lia
 have s4:=s3.trans J;have af:=ab.same J;refine⟨_,Z,q,Z,⟨_,a'.of af.lst⟩,fun r4 aj=>zy (on:=fun p=>p.x==S.w) (D.same s4) af sz.1 aj (fun i a H' Q' I z B=>?_) fun H5 M g4=>?_⟩
 ·refine⟨_,Z,a,_,_,_,Z,Z,bV.of (I.Hg z),Qm (j:=0) Z,_,Z,d,C,dx,_,_,Z,I.ins,T.cl,T.nW,p6 _ _ _ _ _,Z,_,Z,?_⟩;rw[<-zz]at B;exact B
 have s5:=s4.trans M;refine⟨(by show 4<=sizeLine;decide),fun r ak=>?_⟩;have G:=Qk (.lst [V.ref r1,.ref r2,.ref r3,.ref r4]) ak;refine k _ r [r1,r2,r3,r4] (s5.trans G) Qe Z fun i a l z hl=>?_;match i,z,hl with
 | 0,z,hl=>
  cases z;cases hl;exact G _ _ (M _ _ (J _ _ (aa _ _ g1)))
 | 1,z,hl=>
  cases z;cases hl;exact G _ _ (M _ _ (J _ _ g2))
 | 2,z,hl=>
  cases z;cases hl;exact G _ _ (M _ _ g3)
 | 3,z,hl=>
  cases z;cases hl;exact G _ _ g4
 |n+4,z,hl=>simp at z
theorem ui(xs:List V)(p:Nat):X7 xs (some (p:Int)) none=xs.drop p:=by
 unfold X7;simp only[HT.dj,show HT.eV xs.length xs.length none=xs.length from Z];by_cases h:p<=xs.length
 ·rw[Qaf h];rw[Qbb (Qak Ga)]
 ·rw[GH (i:=min p xs.length) L,GH (i:=p) L];simp
theorem uL(S:Plan)(x y:Nat):qe S (x,y)=!S.pts.contains ⟨x,y⟩:=by
 unfold qe;congr 1;rw[VN,Gz,UQ,UT];constructor
 ·rintro⟨p,j,e⟩;have e:xy p=(x,y):=Wj e
  have:p=⟨x,y⟩:=by cases p;simp only[xy,Prod.mk.injEq]at e;lia
  lia
 ·intro h;exact⟨⟨x,y⟩,h,Wk Z⟩
def Jg(S:Plan)(l:List Nat):Bool:=(l.zip (l.drop 1)).all fun x=>decide (x∈S.lines)
theorem Q2(S:Plan)(on:Pt->Bool):(Gm S on).Pairwise (·<·):=List.Pairwise.filter _ List.pairwise_lt_range
theorem BN{l:List Nat} (h:l.Pairwise (·<·)):∀x∈l.zip (l.drop 1),x.1<x.2:=by intro x j;obtain⟨i,hi,e⟩:=List.mem_iff_getElem.1 j;rw[List.getElem_zip]at e;subst e;simp only[Qar];rw[List.length_zip,Ga]at hi;exact List.pairwise_iff_getElem.1 h _ _ L L L
theorem pE(S:Plan){l:List Nat} (h:l.Pairwise (·<·)):GO S l=Jg S l:=by
 unfold GO Jg;have z:=BN h;generalize l.zip (l.drop 1)=m at z;induction m with
 |nil=>rfl
 | cons x m j=>
  rw[UM,UM,j fun y n=>z y (xR _ n)];congr 1;have:=z x (Gj ..);unfold Plan.joined;rw[Qaf L,Nat.max_eq_right L,Gz,UT,Wp]
theorem yl(S:Plan):UD S=(!(Xw S).any (qe S)&&(qP S).all (Jg S)):=by unfold UD Xw qP;simp only[VC,List.any_nil,UM,List.all_nil,uL,<-pE S (Q2 S _),Bool.or_false,Qbv,Bool.not_or,Qbf];lia
abbrev Hq:Stmt:=top 28
theorem oT:a7 ["drawing","joined","line","row","one","other"] ["drawing"] (a6 Hq):=.mk'
theorem DO(F:bF K "open_frame" "open_frame" Hq f fd)(T:Z9 K mg C)(U:Txt K mg) (Lc:bq P w K mg base 4 "lacks_corner" ["drawing"] (Bz K C)) (Er:bq P w K mg base 4 "edge_rows" ["drawing"] (Bh K C)) :
  QC P w K mg base bB 5 f fd ["drawing"] (XR K C (fun S=>C4 S/\nN S/\S.lines.Nodup) JF):=by
 apply F.bL oT;rintro _ H Q E ⟨d,S,dx,lp,ll,lm,ap,al,am,rfl,D,⟨OH,O5,nd⟩,k⟩;refine⟨Z,fun _ _ _ _ hr=>?_⟩;have hu:=Jc hr
 refine⟨_,Qb (QD (Zd (Qr Lc hr (Qa (pv 0) Qc))) (Qd (Qj (QP T.g20))) Qq)
  (Qb (bz 1 oT.nd fj)
  (Qb (QL PassesOwn.never Z (Q3 (Qw (pv 0) Z)) (b0 2 oT.nd) (Qd (zn hu (pv 1) (pv 2) Xe Z)))
  (Qb (QL PassesOwn.never Z (Q3 (Qr Er hr (Qa (pv 0) Qc))) (b0 3 oT.nd)
   (Qd (QL PassesOwn.never Z (uk Z U.zip (Qa (pv 3) (Qa (XF Ys (pv 3) (Xb Qi) zo) Qc))) (ZF (n:=2) Z (QF (b0 4 oT.nd) (QF (b0 5 oT.nd) Zl)))
    (Qd (QD (Q6 (qA hu (Ze (Qa (pv 4) (Qa (pv 5) Qc))) (pv 1))) (Qd (Qj (QP T.g20))) Qq)))))
  (Qd (Qj QT))))),?_⟩
 have ac:∀H',Qn H H'->UD S=false->Q (.int 20) H':=fun H' O e=>by
  have:=k H' O;unfold JF at this;rw[Wi e]at this;exact this
 refine⟨_,Z,d,S,dx,lp,ll,lm,ap,al,am,Z,D,fun H1 O=>⟨_,Z,Qz (fun h1=>?_) (fun h1=>?_)⟩⟩
 ·exact ac H1 O (by rw[yl,h1];rfl)
 have h1:(Xw S).any (qe S)=false:=by simpa using h1
 intro g hg;have fg:H g=none:=O.free hg;have s2:Qn H (upd H1 g (.dT [])):=O.trans (Qk _ hg);have D2:=D.same s2;have ad:al.length=S.lines.length:=D.cE.len
 refine⟨_,Z,d,C,dx,_,_,Z,D2.ins,T.cl,T.nL,yo _ _ _ _ _,ll,Z,⟨_,D2.cE.lst⟩,Zs (K:=K) (a:=ll) (xs:=al.map V.ref) (fun j σ H'=>∃v2:Option V,ek (σ=[some (.ref d),some (.ref g),v2,none,none,none]) (cC g H1 H') (H' g=some (.dT (kT (S.lines.take j)))))
  ⟨none,Z,fun x o h I=>by rw[Qh I];exact h,Qe⟩ (fun j σ H' _ ⟨_,_,kp,az⟩=>(D.same (kp.same fg O)).cE.lst) ?_ ?_⟩
 ·rintro j x σ H3 hx ⟨v2,rfl,kp,J⟩;obtain⟨c,hc,rfl⟩:=Zm hx;have hj:j<S.lines.length:=by rw[<-ad];exact (List.getElem?_eq_some_iff.1 hc).1
  have D3:=D.same (kp.same fg O);have hp:Pr H3 c S.lines[j]:=D3.cE.at_ j c _ hc (xD hj)
  have an:S.lines[j]∉S.lines.take j:=fun h=>by
   obtain⟨m,M,em⟩:=List.mem_iff_getElem.1 h;rw[Gk]at M;rw[VP]at em;have:=(V2 nd).1 em;lia
  have len:(kT (S.lines.take j)).length<sizeLine:=by have z:=O5.siz.2.1;unfold kT;rw[xB,Gk];exact xV (show min j S.lines.length<=65536 by lia) Wa
  refine⟨_,Z,_,Z,g,_,Z,yL.t J hp.key len,?_⟩;rw[uh an];refine⟨_,Z,fun x o h I=>by rw[Qh I];exact kp x o h I,?_⟩;rw[Qe,Uf hj]
 ·rintro σ H3 ⟨v2,rfl,kp,J⟩;rw[xB,ad,Gy] at J;have s3:=kp.same fg O;refine⟨_,Z,d,S,dx,lp,ll,lm,ap,al,am,Z,D.same s3,O5.siz,fun H4 r rs af ag rl ao=>?_⟩;have s4:=s3.trans af;have aq:=af _ _ J
  refine⟨r,Z,⟨_,a'.of ag⟩,Zs (K:=K) (a:=r) (xs:=rs.map V.ref) (fun j σ H'=>C7 fun(v3 v4 v5:Option V)=>ek (σ=[some (.ref d),some (.ref g),v2,v3,v4,v5]) (Qn H4 H') (∀m l,m<j->(qP S)[m]?=some l->Jg S l=true))
   ⟨none,none,none,Z,Qn.refl _,fun m l M=>by lia⟩ (fun j σ H' _ ⟨_,_,_,_,s5,_⟩=>a'.of (s5 _ _ ag)) ?_ ?_⟩
  ·rintro j x σ H5 hx ⟨v3,v4,v5,rfl,s5,hb⟩;obtain⟨c,hc,rfl⟩:=Zm hx;have hj:j<(qP S).length:=by show j<4;rw[<-rl];exact (List.getElem?_eq_some_iff.1 hc).1
   obtain⟨l,hl⟩:∃l,(qP S)[j]?=some l:=⟨_,xD hj⟩;have ah:=s5 _ _ (ao j c l hc hl);have e1:X7 (ni l) (some ((1:Nat):Int)) none=ni (l.drop 1):=by rw[ui];unfold ni;rw[V8]
   refine⟨_,Z,_,Z,_,Z,c,_,Z,a'.of ah,fun y hy=>?_⟩;have au:X7 (ni l) (some 1) none=ni (l.drop 1):=e1;rw[au];have ab:=Qk (.lst (ni (l.drop 1))) hy;have B:=ab _ _ ah;generalize e6:upd H5 y (.lst (ni (l.drop 1)))=H6 at ab B ⊢;have ai:H6 y=some (.lst (ni (l.drop 1))):=by rw[<-e6];exact Qe
   have s6:=s5.trans ab;have aa:(ni l).length=l.length:=by simp[ni]
   have aj:(ni (l.drop 1)).length=l.length-1:=by simp[ni]
   refine⟨c,y,_,_,Z,a'.of B,a'.of ai,lP (K:=K) (a:=c) (b:=y) (xs:=ni l) (ys:=ni (l.drop 1)) (p:=4) (q:=5) (n:=l.length-1) (fun i σ H'=>tL fun(v4 v5:Option V)=>ek (σ=[some (.ref d),some (.ref g),v2,some (.ref c),v4,v5]) (Qn H6 H') (∀m z,m<i->(l.zip (l.drop 1))[m]?=some z->z∈S.lines))
    (by rw[aa,aj];lia) ⟨_,_,Z,Qn.refl _,fun m z M=>by lia⟩ (fun i σ H' _ ⟨_,_,_,s7,_⟩=>⟨a'.of (s7 _ _ B),a'.of (s7 _ _ ai)⟩) ?_ ?_⟩
   ·rintro i a b σ H7 H8 ha av ⟨w4,w5,rfl,s7,M⟩ aw;have ga:i<l.length:=by rw[<-aa];exact (List.getElem?_eq_some_iff.1 ha).1
    have gb:i<(l.drop 1).length:=by grind
    have ea:a=V.int ((l[i]:Nat):Int):=by unfold ni at ha;grind
    have eb:b=V.int (((l.drop 1)[i]:Nat):Int):=by unfold ni at av;grind
    subst ea eb
    have ez:(l.zip (l.drop 1))[i]?=some (l[i],(l.drop 1)[i]):=by grind
    have s8:=s7.trans aw;refine⟨_,Z,_,Z,(by show 2<=sizeLine;decide),fun t ht=>?_⟩;have ax:=Qk (.tup [V.int ((l[i]:Nat):Int),V.int (((l.drop 1)[i]:Nat):Int)]) ht;have s9:=s8.trans ax;have hp:Pr (upd H8 t (.tup [V.int ((l[i]:Nat):Int),V.int (((l.drop 1)[i]:Nat):Int)])) t (l[i],(l.drop 1)[i]):=Qe;have ay:=s9 _ _ (s6 _ _ aq);refine⟨_,Z,g,_,Z,Z2.t ay hp.key,_,Z,Qz (fun G=>?_) (fun G=>?_)⟩
    ·have G:(!(Xs (kT S.lines) (qE (l[i],(l.drop 1)[i]))).isSome)=true:=G;rw[yg] at G;have G:(l[i],(l.drop 1)[i])∉S.lines:=by simpa using G
     refine ac _ ((s4.trans s6).trans s9) ?_;rw[yl]
     have:(qP S).all (Jg S)=false:=by rw[List.all_eq_false];refine⟨l,xZ hl,?_⟩;unfold Jg;grind
     lia
    ·have G:¬ (!(Xs (kT S.lines) (qE (l[i],(l.drop 1)[i]))).isSome)=true:=G;rw[yg] at G;have G:(l[i],(l.drop 1)[i])∈S.lines:=by simpa using G
     refine⟨_,_,Z,s9,fun m z hz aA=>?_⟩;grind
   ·rintro σ H7 ⟨w4,w5,rfl,s7,M⟩;refine⟨_,_,_,Z,s6.trans s7,fun m l' aB ak=>?_⟩;by_cases q:m=j
    ·subst q;rw[hl]at ak;cases ak;unfold Jg;rw[V3];intro z hz;obtain⟨i,hi,e⟩:=List.mem_iff_getElem.1 hz;refine Wk (M i z ?_ ?_);all_goals grind
    grind
  ·rintro σ H5 ⟨v3,v4,v5,rfl,s5,hb⟩
   have fo:UD S=true:=by
    rw[yl,h1]
    have:(qP S).all (Jg S)=true:=by rw[V3];intro l hl;obtain⟨m,M⟩:=List.mem_iff_getElem?.1 hl;refine hb m l ?_ M;rw[xB,rl];exact(List.getElem?_eq_some_iff.1 M).1
    lia
   have:=k H5 (s4.trans s5);unfold JF at this;rw[Wh (by rw[fo];simp)]at this;exact this
structure QB(K:xz)(y x:Str)(st:Stmt):Prop where
 ex:∃(f:Addr) (oc:Value) (od:Option Addr) (kV dc pm:Value) (an:Option Addr) (cd ct:Value) (sl:Array (Option Value)),xY K mainGlobals y=some (some (.ref f))/\
  K.lookup f=some ⟨oc,od,.func (G9 x x (bY st) (bQ st) (a6 st) .none kV dc pm an cd ct),sl⟩/\Ve K cd x=true/\GR K (.ref f)=true
structure Xa(K:xz)(C:Addr)(m q:Str)(st:Stmt):Prop where
 ex:∃(f:Addr) (oc:Value) (od:Option Addr) (kV dc pm:Value) (an:Option Addr) (cd ct:Value) (sl:Array (Option Value)),GX K (.ref C) m=some (some (.ref f))/\Qam K (.ref f)=true/\
  K.lookup f=some ⟨oc,od,.func (G9 m q (bY st) (bQ st) (a6 st) .none kV dc pm an cd ct),sl⟩/\Ve K cd q=true/\GR K (.ref f)=true
structure ro(K:xz)(x:Str)(C:Addr):Prop where
 ns:xY K mainGlobals x=some (some (.ref C))
 pg:Vy K C Str.empty=true
 hd:V0 K C=true
 po:Qax K C=true
 sa:GX K (.ref C) "__setattr__" = some (some (.builtin "object.__setattr__"))
 mak:Qbp K C=true
 kc:GR K (.ref C)=true
def Zx(K:xz)(x:Str)(n:Int):Prop:=∃t,xY K mainGlobals x=some (some (.int n t))
def NotIn(K:xz)(x:Str):Prop:=xY K mainGlobals x=some none
def Jh(K:xz)(a:Addr)(vs:List V):Prop:=∃(j:Option Addr) (a8:Array Value) (n:Nat) (z:Array (Option Value)),K.lookup a=some ⟨.type "tuple",j,.seq a8 n,z⟩/\a8.size<=sizeLine/\QH vs a8.toList
theorem Jh.sq{vs:List V}(h:Jh K a vs)(H:Hp):bV K H a vs:=by obtain⟨j,a8,n,B,l,z,r⟩:=h;exact .inr ⟨_,a8,n,l,Z,Z,z,r⟩
inductive qt(K:xz):List Value->List (List Int)->Prop
 |nil:qt K [] []
 |cons {a:Addr} {r:List Int} {us:List Value} {rs:List (List Int)}:Jh K a (r.map V.int)->qt K us rs->qt K (Value.ref a::us) (r::rs)
theorem qt.rows:∀{us:List Value} {rs:List (List Int)},qt K us rs->∃as:List Addr,us=as.map Value.ref/\as.length=rs.length/\∀(i:Nat)(a:Addr)(r:List Int),as[i]?=some a->rs[i]?=some r->∀H,bV K H a (r.map V.int)
 |_,_,.nil=>⟨[],Z,Z,fun i a r h _=>by simp at h⟩
 | _,_,.cons (a:=a) h t=>by
  obtain⟨as,e,l,k⟩:=t.rows;subst e;refine⟨a::as,Z,by rw[xO,xO,l],fun i b r h1 h2=>?_⟩;cases i with
  |zero=>cases h1;cases h2;exact h.sq
  |succ i=>exact k i b r (by simpa using h1) (by simpa using h2)
def J0(K:xz)(x:Str) (rs:List (List Int)):Prop:=∃(q:Addr) (j:Option Addr) (a8:Array Value) (n:Nat) (z:Array (Option Value)),xY K mainGlobals x=some (some (.ref q))/\K.lookup q=some ⟨.type "tuple",j,.seq a8 n,z⟩/\a8.size<=sizeLine/\qt K a8.toList rs
def gD(K:xz)(x:Str)(vs:List V):Prop:=∃q:Addr,xY K mainGlobals x=some (some (.ref q))/\Jh K q vs
theorem gY{y x:Str}{st:Stmt}{n:Value}{z:Option Addr}{kV B F:Value}{G:Option Addr}{j ct:Value} {I:Array (Option Value)} (a:xY K mainGlobals y=some (some (.ref f)))
  (b:K.lookup f=some ⟨n,z,.func (G9 x x (bY st) (bQ st) (a6 st) .none kV B F G j ct),I⟩) (c:Ve K j x=true) (d:GR K (.ref f)=true):QB K y x st:=⟨f,n,z,kV,B,F,G,j,ct,I,a,b,c,d⟩
theorem oo{m q:Str}{st:Stmt}{n:Value}{z:Option Addr}{kV B F:Value}{G:Option Addr}{j ct:Value} {I:Array (Option Value)} (a:GX K (.ref C) m=some (some (.ref f))) (i:Qam K (.ref f)=true)
  (b:K.lookup f=some ⟨n,z,.func (G9 m q (bY st) (bQ st) (a6 st) .none kV B F G j ct),I⟩) (c:Ve K j q=true) (d:GR K (.ref f)=true):Xa K C m q st:=⟨f,n,z,kV,B,F,G,j,ct,I,a,i,b,c,d⟩
theorem sA{x:Str}{n:Int}{t:Tok} (a:xY K mainGlobals x=some (some (.int n t))):Zx K x n:=⟨t,a⟩
theorem rq{x:Str}(a:xY K mainGlobals x=some none):NotIn K x:=a
theorem ot{x:Str} (a:GX K (.ref C) x=some none):Q8 K C x:=a
theorem dC{vs:List V}{j:Option Addr}{a8:Array Value}{n:Nat} {B:Array (Option Value)} (l:K.lookup a=some ⟨.type "tuple",j,.seq a8 n,B⟩) (z:a8.size<=sizeLine) (v:QH vs a8.toList):Jh K a vs:=⟨j,a8,n,B,l,z,v⟩
theorem sr{x:Str}{vs:List V}{q:Addr} (n:xY K mainGlobals x=some (some (.ref q))) (t:Jh K q vs):gD K x vs:=⟨q,n,t⟩
theorem nc{x:Str} {rs:List (List Int)} {q:Addr} {j:Option Addr} {a8:Array Value} {m:Nat} {B:Array (Option Value)} (n:xY K mainGlobals x=some (some (.ref q))) (l:K.lookup q=some ⟨.type "tuple",j,.seq a8 m,B⟩) (z:a8.size<=sizeLine) (r:qt K a8.toList rs):J0 K x rs:=⟨q,j,a8,m,B,n,l,z,r⟩
theorem tN{r:List Int}{us:List Value} {rs:List (List Int)} (h:Jh K a (r.map V.int)) (t:qt K us rs):qt K (Value.ref a::us) (r::rs):=.cons h t
theorem eA{i:Int}{t:Tok}{vs:List V}{us:List Value}(h:QH vs us):QH (.int i::vs) (.int i t::us):=.cons ⟨t,Z⟩ h
section
variable {h:Heap}
theorem J0.u7{x:Str} {rs:List (List Int)} (j:K.In h) (G:h.Ns mainGlobals mg) (b:J0 K x rs):sG K mg x rs:=by obtain⟨q,B,a8,m,F,n,l,z,r⟩:=b;obtain⟨as,e,h1,h2⟩:=r.rows;refine⟨q,as,Uj j G n,fun H=>.inr ⟨_,a8,m,l,Z,Z,z,?_⟩,h1,h2⟩;rw[e];exact Jj as
theorem gD.sgn{x:Str}{vs:List V}(j:K.In h)(G:h.Ns mainGlobals mg)(b:gD K x vs):Dl K mg x vs:=by obtain⟨q,n,t⟩:=b;exact⟨q,Uj j G n,t.sq⟩
theorem Zx.gi{x:Str}{n:Int}(j:K.In h)(G:h.Ns mainGlobals mg)(b:Zx K x n):GI mg x n:=by obtain⟨t,e⟩:=b;exact⟨t,Uj j G e⟩
theorem HP{α:Type}{p:List α->Prop}(h:∀a,p [a]):∀us:List α,us.length=1->p us
 |[a],_=>h a
theorem FY{α:Type}{p:List α->Prop}(h:∀a b,p [a,b]):∀us:List α,us.length=2->p us
 |a::r,e=>HP (p:=fun r=>p (a::r)) (h a) r (Nat.succ.inj e)
theorem KR{α:Type}{p:List α->Prop}(h:∀a b c,p [a,b,c]):∀us:List α,us.length=3->p us
 |a::r,e=>FY (p:=fun r=>p (a::r)) (h a) r (Nat.succ.inj e)
theorem KU{α:Type}{p:List α->Prop}(h:∀a b c d,p [a,b,c,d]):∀us:List α,us.length=4->p us
 |a::r,e=>KR (p:=fun r=>p (a::r)) (h a) r (Nat.succ.inj e)
theorem KD{α:Type}{p:List α->Prop}(h:∀a b c d e,p [a,b,c,d,e]):∀us:List α,us.length=5->p us
 |a::r,e=>KU (p:=fun r=>p (a::r)) (h a) r (Nat.succ.inj e)
theorem Lj{α:Type}{p:List α->Prop}(h:∀a b c d e f,p [a,b,c,d,e,f]):∀us:List α,us.length=6->p us
 |a::r,e=>KD (p:=fun r=>p (a::r)) (h a) r (Nat.succ.inj e)
def B0(x:Str)(st:Stmt)(ps:List Str):Prop:=∀(kV j z:Value)(B:Option Addr)(n ct:Value)(us:List Value),us.length=ps.length->bindArgs (G9 x x (bY st) (bQ st) (a6 st) .none kV j z B n ct) ⟨us,[]⟩=pure (ps.zip us)
def v8(x q:Str)(st:Stmt)(ps:List Str):Prop:=∀(kV j z:Value)(B:Option Addr)(n ct:Value)(us:List Value),us.length=ps.length->bindArgs (G9 x q (bY st) (bQ st) (a6 st) .none kV j z B n ct) ⟨us,[]⟩=pure (ps.zip us)
theorem QB.has{y x:Str}{st:Stmt}{ps:List Str}{k:Nat}{sp:Sp}(D:QB K y x st)(P:Program)(w:World)(base:Heap)(j:K.In h)(G:h.Ns mainGlobals mg) (ok:∀{f:Addr} {fd:FuncData},bF K x x st f fd->QC P w K mg base bB k f fd ps sp) (z:B0 x st ps:=by first|exact fun _ _ _ _ _ _=>HP fun _=>rfl|exact fun _ _ _ _ _ _=>FY fun _ _=>rfl|exact fun _ _ _ _ _ _=>KR fun _ _ _=>rfl|exact fun _ _ _ _ _ _=>KU fun _ _ _ _=>rfl|exact fun _ _ _ _ _ _=>KD fun _ _ _ _ _=>rfl):bq P w K mg base k y ps sp:=by obtain⟨f,B,I,kV,J,M,O,U,ct,sl,n,l,c,kp⟩:=D.ex;have F:=yk (st:=st) l c kp;exact⟨f,_,Uj j G n,kp,F.binds z,ok F⟩
theorem Xa.has{m q:Str}{st:Stmt}{ps:List Str}{k:Nat}{sp:Sp}(D:Xa K C m q st)(P:Program)(w:World)(base:Heap) (ok:∀{f:Addr} {fd:FuncData},bF K m q st f fd->QC P w K mg base bB k f fd ps sp) (j:v8 m q st ps:=by first|exact fun _ _ _ _ _ _=>HP fun _=>rfl|exact fun _ _ _ _ _ _=>FY fun _ _=>rfl):XQ P w K mg base C k m ps sp:=by obtain⟨f,z,B,kV,G,I,J,M,ct,O,n,i,l,c,kp⟩:=D.ex;have F:=yk (st:=st) l c kp;exact⟨f,_,⟨n,i,kp⟩,F.binds j,ok F⟩
end
structure XO(K:xz)(C:Addr):Prop where
 cl:ro K "Drawing" C
 nW:Q8 K C "width"
 nH:Q8 K C "height"
 nP:Q8 K C "points"
 nL:Q8 K C "lines"
 nM:Q8 K C "marks"
 mI:Xa K C "__init__" "Drawing.__init__" lC
 mPP:Xa K C "point_place" "Drawing.point_place" Hk
 mLP:Xa K C "line_place" "Drawing.line_place" IQ
 mMP:Xa K C "mark_place" "Drawing.mark_place" HW
 mBC:Xa K C "byte_count" "Drawing.byte_count" Ir
 mNb:Xa K C "neighbours" "Drawing.neighbours" G'
 rev:NotIn K "reversed"
 len:NotIn K "len"
 range:NotIn K "range"
 enum:NotIn K "enumerate"
 lst:NotIn K "list"
 any:NotIn K "any"
 zip:NotIn K "zip"
 str:NotIn K "str"
 sum:NotIn K "sum"
 ord:NotIn K "ord"
 max:NotIn K "max"
 g20:Zx K "HEAD_BYTES_drawing" 20
 g8:Zx K "POINT_BYTES" 8
 g4:Zx K "LINE_BYTES" 4
 g12:Zx K "MARK_BYTES" 12
 gN:Zx K "NO_POINT" (-1)
 w80:Zx K "HEAD_BYTES_workshop" 80
 w16:Zx K "SHEET_BYTES" 16
 w8:Zx K "KIND_BYTES" 8
 w64:Zx K "GLASS_BYTES" 64
 w69:Zx K "PAINTING_BYTES" 69
 w64b:Zx K "BANDS_BYTES" 64
 w4:Zx K "MOST_COATS" 4
 sgC:gD K "CARTOON_SIGN" [.int 71,.int 76,.int 65,.int 49]
 sgW:gD K "WORKSHOP_SIGN" [.int 71,.int 76,.int 65,.int 87]
 bC:J0 K "HEAD_BOUNDS_cartoon" yu
 bW:J0 K "HEAD_BOUNDS_workshop" (Yt wb)
 bS:J0 K "SHEET_BOUNDS" (Yt Ah)
 bK:J0 K "KIND_BOUNDS" (Yt wG)
 dNum:QB K "number_at" "number_at" BV
 dPairs:QB K "pairs_at" "pairs_at" iT
 dRow:QB K "row_places" "row_places" Cv
 dDrw:QB K "drawing_of" "drawing_of" Au
 dTurn:QB K "turn" "turn" sL
 dBet:QB K "is_between" "is_between" BM
 dOn:QB K "is_on" "is_on" Ij
 dParts:QB K "parts" "parts" ka
 dCross:QB K "crosses" "crosses" kA
 dBehind:QB K "comes_behind" "comes_behind" jN
 dWP:QB K "wrong_point" "wrong_point" Ib
 dLB:QB K "line_comes_behind" "line_comes_behind" Kn
 dWL:QB K "wrong_line" "wrong_line" HD
 dLC:QB K "lacks_corner" "lacks_corner" Ha
 dER:QB K "edge_rows" "edge_rows" BS
 dOF:QB K "open_frame" "open_frame" Hq
 dHP:QB K "holds_point" "holds_point" Iw
 dCE:QB K "crosses_earlier" "crosses_earlier" HQ
 dEL:QB K "entangled_line" "entangled_line" IH
 dWF:QB K "is_within_frame" "is_within_frame" HY
 dOSL:QB K "is_on_some_line" "is_on_some_line" Bn
 dWM:QB K "wrong_mark" "wrong_mark" Kk
 dSB:QB K "is_step_below" "is_step_below" J'
 dHi:QB K "is_higher" "is_higher" HE
 dSU:QB K "step_under" "step_under" Ik
 dSide:QB K "side" "side" ur
 dFL:QB K "is_further_left" "is_further_left" Ki
 dSA:QB K "step_after" "step_after" IZ
 dOut:QB K "outline" "outline" Bb
 dCM:QB K "crowding_mark" "crowding_mark" Iv
 dUP:QB K "unmarked_pane" "unmarked_pane" HN
 dLoose:QB K "loose_point" "loose_point" ib
 dReach:QB K "reached" "reached" ij
 dUnr:QB K "unreached_point" "unreached_point" CP
 dPart:QB K "parting_point" "parting_point" sS
 dHC:QB K "head_fault_cartoon" "head_fault" HM
 dDF:QB K "drawing_fault" "drawing_fault" HS
 dCF:QB K "cartoon_fault" "cartoon_fault" Kg
 dOob:QB K "out_of_bounds" "out_of_bounds" BF
 dPP2:QB K "part_places" "part_places" CW
 dWS:QB K "wrong_sheet" "wrong_sheet" Iu
 dWK:QB K "wrong_kind" "wrong_kind" IV
 dRC:QB K "is_right_coat" "is_right_coat" ID
 dWC:QB K "wrong_coat" "wrong_coat" Ko
 dWPa:QB K "wrong_painting" "wrong_painting" vG
 dHW:QB K "head_fault_workshop" "head_fault" IB
 dCW:QB K "cartoon_within" "cartoon_within" Ia
 dPaF:QB K "parts_fault" "parts_fault" Bu
 dWF2:QB K "workshop_fault" "workshop_fault" Ba
section
variable {h:Heap}
theorem XO.txt(T:XO K C)(j:K.In h)(G:h.Ns mainGlobals mg):Txt K mg:=
 ⟨GJ j G T.rev,GJ j G T.len,GJ j G T.range,GJ j G T.enum,GJ j G T.lst,GJ j G T.any,GJ j G T.zip,GJ j G T.str,GJ j G T.sum,GJ j G T.ord,GJ j G T.max⟩
theorem XO.vt(T:XO K C)(j:K.In h)(G:h.Ns mainGlobals mg):Z9 K mg C:=
 ⟨⟨T.cl.pg,T.cl.hd,T.cl.po,T.cl.sa⟩,T.nW,T.nH,T.nP,T.nL,T.nM,Uj j G T.cl.ns,T.g20.gi j G,T.g8.gi j G,T.g4.gi j G,T.g12.gi j G⟩
theorem XO.Bi(T:XO K C)(j:K.In h)(G:h.Ns mainGlobals mg):xr K mg:=
 ⟨T.w80.gi j G,T.w16.gi j G,T.w8.gi j G,T.w64.gi j G,T.w69.gi j G,T.w64b.gi j G,T.w4.gi j G⟩
theorem XO.iZ(T:XO K C)(j:K.In h)(G:h.Ns mainGlobals mg):bq P w K mg base 1 "number_at" ["octets","place","size"] (JE K):=T.dNum.has _ _ _ j G fun F=>CK F (T.txt j G)
theorem XO.En(T:XO K C)(j:K.In h)(G:h.Ns mainGlobals mg):bq P w K mg base 2 "row_places" ["octets"] (f' K):=T.dRow.has _ _ _ j G fun F=>Al F (T.vt j G) (T.iZ j G)
theorem XO.A4(T:XO K C)(j:K.In h)(G:h.Ns mainGlobals mg):bq P w K mg base 2 "part_places" ["workshop"] (yV K):=T.dPP2.has _ _ _ j G fun F=>BY F (T.Bi j G) (T.iZ j G)
theorem XO.K7(T:XO K C)(j:K.In h)(G:h.Ns mainGlobals mg):bq P w K mg base 3 "cartoon_within" ["workshop"] (vZ K):=T.dCW.has _ _ _ j G fun F=>Ek F (T.Bi j G) (T.A4 j G)
theorem XO.Ka(T:XO K C)(j:K.In h)(G:h.Ns mainGlobals mg):bq P w K mg base 3 "drawing_of" ["octets"] (ma K C):=by have U:=T.txt j G;have D:=T.vt j G;have z:=T.dPairs.has P w base j G fun F=>tp F U (T.iZ j G);obtain⟨f,J,M,kV,O,pm,an,cd,ct,sl,n,i,l,c,kp⟩:=T.mI.ex;have F:=yk (st:=lC) l c kp;have B:=F.binds (ps:=["self","width","height","points","lines","marks"]) fun _ _ _ _ _ _=>Lj fun _ _ _ _ _ _=>rfl;exact T.dDrw.has _ _ _ j G fun I=>Bv I D (T.iZ j G) (T.En j G) z ⟨T.cl.mak,n,i,T.cl.kc⟩ B (va F D)
theorem XO.Lb(T:XO K C)(j:K.In h)(G:h.Ns mainGlobals mg):bq P w K mg base 6 "drawing_fault" ["drawing"] (uK K C):=by have U:=T.txt j G;have D:=T.vt j G;have I:=T.mPP.has P w base (mg:=mg) fun F=>DE F D;have aa:=T.mLP.has P w base (mg:=mg) fun F=>EW F D U I;have ab:=T.mMP.has P w base (mg:=mg) fun F=>D7 F D U aa;have ai:=T.mBC.has P w base (mg:=mg) fun F=>DF F D U ab;have J:=T.mNb.has P w base (mg:=mg) fun F=>E8 F D;have n:=T.dTurn.has P w base j G vm;have ad:=T.dBet.has P w base j G CZ;have af:=T.dOn.has P w base j G fun F=>EH F ad n;have M:=T.dParts.has P w base j G fun F=>t7 F n;have O:=T.dCross.has P w base j G fun F=>ux F M;have z:=T.dBehind.has P w base j G nU;have aj:=T.dLB.has P w base j G EC;have c4:=T.dWP.has P w base j G fun F=>ED F D U I z;have c5:=T.dWL.has P w base j G fun F=>Ft F D U aa aj;have ak:=T.dLC.has P w base j G fun F=>Ez F D U;have an:=T.dER.has P w base j G fun F=>E3 F D U;have c6:=T.dOF.has P w base j G fun F=>DO F D U ak an;have ao:=T.dHP.has P w base j G fun F=>Dn F D af;have aq:=T.dCE.has P w base j G fun F=>FA F D O;have c7:=T.dEL.has P w base j G fun F=>Ed F D U aa ao aq;have c8:=T.dLoose.has P w base j G fun F=>sy F D U I J;have B:=T.dReach.has P w base j G fun F=>sT F U;have c9:=T.dUnr.has P w base j G fun F=>CQ F D U (T.gN.gi j G) I J B;have au:=T.dPart.has P w base j G fun F=>v9 F D U I J B;have av:=T.dWF.has P w base j G fun F=>FE F D;have ag:=T.dOSL.has P w base j G fun F=>BH F D af;have aw:=T.dWM.has P w base j G fun F=>Fd F D U ab av ag z;have ax:=T.dSB.has P w base j G fun F=>DA F n;have ay:=T.dHi.has P w base j G fun F=>FD F n;have az:=T.dSU.has P w base j G fun F=>Dh F D ax ay;have ac:=T.dSide.has P w base j G uW;have aA:=T.dFL.has P w base j G fun F=>Ef F n ac;have aB:=T.dSA.has P w base j G fun F=>DU F aA;have ah:=T.dOut.has P w base j G fun F=>C0 F aB;have aC:=T.dCM.has P w base j G fun F=>Em F D U ab J az ah;have aD:=T.dUP.has P w base j G fun F=>Dk F D U ai;exact T.dDF.has _ _ _ j G fun F=>Fx F U c4 c5 c6 c7 c8 c9 au aw aC aD
theorem XO.K8(T:XO K C)(j:K.In h)(G:h.Ns mainGlobals mg):bq P w K mg base 7 "cartoon_fault" ["octets"] (zK K Jd):=by have n:=T.dHC.has P w base j G fun F=>EF F (T.vt j G) (T.txt j G) (T.bC.u7 j G) (T.iZ j G) (T.sgC.sgn j G) (T.En j G);exact T.dCF.has _ _ _ j G fun F=>Ee F n (T.Ka j G) (T.Lb j G)
theorem XO.Li(T:XO K C)(j:K.In h)(G:h.Ns mainGlobals mg):bq P w K mg base 9 "workshop_fault" ["workshop"] (zK K (rL ZW)):=by have U:=T.txt j G;have W:=T.Bi j G;have n:=T.dOob.has P w base j G fun F=>CD F (T.iZ j G);have B:=T.dHW.has P w base j G fun F=>EZ F W U (T.bW.u7 j G) n (T.sgW.sgn j G) (T.A4 j G);have M:=T.dWS.has P w base j G fun F=>E5 F W U (T.bS.u7 j G) n;have O:=T.dWK.has P w base j G fun F=>FU F W U (T.bK.u7 j G) n;have I:=T.dRC.has P w base j G fun F=>EK F U;have J:=T.dWC.has P w base j G fun F=>FQ F W U I;have c7:=T.dWPa.has P w base j G fun F=>Ap F W U (T.iZ j G) J;have z:=T.dPaF.has P w base j G fun F=>Cb F W U (T.K7 j G) (T.K8 j G) M O c7;exact T.dWF2.has _ _ _ j G fun F=>CA F B (T.A4 j G) z
end
def pk(l:List Int):xA:=l.map fun(z:Int)=>UInt8.ofNat z.toNat
theorem rG:∀l:List Int,(∀z∈l,0<=z/\z<=255)->bl (pk l)=l.map V.int
 |[],_=>rfl
 | z::l,h=>by
  have q:=h z (Gj ..);have j:=rG l fun y n=>h y (xR _ n);show V.int ((UInt8.ofNat z.toNat).toNat:Int)::bl (pk l)=V.int z::l.map V.int;rw[j,UInt8.toNat_ofNat'];congr 2;lia
theorem mq(l:List Int):(pk l).length=l.length:=by simp[pk]
theorem yH{l:List Int}(h:∀z∈l,0<=z/\z<=255):PageNeutral.bytes l=some (pk l):=by
 unfold PageNeutral.bytes;rw[Wi]
 ·rfl
 ·unfold NeutralIO.bytes;grind
theorem B9{lo hi:Int}:∀{l:List Int},l.all (PySem.W.Codec.inInt lo hi)=true->∀z∈l,lo<=z/\z<=hi:=by intro l h z hz;have:=List.all_eq_true.1 h z hz;unfold PySem.W.Codec.inInt at this;simpa using this
inductive Ca(K:xz)(vs:List V)(H:Hp)(Q:VK)(E:XK):Prop
 |mk (q:Addr) (x:Nat×Nat) (m:Nat):vs=[.ref q,.int (m:Int)]->H q=some (.tup [.int (x.1:Int),.int (x.2:Int)])->(∀H' l,Qn H H'->H' l=some (.lst [.int (-5),.int ((x.1+m:Nat):Int),.int (x.2:Int)])->Q (.ref l) H')->Ca K vs H Q E
abbrev Ig:Stmt:=top 113
theorem Hx:a7 ["fault","more"] ["fault","more"] (a6 Ig):=.mk'
theorem DZ(F:bF K "refusal" "refusal" Ig f fd) (g5:GI mg "BROKEN_RULE" (-5)):QC P w K mg base bB 1 f fd ["fault","more"] (Ca K):=by apply F.bL Hx;rintro _ H Q E ⟨q,x,m,rfl,n,k⟩;refine⟨Z,fun _ _ _ _ _=>?_⟩;refine⟨_,Qd (Qj (QU (Qa (QP g5) (Qa (QA QV (Qy QO (pv 0) Qi (fun _ _=>rfl)) (pv 1)) (Qa (Qy QO (pv 0) Qi (fun _ _=>rfl)) Qc))))),?_⟩;exact⟨_,Z,q,_,_,_,Z,Z,bV.of n,Qm (j:=0) Z,_,Z,_,_,Z,Z,_,Z,q,_,_,_,Z,Z,bV.of n,Qm (j:=1) Z,(by show 3<=sizeLine;decide),fun z hz=>k _ _ (Qk _ hz) (by rw[Qe];rfl)⟩
inductive pK(K:xz)(vs:List V)(H:Hp)(Q:VK)(E:XK):Prop
 |mk (a:Addr) (x:xA):vs=[.ref a]->H a=some (.lst (bl x))->x.length<=16000000->(∀H' l,Qn H H'->H' l=some (.lst (.int 0::.int (x.length:Int)::bl x))->Q (.ref l) H')->pK K vs H Q E
abbrev Ak:Stmt:=top 114
theorem Du:a7 ["octets"] ["octets"] (a6 Ak):=.mk'
theorem AB(F:bF K "counted" "counted" Ak f fd)(U:Txt K mg):QC P w K mg base bB 1 f fd ["octets"] (pK K):=by
 apply F.bL Du;rintro _ H Q E ⟨a,x,rfl,n,hl,k⟩;refine⟨Z,fun _ _ _ _ _=>?_⟩;refine⟨_,Qd (Qj (QA Xj (QU (Qa Qi (Qa (Qx Qp Wg U.len Wx (Qa (pv 0) Qc)) Qc))) (pv 0))),?_⟩;refine⟨_,Z,a,_,Z,.inl (a'.of n),(by show 2<=sizeLine;decide),fun q z=>⟨_,Z,q,a,_,_,Z,Z,Qe,Qk _ z _ _ n,?_,fun l j=>?_⟩⟩
 ·rw[Ql];exact xK (show 2+x.length<=16000002 by lia) Wa
 ·refine k _ l ((Qk _ z).trans (Qk _ j)) ?_;rw[Qe,Ql];rfl
theorem j4{S:Gla.Plan}(h:UO b=.ok S):S=U1 b:=by
 unfold UO at h;repeat (split at h;cases h)
 cases h;rfl
structure pB(b:xA)(x:VZ):Prop where
 eq:x=Ui b (U1 (QI b))
 len:b.length=(xE b).2.2.2.2
 mag:b.take 4=G3
 plan:UO (QI b)=.ok (U1 (QI b))
 coat:∀i,i<xG b 68 4->Vg (kinds b) b ((xE b).2.2.2.1+69*i)=none
theorem j0{x:VZ}(h:Qaa b=.ok x):pB b x:=by
 unfold Qaa at h;split at h
 ·cases h
 ·split at h
  ·cases h
  ·rename_i z;split at h
   ·cases h
   ·simp only at h;split at h
    ·cases h
    ·rename_i hl;split at h
     ·cases h
     ·rename_i S j;have n:=j4 j;rw[JX] at j n;split at h
      ·cases h
      ·split at h
       ·cases h
       ·split at h
        ·cases h
        ·rename_i hf;have e:Ui b S=x:=by injection h
         refine⟨by rw[<-e,n],by lia,by simpa using z,by rw[j,n],fun i hi=>?_⟩;have:=List.findSome?_eq_none_iff.1 hf i (List.mem_range.2 hi);exact this
open PySem PySem.Spec PyProof.Rows L2 TL
def nb(b:xA):List Nat:=b.map UInt8.toNat
theorem u8{n:Nat}(h:n<256):(UInt8.ofNat n).toNat=n:=by rw[UInt8.toNat_ofNat'];lia
theorem ff{s:String}(h:∀c∈s.toList,c.toNat<256):nb (Ge s)=tl (xC s):=by rw[gC];unfold nb Ge;rw[Vx];refine UK fun c hc=>?_;exact u8 (h c hc)
end Gp
namespace L2
open PySem PySem.Spec PyProof.Rows
inductive p9(K:xz)(Pm:Params)(Q:VK)(x:V)(y:V)(H2:Hp):Prop
 |mk (a:Addr) (es:Array DictEntry) (n:Nat) (z:Str) (v:V) (u:Value):x=.ref a->y=.str z->K.lookup a=some ⟨.type "dict",none,.dict es n,#[]⟩->G7 Pm es.toList->xY K a z=some (some u)->QR v u->Q v H2->p9 K Pm Q x y H2
def Dg(K:xz)(j:Params)(td ty:TE):TE:=fun σ H Q=>td σ H fun x H1=>ty σ H1 (p9 K j Q x)
theorem zt{X:Cx}{o i:Expr}{pos:Pos}{td ty:TE}(F:PE X o td)(hi:PE X i ty)(G:vF i):PE X (.Subscript o i pos) (Dg X.K X.w.params td ty):=by intro pins s σ H Q I h;refine jA PySem.F.slot_dict_getitem.lookup G (bx (F pins s σ H _ I h) fun u J ⟨x,H1,M,O,U⟩=>bx (hi pins J σ H1 _ M U) fun iv s2 h2=>?_);obtain⟨y,H2,j,ry,a,es,n,z,v,u',rfl,rfl,hl,hk,e,rv,q2⟩:=h2;obtain rfl:u=Value.ref a:=O;obtain⟨t,rfl⟩:=ry;have B:=PySem.W.mapOf_K (prog:=X.prog) (w:=X.w) j.eE hl hk;exact⟨B.typeIs,wpAny_getItem_of (strKind_is X.prog X.w z t) B (PySem.W.find_K hl e) ⟨v,H2,j.tok _,rv,q2⟩⟩
end L2
namespace Gp
open PySem PySem.Spec PyProof.Rows L2 TL
def QN:List (String×List (Nat×Nat)):=[("workshop",[]),("window",[(2,4)]),("point",[(2,4)]),("line",[(2,2)]),("pane",[(2,4),(2,2)]),("cut",[(5,4)]),("lead",[(5,4)]),("margin",[(1,4)]),("ways",[(1,4)]),("shelf",[(1,8)]),("sheet",[(4,4)]),("kind",[(2,4)]),("glass",[(32,2)]),("paint",[(32,2)]),("coats",[(4,1)]),("end",[])]
def Qv (rs:List (Nat×Nat)):List Nat:=rs.flatMap fun r=>xS r.1 r.2
theorem jI (rs:List (Nat×Nat)) (r:Nat×Nat):Qv (rs++[r])=Qv rs++xS r.1 r.2:=by simp[Qv]
structure rA(K:xz)(Pm:Params)(mg:Str->Option Value):Prop where
 ex:∃(a:Addr)(es:Array DictEntry)(n:Nat),mg "NUMBER_RUNS" = some (.ref a)/\K.lookup a=some ⟨.type "dict",none,.dict es n,#[]⟩/\G7 Pm es.toList/\
  ∀(s:String) (rs:List (Nat×Nat)),(s,rs)∈QN->∃(q:Addr)(as:List Addr),xY K a (xC s)=some (some (.ref q))/\(∀H,bV K H q (as.map V.ref))/\as.length=rs.length/\
   ∀(i:Nat)(c:Addr)(r:Nat×Nat),as[i]?=some c->rs[i]?=some r->∀H,bV K H c [.int (r.1:Int),.int (r.2:Int)]
theorem zT:∀s rs,(s,rs)∈QN->(Qv rs).length<=32/\(∀r∈rs,r.1<=32):=by intro s rs h;simp only[QN,GY,Prod.mk.injEq,GF,Ws]at h;rcases h with⟨_,rfl⟩|⟨_,rfl⟩|⟨_,rfl⟩|⟨_,rfl⟩|⟨_,rfl⟩|⟨_,rfl⟩|⟨_,rfl⟩|⟨_,rfl⟩|⟨_,rfl⟩|⟨_,rfl⟩|⟨_,rfl⟩|⟨_,rfl⟩|⟨_,rfl⟩|⟨_,rfl⟩|⟨_,rfl⟩|⟨_,rfl⟩<;>decide
theorem iC (rs:List (Nat×Nat)) (i:Nat):(Qv (rs.take i)).length<=(Qv rs).length:=by
 conv=>rhs;rw[<-Vq i rs]
 unfold Qv;grind
abbrev II:Stmt:=top 61
inductive AR(K:xz)(vs:List V)(H:Hp)(Q:VK)(E:XK):Prop
 |mk (s:String) (rs:List (Nat×Nat)):vs=[.str (xC s)]->(s,rs)∈QN->(∀H' l,Qn H H'->H' l=some (.lst (ni (Qv rs)))->Q (.ref l) H')->AR K vs H Q E
theorem AS:a7 ["word","sizes","run"] ["word"] (a6 II):=.mk'
theorem l5(c:Nat)(x:Nat):(xS ((c:Int).toNat) [V.int (x:Int)]).flatten=ni (xS c x):=by
 rw[Ub];induction c with
 |zero=>rfl
 |succ c j=>rw[GP,Gr,j,GP];rfl
theorem DV(F:bF K "number_sizes" "number_sizes" II f fd)(R:rA K w.params mg):QC P w K mg base bB 1 f fd ["word"] (AR K):=by
 obtain⟨ad,es,nd,G,I,J,hR⟩:=R.ex;apply F.bL AS;rintro _ H Q E ⟨sw,rs,rfl,hm,k⟩;refine⟨Z,fun _ _ _ _ _=>?_⟩;obtain⟨q,as,hn,hq,n,M⟩:=hR sw rs hm;obtain⟨O,U⟩:=zT sw rs hm
 refine⟨_,Qb (bz 1 AS.nd (QU Qc))
  (Qb (QL PassesOwn.never Z (jT (zt (Xp G) (pv 0) (fun _ _=>rfl))) (b0 2 AS.nd)
   (Qd (Zf (Xd xU GK GL ZR (pv 1) (Qa (QA uc (QU (Qa (Qy QO (pv 2) Qi (fun _ _=>rfl)) Qc)) (Qy QO (pv 2) Qi (fun _ _=>rfl))) Qc)))))
  (Qd (Qj (pv 1)))),?_⟩
 refine⟨x4 _,fun l hl=>?_⟩
 refine⟨_,Z,ad,es,nd,_,.ref q,_,Z,Z,I,J,hn,Z,q,Z,⟨_,hq _⟩,zx (K:=K) (a:=q) (xs:=as.map V.ref) (fun i σ H'=>∃v2:Option V,ek (σ=[some (.str (xC sw)),some (.ref l),v2]) (Qn H H') (H' l=some (.lst (ni (Qv (rs.take i))))))
  ⟨none,Z,Qk _ hl,Qe⟩ (fun i σ H' _ _=>hq H') ?_ ?_⟩
 ·rintro i x σ H1 hx ⟨v2,rfl,z,h1⟩;obtain⟨c,hc,rfl⟩:=Zm hx;have hi:i<rs.length:=by rw[<-n];exact (List.getElem?_eq_some_iff.1 hc).1
  have eM:rs[i]?=some rs[i]:=xD hi;have B:=M i c rs[i] hc eM;have sm:=U rs[i] (xP hi);refine⟨_,Z,.inl ⟨Z,_,a'.of h1⟩,_,Z,c,_,_,_,Z,Z,B _,Qm (j:=1) Z,(by show 1<=sizeLine;decide),fun p hp=>?_⟩;refine⟨_,Z,c,_,_,_,Z,Z,B _,Qm (j:=0) Z,p,_,_,Z,Z,Qe,?_,?_,?_,fun t ht=>?_⟩
  ·lia
  ·lia
  ·rw[Ub,G0,Qas];exact xK sm Wa
  have lt:l≠p:=Qg h1 hp;have l2:l≠t:=Qg (by rw[Qh lt];exact h1) ht
  have aa:upd (upd H1 p (.lst [V.int ((rs[i].2:Nat):Int)])) t (.lst (xS ((rs[i].1:Nat):Int).toNat [V.int ((rs[i].2:Nat):Int)]).flatten) l=some (.lst (ni (Qv (rs.take i)))):=by rw[Qh l2,Qh lt];exact h1
  have et:Qv (rs.take (i+1))=Qv (rs.take i)++xS rs[i].1 rs[i].2:=by rw[Ug,eM];exact jI _ _
  have lb:(Qv (rs.take (i+1))).length<=32:=xK (iC rs (i+1)) O;refine⟨l,t,_,_,Z,Z,aa,Qe,?_,?_⟩
  ·rw[l5]
   have e2:(ni (Qv (rs.take i))).length+(ni (xS rs[i].1 rs[i].2)).length=(Qv (rs.take (i+1))).length:=by rw[et,xF];simp[ni]
   rw[e2];exact xK lb Wa
  ·refine⟨_,Z,fun b o e=>?_,?_⟩
   ·rw[Qh (Qg e hl),Qh (Qg (by rw[Qh (Qg (z _ _ e) hp)];exact z _ _ e) ht),Qh (Qg (z _ _ e) hp)];exact z _ _ e
   ·rw[Qe,l5,et];simp[ni]
 ·rintro σ H1 ⟨v2,rfl,z,h1⟩;rw[xB,n,Gy]at h1;exact⟨_,Z,k H1 l z h1⟩
end Gp
namespace L2
open PySem PySem.Spec PyProof.Rows
theorem Ar{x:Str}{g:TG}{tt:TT}{te:TE}{vs:List Nat}{σ:St}{H1:Hp}{D:Addr}{I:Hp->Prop}(j:Nat->Hp->Prop) (h0:j 0 (upd H1 D (.lst [])))
  (M:∀ i c H,x.cps[i]?=some c->j i H->g (.str ⟨#[c]⟩) (ZB σ vs) H fun n H2=>ZB n vs=ZB σ vs/\tt n H2 fun b z=>
   if b=true then te n z fun y B=>∃acc,B D=some (.lst acc)/\acc.length<sizeLine/\j (i+1) (upd B D (.lst (acc++[y]))) else j (i+1) z) (hd:∀H,j x.cps.size H->I H) :
  ∃W:Nat->Nat->Hp->Prop,(∃m,W 0 m (upd H1 D (.lst [])))/\∀i m H,W i m H->
   ((Fp x).stop i H/\I H)\/((Fp x).go i H/\∃ G:Hp->Prop,(∀ H',G H'->∃ J,J<m/\W (i+1) J H')/\∀ y H',(Fp x).yld i H y H'->g y (ZB σ vs) H' fun n H2=>ZB n vs=ZB σ vs/\tt n H2 fun b z=>
    if b=true then te n z fun y B=>∃acc,B D=some (.lst acc)/\acc.length<sizeLine/\G (upd B D (.lst (acc++[y]))) else G z):=by
 refine⟨fun i m H=>m=x.cps.size-i/\i<=x.cps.size/\j i H,⟨x.cps.size,by simp,x4 _,h0⟩,?_⟩;rintro i m H ⟨rfl,hi,p⟩;by_cases F:i<x.cps.size
 ·refine .inr ⟨F,j (i+1),fun H' O=>⟨x.cps.size-(i+1),by lia,Z,F,O⟩,fun y H' q=>?_⟩;obtain⟨e,c,hc,rfl⟩:=q;subst e;exact M i c _ hc p
 ·have e:i=x.cps.size:=by lia
  subst e;exact .inl ⟨xM _,hd H p⟩
end L2
namespace Gp
open PySem PySem.Spec PyProof.Rows L2 TL
theorem Af(b:xA):bl b=ni (nb b):=by simp[bl,ni,nb]
theorem oq:bootBuiltins "ord" = some (.builtin "ord"):=by decide +kernel
open PySem PySem.Spec PyProof.Rows L2
inductive qr(K:xz):List Value->List (Nat×Nat)->Prop
 |nil:qr K [] []
 |cons {a:Addr} {r:Nat×Nat} {us:List Value} {rs:List (Nat×Nat)}:Jh K a [.int (r.1:Int),.int (r.2:Int)]->qr K us rs->qr K (Value.ref a::us) (r::rs)
theorem qr.rows:∀{us:List Value} {rs:List (Nat×Nat)},qr K us rs->∃as:List Addr,us=as.map Value.ref/\as.length=rs.length/\∀(i:Nat)(a:Addr)(r:Nat×Nat),as[i]?=some a->rs[i]?=some r->∀H,bV K H a [.int (r.1:Int),.int (r.2:Int)]
 |_,_,.nil=>⟨[],Z,Z,fun i a r h _=>by simp at h⟩
 | _,_,.cons (a:=a) h t=>by
  obtain⟨as,e,l,k⟩:=t.rows;subst e;refine⟨a::as,Z,by rw[xO,xO,l],fun i b r h1 h2=>?_⟩;cases i with
  |zero=>cases h1;cases h2;exact h.sq
  |succ i=>exact k i b r (by simpa using h1) (by simpa using h2)
def mP(K:xz)(a:Addr)(s:String) (rs:List (Nat×Nat)):Prop:=∃(q:Addr) (j:Option Addr) (a8:Array Value) (n:Nat) (z:Array (Option Value)),xY K a (xC s)=some (some (.ref q))/\K.lookup q=some ⟨.type "tuple",j,.seq a8 n,z⟩/\a8.size<=sizeLine/\qr K a8.toList rs
theorem uj{s:String} {rs:List (Nat×Nat)} {q:Addr} {j:Option Addr} {a8:Array Value} {n:Nat} {B:Array (Option Value)} (e:xY K a (xC s)=some (some (.ref q))) (l:K.lookup q=some ⟨.type "tuple",j,.seq a8 n,B⟩) (z:a8.size<=sizeLine) (r:qr K a8.toList rs):mP K a s rs:=⟨q,j,a8,n,B,e,l,z,r⟩
theorem uA{r:Nat×Nat}{us:List Value} {rs:List (Nat×Nat)} (h:Jh K a [.int (r.1:Int),.int (r.2:Int)]) (t:qr K us rs):qr K (Value.ref a::us) (r::rs):=.cons h t
inductive Xz(K:xz)(a:Addr):List (String×List (Nat×Nat))->Prop
 |nil:Xz K a []
 |cons {s:String} {rs:List (Nat×Nat)} {l:List (String×List (Nat×Nat))}:mP K a s rs->Xz K a l->Xz K a ((s,rs)::l)
theorem Xz.mem:∀{l:List (String×List (Nat×Nat))},Xz K a l->∀s rs,(s,rs)∈l->mP K a s rs
 |_,.nil,s,rs,h=>by cases h
 | _,.cons h t,s,rs,m=>by
  rcases List.mem_cons.1 m with e|m
  ·lia
  ·exact t.mem s rs m
def xt(K:xz)(j:Params):Prop:=∃(a:Addr)(es:Array DictEntry)(n:Nat),xY K mainGlobals "NUMBER_RUNS" = some (some (.ref a))/\K.lookup a=some ⟨.type "dict",none,.dict es n,#[]⟩/\G7 j es.toList/\Xz K a QN
theorem mV{j:Params}{es:Array DictEntry}{n:Nat} (e:xY K mainGlobals "NUMBER_RUNS" = some (some (.ref a))) (l:K.lookup a=some ⟨.type "dict",none,.dict es n,#[]⟩) (k:G7 j es.toList) (r:Xz K a QN):xt K j:=⟨a,es,n,e,l,k,r⟩
theorem i6{s:String} {rs:List (Nat×Nat)} {l:List (String×List (Nat×Nat))} (h:mP K a s rs) (t:Xz K a l):Xz K a ((s,rs)::l):=.cons h t
theorem xt.g{j:Params}{h:Heap}(B:K.In h)(G:h.Ns mainGlobals mg)(R:xt K j):rA K j mg:=by obtain⟨a,es,n,e,l,k,r⟩:=R;refine⟨a,es,n,Uj B G e,l,k,fun s rs F=>?_⟩;obtain⟨q,U,a8,m,sl,I,J,z,M⟩:=r.mem s rs F;obtain⟨as,O,h1,h2⟩:=M.rows;refine⟨q,as,I,fun H=>.inr ⟨_,a8,m,J,Z,Z,z,?_⟩,h1,h2⟩;rw[O];exact Jj as
def sf(a:Addr)(i:Nat)(d:Addr):List (Str×V):=Zu "rows" (.ref d) (Zu "place" (.int (i:Int)) (Zu "text" (.ref a) []))
theorem CB(a:Addr)(i:Nat)(d:Addr):(sf a i d).lookup ("text" : Str)=some (.ref a):=by unfold sf;rw[Qu,Wh Wb,Qu,Wh Wb,Qu,Wi Z]
theorem jJ(a:Addr)(i:Nat)(d:Addr):(sf a i d).lookup ("place" : Str)=some (.int (i:Int)):=by unfold sf;rw[Qu,Wh Wb,Qu,Wi Z]
theorem oN(a:Addr)(i:Nat)(d:Addr):(sf a i d).lookup ("rows" : Str)=some (.ref d):=by unfold sf;rw[Qu,Wi Z]
theorem zP(a:Addr)(i:Nat)(d:Addr){m:Str}(h1:¬m = "rows")(h2:¬m = "place")(j:¬m = "text"):(sf a i d).lookup m=none:=by unfold sf;rw[Qu,Wh h1,Qu,Wh h2,Qu,Wh j];rfl
theorem zQ(a:Addr)(i:Nat)(d:Addr):(sf a i d).length<1000:=by
 have e:(sf a i d).length=3:=by kernel_rfl
 rw[e];decide
theorem zO(a:Addr)(i j:Nat)(d:Addr):Zu "place" (.int (j:Int)) (sf a i d)=sf a j d:=by kernel_rfl
structure JY(K:xz)(mg:Str->Option Value)(C:Addr):Prop where
 cl:ph K C
 nT:Q8 K C "text"
 nP:Q8 K C "place"
 nR:Q8 K C "rows"
 mgC:mg "Scan" = some (.ref C)
 g10:GI mg "LINE_END" 10
 g32:GI mg "BLANK" 32
 g48:GI mg "ZERO" 48
 g57:GI mg "NINE" 57
abbrev uM:Stmt:=inClass (top 91) 0
abbrev HA:Stmt:=inClass (top 91) 1
abbrev IL:Stmt:=inClass (top 91) 2
abbrev Hy:Stmt:=inClass (top 91) 3
abbrev HV:Stmt:=top 92
structure YK(K:xz)(C:Addr)(H:Hp)(p dx a d:Addr)(t:xA)(i:Nat):Prop where
 ins:H p=some (.ins C dx (sf a i d))
 txt:a' K H a (bl t)
def uY(t:xA)(i:Nat):V:=match t[i]? with|some c=>.int (c.toNat:Int)|none=>.bP
inductive tr(K:xz)(C:Addr)(vs:List V)(H:Hp)(Q:VK)(E:XK):Prop
 |mk (p dx a d:Addr) (t:xA) (i n:Nat) (z:Int):vs=[.ref p,.int z]->z=(n:Int)->YK K C H p dx a d t i->Q (uY t (i+n)) H->tr K C vs H Q E
inductive vQ(K:xz)(C:Addr)(vs:List V)(H:Hp)(Q:VK)(E:XK):Prop
 |mk (p dx a d:Addr) (t:xA) (i:Nat) (c:UInt8) (z:Int):vs=[.ref p,.int z]->z=(c.toNat:Int)->YK K C H p dx a d t i->(if t[i]?=some c then Q (.bl true) (upd H p (.ins C dx (sf a (i+1) d))) else Q (.bl false) H)->vQ K C vs H Q E
theorem HZ:a7 ["self","distance"] ["self","distance"] (a6 HA):=.mk'
theorem IY:a7 ["self","octet"] ["self","octet"] (a6 IL):=.mk'
theorem E1(F:bF K "octet_ahead" "Scan.octet_ahead" HA f fd)(T:JY K mg C)(U:Txt K mg):QC P w K mg base bB 1 f fd ["self","distance"] (tr K C):=by
 apply F.bL HZ;rintro _ H Q E ⟨p,dx,a,d,t,i,n,z,rfl,rfl,D,k⟩;refine⟨Z,fun _ _ _ _ _=>?_⟩
 refine⟨_,Qb (QD (Qs ZE (QA QV (Qw (pv 0) Z) (pv 1)) (Qx Qp Wg U.len Wx (Qa (Qw (pv 0) Z) Qc)) (Qo _))
  (Qd (Qj (Qy QE (Qw (pv 0) Z) (QA QV (Qw (pv 0) Z) (pv 1)) (fun _ _=>rfl)))) Qq) (Qd (Qj QT)),?_⟩
 refine⟨_,Z,p,C,dx,_,_,Z,D.ins,T.cl,T.nP,jJ _ _ _,_,Z,_,_,Z,Z,_,Z,p,C,dx,_,_,Z,D.ins,T.cl,T.nT,CB _ _ _,a,_,Z,.inl D.txt,_,_,Z,Z,_,Z,?_⟩;refine Qz (fun h=>?_) (fun h=>?_)
 ·have hl:i+n<t.length:=by have:=Wj h;rw[Ql] at this;lia
  refine⟨_,Z,p,C,dx,_,_,Z,D.ins,T.cl,T.nT,CB _ _ _,_,Z,p,C,dx,_,_,Z,D.ins,T.cl,T.nP,jJ _ _ _,_,Z,_,_,Z,Z,a,_,_,_,Z,Z,D.txt,Qm (j:=i+n) (v:=.int ((t[i+n]'hl).toNat:Int)) ?_,?_⟩
  ·unfold bl;rw[xJ,xD hl];rfl
  ·unfold uY at k;rw[xD hl]at k;exact k
 ·have hl:¬ i+n<t.length:=by intro q;apply h;rw[Ql];exact Wk L
  unfold uY at k;rw[Ud L]at k;exact k
def oI(t:xA)(i:Nat):PyData:=match t[i]? with|some c=>.int (c.toNat:Int)|none=>.none
theorem rC(K:xz)(H:Hp)(t:xA)(i:Nat):Dp K H (uY t i) (oI t i):=by
 unfold uY oI;cases t[i]? with
 |none=>exact .bP
 |some c=>exact .int _
theorem lD(t:xA)(i:Nat):SeqAt.shaped (oI t i)=true:=by
 unfold oI;cases t[i]? with
 |none=>rfl
 |some c=>rfl
theorem lq(t:xA)(i:Nat)(c:UInt8):PyData.eqv (oI t i) (.int (c.toNat:Int))=decide (t[i]?=some c):=by
 unfold oI;cases t[i]? with
 |none=>rfl
 | some b=>
  show decide ((b.toNat:Int)=(c.toNat:Int))=_;refine decide_eq_decide.2 ⟨fun e=>?_,fun e=>?_⟩
  ·rw[UInt8.toNat_inj.1 (Int.ofNat.inj e)]
  ·cases e;rfl
theorem FG(F:bF K "takes" "Scan.takes" IL f fd)(T:JY K mg C) (M:XQ P w K mg base C 1 "octet_ahead" ["self","distance"] (tr K C)):QC P w K mg base bB 2 f fd ["self","octet"] (vQ K C):=by
 obtain⟨I,j,n,B,G⟩:=M.ex;apply F.bL IY;rintro _ H Q E ⟨p,dx,a,d,t,i,c,z,rfl,rfl,D,k⟩;refine⟨Z,fun _ _ _ _ hr=>?_⟩
 refine⟨_,Qb (QD (Qs (jW hr.units) (Q4 (pv 0) T.cl n G hr B .nil Zc (Qa Qi Qc)) (pv 1) (Qo _))
  (Qd (Qj Xe)) Qq) (Qb (Jn (pv 0) Qi j7) (Qd (Qj Xe))),?_⟩
 refine⟨_,Z,p,dx,_,Z,D.ins,zP _ _ _ Wb Wb Wb,p,dx,a,d,t,i,0,_,Z,Z,D,_,Z,_,_,rC _ _ _ _,.int _,lD _ _,Z,_,Z,?_⟩;rw[lq];by_cases h:t[i]?=some c
 ·rw[Wi h]at k;rw[UL,Wk h];refine Jb ?_;refine⟨_,Z,p,C,dx,_,_,Z,D.ins,T.cl,T.nP,jJ _ _ _,_,_,Z,Z,dx,_,D.ins,zQ _ _ _,?_⟩;rw[show((i:Int)+1)=((i+1:Nat):Int) by lia,zO];exact k
 ·rw[Wh h]at k;rw[UL,Wl h];exact ZG k
theorem rS{ws t:xA}{i j:Nat}{c:UInt8}(h1:ws[j]?=some c)(h2:t[i]?=some c):Go (ws.drop j) (t.drop i)=Go (ws.drop (j+1)) (t.drop (i+1))+1:=by obtain⟨n,z⟩:=List.getElem?_eq_some_iff.1 h1;obtain⟨B,F⟩:=List.getElem?_eq_some_iff.1 h2;rw[GC n,GC B,z,F];show(if c=c then _ else _)=_;lia
theorem yz{ws t:xA}{i j:Nat}(h:∀c,ws[j]?=some c->¬t[i]?=some c):Go (ws.drop j) (t.drop i)=0:=by
 rcases Uk j ws.length with n|n
 ·rcases Uk i t.length with z | z
  ·rw[GC n,GC z];show(if ws[j]=t[i] then _ else _)=_;rw[Wh];intro e;apply h _ (xD n);grind
  ·rw[GH z];cases ws.drop j<;>rfl
 ·rw[GH n];rfl
theorem CV{i:Nat}{c:UInt8}(h:b[i]?=some c):(bl b)[i]?=some (.int (c.toNat:Int)):=by unfold bl;rw[xJ,h];rfl
inductive Bg(K:xz)(C:Addr)(vs:List V)(H:Hp)(Q:VK)(E:XK):Prop
 |mk (p dx a d l:Addr) (t ws:xA) (i:Nat):vs=[.ref p,.ref l]->YK K C H p dx a d t i->a' K H l (bl ws)->Q (.int (Go ws (t.drop i):Int)) H->Bg K C vs H Q E
theorem Cc:a7 ["scan","octets","count"] ["scan","octets"] (a6 HV):=.mk'
theorem Fj(F:bF K "agreeing_count" "agreeing_count" HV f fd)(T:JY K mg C)(U:Txt K mg) (M:XQ P w K mg base C 1 "octet_ahead" ["self","distance"] (tr K C)):QC P w K mg base bB 2 f fd ["scan","octets"] (Bg K C):=by
 obtain⟨fm,J,O,bm,G⟩:=M.ex;apply F.bL Cc;rintro _ H Q E ⟨p,dx,a,d,l,t,ws,i,rfl,D,hl,k⟩;refine⟨Z,fun _ _ _ _ hr=>?_⟩
 refine⟨_,Qb (bz 2 Cc.nd Qi)
  (Qb (Yl PassesOwn.never (Y0 (Qs ZE (pv 2) (Qx Qp Wg U.len Wx (Qa (pv 1) Qc)) (Qo _))
    (XW (Qs (sE hr.units) (Q4 (pv 0) T.cl O G hr bm .nil Zc (Qa (pv 2) Qc)) (Qy QE (pv 1) (pv 2) (fun _ _=>rfl)) (Qo _)))).pt
   (Qd (As (i:=2) Cc.nd Z (G1 Z) Qi BW)))
  (Qd (Qj (pv 2)))),?_⟩
 refine⟨fun m σ H'=>H'=H/\∃j:Nat,σ=[some (.ref p),some (.ref l),some (.int (j:Int))]/\m=ws.length-j/\Go ws (t.drop i)=j+Go (ws.drop j) (t.drop (i+j)),⟨ws.length,Z,0,Z,Z,by simp⟩,?_⟩;rintro m σ H2 ⟨rfl,j,rfl,rfl,z⟩;refine⟨_,Z,_,Z,l,_,Z,.inl hl,_,_,Z,Z,_,Z,Qz (fun h1=>?_) (fun h1=>?_)⟩
 ·have B:j<ws.length:=by have:=Wj h1;rw[Ql] at this;lia
  have hw:=xD B;refine⟨_,Z,p,dx,_,Z,D.ins,zP _ _ _ Wb Wb Wb,_,Z,p,dx,a,d,t,i,j,_,Z,Z,D,_,Z,_,Z,l,_,_,_,Z,Z,hl,Qm (j:=j) (CV hw),_,_,rC _ _ _ _,.int _,lD _ _,Z,_,Z,?_⟩;rw[lq];by_cases h:t[i+j]?=some (ws[j])
  ·rw[Wk h];refine ZG ?_;refine⟨fun I H'=>H'=H2/\∃n:Nat,I=[some (.ref p),some (.ref l),some (.int (n:Int))]/\ws.length-(j+1)=ws.length-n/\Go ws (t.drop i)=n+Go (ws.drop n) (t.drop (i+n)),fun I H' h=>⟨ws.length-(j+1),by lia,h⟩,?_⟩;refine⟨_,Z,_,_,Z,Z,Z,j+1,Z,Z,?_⟩;rw[z,rS hw h,Gs i j 1];lia
  ·rw[Wl h];refine Jb ?_;rw[z,yz (fun c hc=>by rw[hw]at hc;cases hc;exact h),UL]at k;exact⟨_,Z,k⟩
 ·have B:ws.length<=j:=by
   rcases Uk j ws.length with q|q
   ·refine Wm (Wk ?_) h1;rw[Ql];lia
   ·exact q
  rw[z,yz (fun c hc=>by rw[Ud B]at hc;cases hc),UL]at k;exact Jb ⟨_,Z,k⟩
theorem a'.oA{H H':Hp}{p dx C a:Addr} {fs:List (Str×V)} {xs:List V} (k:cC p H H') (j:H p=some (.ins C dx fs)) (h:a' K H a xs):a' K H' a xs:=by
 rcases h with(h|⟨o,h⟩)|h
 ·exact .inl (.inl (k _ _ h (YG h j (by intro z;cases z))))
 ·exact .inl (.inr ⟨o,k _ _ h (YG h j (by intro z;cases z))⟩)
 ·exact .inr h
theorem YK.go{C p dx a d:Addr}{H H':Hp}{i j:Nat}(D:YK K C H p dx a d t i)(k:cC p H H') (e:H' p=some (.ins C dx (sf a j d))):YK K C H' p dx a d t j:=
 ⟨e,a'.oA k D.ins D.txt⟩
theorem cC.refl(p:Addr)(H:Hp):cC p H H:=fun _ _ e _=>e
theorem cC.trans{p:Addr}{H H1 H2:Hp}(a:cC p H H1)(b:cC p H1 H2):cC p H H2:=fun x o e n=>b _ _ (a _ _ e n) n
theorem cC.upd{p:Addr}{H:Hp}{o:HO}:cC p H (upd H p o):=fun x o' e n=>by rw[Qh n];exact e
def u4:Option Nat->V|none=>.bP|some n=>.int (n:Int)
def IU:Option Nat->PyData|none=>.none|some n=>.int (n:Int)
theorem sM(K:xz)(H:Hp)(v:Option Nat):Dp K H (u4 v) (IU v):=by
 cases v with
 |none=>exact .bP
 |some n=>exact .int _
theorem rX(v:Option Nat):SeqAt.shaped (IU v)=true:=by cases v<;>rfl
theorem wX(v:Option Nat):PyData.eqv (IU v) (.int 0)=decide (v=some 0):=by
 cases v with
 |none=>rfl
 | some n=>
  show decide ((n:Int)=0)=_;refine decide_eq_decide.2 ⟨fun e=>?_,fun e=>?_⟩
  ·grind
  ·cases e;rfl
abbrev Ic:Stmt:=top 96
inductive vh(K:xz)(C:Addr)(vs:List V)(H:Hp)(Q:VK)(E:XK):Prop
 |mk (p dx a d:Addr) (t:xA) (i m:Nat) (z:Int):vs=[.ref p,.int z]->z=(m:Int)->YK K C H p dx a d t i->(∀H',H' p=some (.ins C dx (sf a (i+(Pl.cq m (t.drop i)).2) d))->cC p H H'->Q (u4 (Pl.cq m (t.drop i)).1) H')->vh K C vs H Q E
theorem sv:a7 ["scan","largest","number","octet","longer"] ["scan","largest"] (a6 Ic):=.mk'
theorem sU{m:Nat}{v:Option Nat}{i:Nat}(h:t[i]?=none):Pl.cf m v (t.drop i)=(v,0):=by rw[GH (List.getElem?_eq_none_iff.1 h)];rfl
theorem nh{m:Nat}{v:Option Nat}{i:Nat}{c:UInt8}(h:t[i]?=some c):Pl.cf m v (t.drop i)=if Vv c=false then(v,0) else
  if v=some 0\/m<10*v.getD 0+(c.toNat-48) then(v,0) else((Pl.cf m (some (10*v.getD 0+(c.toNat-48))) (t.drop (i+1))).1,(Pl.cf m (some (10*v.getD 0+(c.toNat-48))) (t.drop (i+1))).2+1):=by
 obtain⟨l,e⟩:=List.getElem?_eq_some_iff.1 h;rw[GC l,e];rfl
theorem FR(F:bF K "take_number" "take_number" Ic f fd)(T:JY K mg C) (M:XQ P w K mg base C 1 "octet_ahead" ["self","distance"] (tr K C)):QC P w K mg base bB 2 f fd ["scan","largest"] (vh K C):=by
 obtain⟨fm,aa,hm,bm,G⟩:=M.ex;apply F.bL sv;rintro _ H Q E ⟨p,dx,a,d,t,i,m,z,rfl,rfl,D,k⟩;refine⟨Z,fun _ _ _ _ hr=>?_⟩
 refine⟨_,Qb (bz 2 sv.nd QT)
  (Qd (Yl PassesOwn.never (Zd Xe)
   (Qb (bz 3 sv.nd (Q4 (pv 0) T.cl hm G hr bm .nil Zc (Qa Qi Qc)))
   (Qb (QD (Xo (Q6 (Y5 (pv 3))) (Xo (Qs ZE (pv 3) (QP T.g48) (Qo _)) (ZM (Qs Zn (pv 3) (QP T.g57) (Qo _))))).pt (Qd (Qj (pv 2))) Qq)
   (Qb (bz 4 sv.nd (QA Xi (QA QV (XG (Q6 (Y5 (pv 2))) Qi (QA ZN (pv 2) Qi)) (pv 3)) (QP T.g48)))
   (Qb (QD (Xo (Qs (sE hr.units) (pv 2) Qi (Qo _)) (ZM (Qs Zn (pv 4) (pv 1) (Qo _)))).pt (Qd (Qj (pv 2))) Qq)
   (Qb (bz 2 sv.nd (pv 4))
   (Qd (Jn (pv 0) Qi j7))))))))),?_⟩
 refine⟨fun q σ H'=>∃(n:Nat)(v:Option Nat)(O U:Option V),σ=[some (.ref p),some (.int (m:Int)),some (u4 v),O,U]/\H' p=some (.ins C dx (sf a (i+n) d))/\cC p H H'/\q=t.length-(i+n)/\
   Pl.cq m (t.drop i)=((Pl.cf m v (t.drop (i+n))).1,n+(Pl.cf m v (t.drop (i+n))).2),⟨_,0,none,none,none,Z,D.ins,cC.refl _ _,Z,by simp[Pl.cq]⟩,?_⟩
 rintro q σ H2 ⟨n,v,O,U,rfl,hp,hb,rfl,tn⟩;have D2:=D.go hb hp;refine⟨_,Z,ZG ?_⟩
 refine⟨fun dw H'=>∃(J:Nat)(v:Option Nat)(O U:Option V),dw=[some (.ref p),some (.int (m:Int)),some (u4 v),O,U]/\H' p=some (.ins C dx (sf a (i+J) d))/\cC p H H'/\t.length-(i+n+1)=t.length-(i+J)/\i+n<t.length/\
   Pl.cq m (t.drop i)=((Pl.cf m v (t.drop (i+J))).1,J+(Pl.cf m v (t.drop (i+J))).2),fun dw H' ⟨J,v,O,U,e1,e2,e3,e4,e5,e6⟩=>⟨t.length-(i+n+1),by lia,J,v,O,U,e1,e2,e3,e4,e6⟩,?_⟩
 refine⟨_,Z,p,dx,_,Z,hp,zP _ _ _ Wb Wb Wb,p,dx,a,d,t,i+n,0,_,Z,Z,D2,?_⟩
 have stop:Pl.cf m v (t.drop (i+n))=(v,0)->Q (u4 v) H2:=fun e=>by
  grind
 cases hc:t[i+n]? with
 | none=>
  have st:=stop (sU hc);have e:uY t (i+n+0)=.bP:=by unfold uY;rw[UL,hc]
  rw[e];refine⟨_,Z,_,Z,?_⟩;exact ZG (ZG ⟨_,Z,st⟩)
 | some c=>
  have e:uY t (i+n+0)=.int (c.toNat:Int):=by unfold uY;rw[UL,hc]
  rw[e];refine⟨_,Z,_,Z,Jb ?_⟩;have j:=nh (m:=m) (v:=v) hc;have lt:i+n<t.length:=(List.getElem?_eq_some_iff.1 hc).1;refine⟨_,Z,_,_,Z,Z,_,Z,Qz (fun h1=>?_) (fun h1=>?_)⟩
  ·have h1:=Wj h1
   have nd:Vv c=false:=by unfold Vv;lia
   rw[Wi nd]at j;exact ZG ⟨_,Z,stop j⟩
  ·have h1:¬ ((c.toNat:Int)<48):=fun q=>h1 (Wk q);refine⟨_,Z,_,_,Z,Z,_,Z,Qz (fun h2=>?_) (fun h2=>?_)⟩
   ·have h2:=Wj h2
    have nd:Vv c=false:=by unfold Vv;lia
    rw[Wi nd]at j;exact⟨_,Z,stop j⟩
   ·have h2:¬ ((57:Int)<(c.toNat:Int)):=fun q=>h2 (Wk q)
    have yd:Vv c=true:=by unfold Vv;grind
    rw[Wh (by rw[yd];simp)]at j;cases v with
    | none=>
     refine⟨_,Z,_,Z,ZG ⟨_,Z,_,_,Z,Z,_,_,Z,Z,?_⟩⟩;refine⟨_,Z,_,_,sM _ _ none,.int _,rX _,Z,_,Z,?_⟩;rw[wX];refine Qz (fun I=>?_) (fun I=>?_)
     ·lia
     ·have I:¬ (none:Option Nat)=some 0:=fun q=>I (Wk q);refine⟨_,Z,_,Z,_,_,Z,Z,_,Z,Qz (fun B=>?_) (fun B=>?_)⟩
      ·have B:=Wj B;rw[Wi (.inr (by simp only[Vb];lia))]at j;exact⟨_,Z,stop j⟩
      ·have B:¬ ((m:Int)<0+(c.toNat:Int)-48):=fun q=>B (Wk q)
       rw[Wh (by
        intro q;rcases q with q|q
        ·exact I q
        ·exact B (by simp only[Vb]at q;lia))]at j
       refine⟨_,Z,_,Z,p,C,dx,_,_,Z,hp,T.cl,T.nP,jJ _ _ _,_,_,Z,Z,dx,_,hp,zQ _ _ _,?_⟩;refine⟨n+1,some (0+(c.toNat-48)),some (.int (c.toNat:Int)),some (.int (0+(c.toNat:Int)-48)),?_,?_,hb.trans cC.upd,Z,lt,?_⟩
       ·rw[show(u4 (some (0+(c.toNat-48))))=.int (0+(c.toNat:Int)-48) from Wn V.int L];rfl
       ·rw[Qe,show(((i+n:Nat):Int)+1)=((i+(n+1):Nat):Int) by lia,zO]
       ·rw[tn,j];simp only[Vb,Vc,Nat.mul_zero,U5,Gs];rw[Vj 1]
    | some u=>
     refine⟨_,Z,_,Z,Jb ⟨_,Z,_,_,Z,Z,.inr ⟨by decide,by decide⟩,_,Z,_,_,Z,Z,_,_,Z,Z,?_⟩⟩;refine⟨_,Z,_,_,sM _ _ (some u),.int _,rX _,Z,_,Z,?_⟩;rw[wX];refine Qz (fun I=>?_) (fun I=>?_)
     ·rw[Wi (.inl (Wj I))]at j;exact ZG ⟨_,Z,stop j⟩
     ·have I:¬ ((some u):Option Nat)=some 0:=fun q=>I (Wk q);refine⟨_,Z,_,Z,_,_,Z,Z,_,Z,Qz (fun B=>?_) (fun B=>?_)⟩
      ·have B:=Wj B;rw[Wi (.inr (by simp only[Vc];lia))]at j;exact⟨_,Z,stop j⟩
      ·have B:¬ ((m:Int)<(u:Int)*10+(c.toNat:Int)-48):=fun q=>B (Wk q)
       rw[Wh (by
        intro q;rcases q with q|q
        ·exact I q
        ·exact B (by simp only[Vc]at q;lia))]at j
       refine⟨_,Z,_,Z,p,C,dx,_,_,Z,hp,T.cl,T.nP,jJ _ _ _,_,_,Z,Z,dx,_,hp,zQ _ _ _,?_⟩;refine⟨n+1,some (10*u+(c.toNat-48)),some (.int (c.toNat:Int)),some (.int ((u:Int)*10+(c.toNat:Int)-48)),?_,?_,hb.trans cC.upd,Z,lt,?_⟩
       ·rw[show(u4 (some (10*u+(c.toNat-48))))=.int ((u:Int)*10+(c.toNat:Int)-48) from Wn V.int L];rfl
       ·rw[Qe,show(((i+n:Nat):Int)+1)=((i+(n+1):Nat):Int) by lia,zO]
       ·rw[tn,j];simp only[Vb,Vc,Nat.mul_zero,U5,Gs];rw[Vj 1]
end Gp
namespace L2
open PySem PySem.Spec PyProof.Rows
def XA:List DictEntry->Prop
 |[]=>True
 |e::r=>(∃x t,e.key=.int x t/\e.hash=hashInt x)/\XA r
theorem XA.all{l:List DictEntry}(h:XA l):∀e∈l,∃x t,e.key=.int x t/\e.hash=hashInt x:=by
 induction l with
 |nil=>intro e m;cases m
 | cons a l j=>
  intro e m;rcases List.mem_cons.1 m with rfl|m
  ·exact h.1
  ·exact j h.2 e m
inductive l6(K:xz)(Q:VK)(x:V)(y:V)(H2:Hp):Prop
 |mk (a:Addr) (es:Array DictEntry) (n:Nat) (z:Int) (v:V) (u:Value):x=.ref a->y=.int z->K.lookup a=some ⟨.type "dict",none,.dict es n,#[]⟩->XA es.toList->findBy Value.isInt es z=some u->QR v u->Q v H2->l6 K Q x y H2
def AV(K:xz)(td ty:TE):TE:=fun σ H Q=>td σ H fun x H1=>ty σ H1 (l6 K Q x)
theorem fR{X:Cx}{o i:Expr}{pos:Pos}{td ty:TE}(F:PE X o td)(hi:PE X i ty)(G:vF i):PE X (.Subscript o i pos) (AV X.K td ty):=by
 intro pins s σ H Q I h;refine jA PySem.F.slot_dict_getitem.lookup G (bx (F pins s σ H _ I h) fun u J ⟨x,H1,M,O,U⟩=>bx (hi pins J σ H1 _ M U) fun iv s2 h2=>?_);obtain⟨y,H2,j,ry,a,es,n,z,v,u',rfl,rfl,hl,hk,e,rv,q2⟩:=h2;obtain rfl:u=Value.ref a:=O;obtain⟨t,rfl⟩:=ry
 have B:s2.heap.MapOf (intKind X.prog X.w) a (fun k=>findBy Value.isInt es k):=⟨_,es,n,j.eE _ _ hl,⟨Z,Z,Z⟩,Z,fun e he=>by
  obtain⟨x,t,e1,e2⟩:=hk.all e (Array.mem_toList_iff.mpr he);exact⟨x,by rw[e1];exact intKind_is X.prog X.w x t,e2⟩,fun _=>rfl⟩
 exact⟨B.typeIs,wpAny_getItem_of (intKind_is X.prog X.w z t) B e ⟨v,H2,j.tok _,rv,q2⟩⟩
end L2
namespace Gp
open PySem PySem.Spec PyProof.Rows L2
abbrev IM:Stmt:=top 3
inductive uC(vs:List V)(H:Hp)(Q:VK)(E:XK):Prop
 |mk (n s:Nat) (y z:Int):vs=[.int y,.int z]->y=(n:Int)->z=(s:Int)->s<=1000->(∀H' l,Qn H H'->H l=none->H' l=some (.lst (bl (Gg s n)))->Q (.ref l) H')->uC vs H Q E
theorem wx:a7 ["number","size","octets","rest"] ["number","size"] (a6 IM):=.mk'
theorem Es(F:bF K "octets_of" "octets_of" IM f fd)(U:Txt K mg):QC P w K mg base bB 1 f fd ["number","size"] uC:=by
 apply F.bL wx;rintro _ H Q E ⟨n,sz,y,z,rfl,rfl,rfl,sm,k⟩;refine⟨Z,fun _ _ _ _ _=>?_⟩
 refine⟨_,Qb (bz 2 wx.nd (QU Qc))
  (Qb (bz 3 wx.nd (pv 0))
  (Qb (Yl PassesOwn.never (Qs ZE (Qx Qp Wg U.len Wx (Qa (pv 2) Qc)) (pv 1) (Qo _))
   (Qb (Zf (Xd xU Gw Gx ZD (pv 2) (Qa (QA Cj (pv 3) Qi) Qc)))
   (Qd (bz 3 wx.nd (QA vV (pv 3) Qi)))))
  (Qd (Qj (pv 2))))),?_⟩
 refine⟨x4 _,fun l hl=>?_⟩;have J:=Qk (.lst []) hl;refine⟨_,Z,?_⟩
 refine⟨fun m σ H'=>∃(b:xA)(r:Nat),σ=[some (.int (n:Int)),some (.int (sz:Int)),some (.ref l),some (.int (r:Int))]/\Qn H H'/\H' l=some (.lst (bl b))/\b.length<=sz/\m=sz-b.length/\Gg sz n=b++Gg (sz-b.length) r,
  ⟨_,[],n,Z,J,Qe,x4 _,Z,by simp⟩,?_⟩
 rintro m σ H2 ⟨b,r,rfl,B,h2,M,rfl,e⟩;refine⟨_,Z,l,_,Z,.inl (a'.of h2),_,Z,_,_,Z,Z,_,Z,Qz (fun h1=>?_) (fun h1=>?_)⟩
 ·have h1:b.length<sz:=by have:=Wj h1;rw[Ql] at this;lia
  refine⟨fun G H'=>∃(j:xA)(r:Nat),G=[some (.int (n:Int)),some (.int (sz:Int)),some (.ref l),some (.int (r:Int))]/\Qn H H'/\H' l=some (.lst (bl j))/\j.length<=sz/\sz-(b.length+1)=sz-j.length/\Gg sz n=j++Gg (sz-j.length) r,
   fun G H' h=>⟨sz-(b.length+1),by lia,h⟩,?_⟩
  have I:(((UInt8.ofNat (r%256)).toNat:Nat):Int)=(r:Int)%256:=by rw[UInt8.toNat_ofNat'];lia
  refine⟨_,Z,.inl ⟨Z,_,a'.of h2⟩,_,Z,_,_,Z,Z,(by show(0:Int)<256;decide),l,_,_,Z,Z,h2,?_,?_⟩
  ·rw[Ql];exact xW h1 (xK sm Wa)
  ·refine⟨_,Z,_,_,Z,Z,⟨by decide,by decide⟩,b++[UInt8.ofNat (r%256)],r/256,Z,?_,?_,?_,?_,?_⟩
   ·intro x o q;rw[Qh (Qg q hl)];exact B _ _ q
   ·rw[Qe];unfold bl;grind
   ·grind
   ·grind
   ·rw[e,xF,G0,show sz-b.length=(sz-(b.length+1))+1 by lia];simp[Gg]
 ·have h1:b.length=sz:=by
   rcases Uk b.length sz with q|q
   ·refine Wm (Wk ?_) h1;rw[Ql];lia
   ·lia
  refine⟨_,Z,k _ _ B hl ?_⟩;rw[e,h1,Nat.sub_self,h2];simp[Gg]
def lg(s:Nat):Nat:=256 ^ s-1
structure sj(K:xz)(mg:Str->Option Value):Prop where
 ex:∃(a:Addr)(es:Array DictEntry)(n:Nat),mg "LARGEST" = some (.ref a)/\K.lookup a=some ⟨.type "dict",none,.dict es n,#[]⟩/\XA es.toList/\∀s∈[1,2,4,8],∃k,findBy Value.isInt es ((s:Nat):Int)=some (.int (lg s:Int) k)
def enc:List Nat->List Nat->xA
 |s::ss,x::xs=>Gg s x++enc ss xs
 |_,_=>[]
def uE(xs:List Nat)(n:Nat):Option (List Nat)×Nat->Option (List Nat)×Nat
 |(some ys,j)=>(some (xs++ys),n+j)
 |(none,j)=>(none,n+j)
abbrev Ck:Stmt:=top 97
inductive sd(K : xz)(C : Addr)(vs : List V)(H : Hp)(Q : VK)(E : XK) : Prop
  | mk (p dx a d l : Addr) (t : xA) (i : Nat) (ss : List Nat) : vs = [.ref p, .ref l] -> YK K C H p dx a d t i -> a' K H l (ni ss) -> ((∀ s ∈ ss, s ∈ [1, 2, 4, 8])) -> ss.length <= 32 -> (∀ H', H' p = some (.ins C dx (sf a (i + (Pl.bf (ss.map lg) (t.drop i)).2) d)) -> cC p H H' ->
    match (Pl.bf (ss.map lg) (t.drop i)).1 with
    |some xs => ∀o, H o=none->H' o=some (.lst (bl (enc ss xs)))->Q (.ref o) H'
    |none => Q .bP H')->sd K C vs H Q E
theorem gq:a7 ["scan","sizes","octets","index","size","number"] ["scan","sizes"] (a6 Ck):=.mk'
theorem g7:∀{j xs:List Nat} (s x:Nat),xs.length=j.length->enc (j++[s]) (xs++[x])=enc j xs++Gg s x
 |[],[],s,x,_=>by simp[enc]
 | a::j,b::xs,s,x,h=>by
  simp only[xO]at h;show Gg a b++enc (j++[s]) (xs++[x])=(Gg a b++enc j xs)++Gg s x;rw[g7 s x L,GS]
theorem Xk:∀(s n:Nat),(Gg s n).length=s
 |0,_=>rfl
 | s+1,n=>by
  show(_::Gg s (n/256)).length=s+1;rw[xO,Xk s]
theorem xm:∀(j xs:List Nat),(∀s∈j,s<=8)->(enc j xs).length<=8*j.length
 |[],_,_=>by simp[enc]
 |s::j,[],_=>by simp[enc]
 | s::j,x::xs,h=>by
  show(Gg s x++enc j xs).length<=_;rw[xF,Xk,xO];have h1:=h s We;have h2:=xm j xs fun z hz=>h z (by simp[hz]);lia
theorem kj(m:Nat)(r:List Nat)(t:xA):Pl.bf (m::r) t=match Pl.cq m t with
  |(none,k)=>(none,k)
  |(some v,k)=>if(t.drop k).head?=some (if r=[] then 10 else 32) then uE [v] (k+1) (Pl.bf r (t.drop (k+1))) else(none,k):=by
 conv=>lhs;unfold Pl.bf
 rcases Pl.cq m t with⟨v|v,k⟩
 ·rfl
 ·simp only;by_cases q:(t.drop k).head?=some (if r=[] then 10 else 32)
  ·rw[Wi q,Wi q];rcases Pl.bf r (t.drop (k+1)) with⟨v|v,j⟩<;>rfl
  lia
theorem md(xs ys:List Nat)(n m:Nat) (r:Option (List Nat)×Nat):uE xs n (uE ys m r)=uE (xs++ys) (n+m) r:=by
 rcases r with⟨v|v,j⟩
 ·show(none,n+(m+j))=(none,n+m+j);lia
 ·show(some (xs++(ys++v)),n+(m+j))=(some (xs++ys++v),n+m+j);grind
theorem wL{n:List Nat}{j:Nat}{x:V} (h:(ni n)[j]?=some x):∃s,n[j]?=some s/\x=.int (s:Int):=by unfold ni at h;grind
theorem Cs(F:bF K "take_numbers" "take_numbers" Ck f fd)(T:JY K mg C)(U:Txt K mg)(aC:sj K mg) (M:XQ P w K mg base C 2 "takes" ["self","octet"] (vQ K C))
  (TN:bq P w K mg base 2 "take_number" ["scan","largest"] (vh K C)) (OO:bq P w K mg base 1 "octets_of" ["number","size"] uC):QC P w K mg base bB 3 f fd ["scan","sizes"] (sd K C):=by
 obtain⟨fm,aB,hm,bm,G⟩:=M.ex;obtain⟨aL,es,nL,aw,ax,ay,hL⟩:=aC.ex;apply F.bL gq;rintro _ H Q E ⟨p,dx,a,d,l,t,i,B,rfl,D,hl,h8,ah,k⟩;refine⟨Z,fun _ _ _ _ hr=>?_⟩
 refine⟨_,Qb (bz 2 gq.nd (QU Qc))
  (Qb (QL PassesOwn.never Z (J9 Z U.enum (Qa (pv 1) Qc) (zq Qi jS)) (ZF (n:=2) Z (QF (b0 3 gq.nd) (QF (b0 4 gq.nd) Zl)))
   (Qb (bz 5 gq.nd (Qr TN hr (Qa (pv 0) (Qa (fR (Xp aw) (pv 4) (fun _ _=>rfl)) Qc))))
   (Qb (QD (Xo (Q6 (Y5 (pv 5))) (ZM (X5 (Zd (Q4 (pv 0) T.cl hm G hr bm .nil Zc (Qa (XG (Qs XI (pv 3) (Qx Qp Wg U.len Wx (Qa (pv 1) Qc)) (Qo _)) (QP T.g10) (QP T.g32)) Qc)))))).pt (Qd (Qj QT)) Qq)
   (Qd (Zf (Xd xU GK GL ZR (pv 2) (Qa (Qr OO (hr.mono Wa) (Qa (pv 5) (Qa (pv 4) Qc))) Qc)))))))
  (Qd (Qj (pv 2)))),?_⟩
 refine⟨x4 _,fun o ho=>?_⟩;have s0:=Qk (.lst []) ho;have po:p≠o:=Qg D.ins ho
 refine⟨_,Z,l,1,_,Z,Z,by decide,s0.seq hl,Jv (K:=K) (a:=l) (c:=1) (xs:=ni B) (fun j σ H'=>∃(xs:List Nat)(n:Nat)(v3 v4 v5:Option V),σ=[some (.ref p),some (.ref l),some (.ref o),v3,v4,v5]/\H' p=some (.ins C dx (sf a (i+n) d))/\cC p H H'/\
   H' o=some (.lst (bl (enc (B.take j) xs)))/\a' K H' l (ni B)/\xs.length=j/\Pl.bf (B.map lg) (t.drop i)=uE xs n (Pl.bf ((B.drop j).map lg) (t.drop (i+n))))
  ⟨[],0,none,none,none,Z,by rw[Qh po];exact D.ins,fun b u e _=>s0 _ _ e,by rw[Qe];rfl,s0.seq hl,Z,?_⟩ (fun _ _ _ _ ⟨_,_,_,_,_,_,_,_,_,q,_⟩=>q) ?_ ?_⟩
 ·rw[UL,G4];rcases Pl.bf (B.map lg) (t.drop i) with ⟨v | v,j⟩
  ·show _=(none,0+j);rw[U5]
  ·show _=(some ([]++v),0+j);rw[U5];rfl
 ·rintro j x σ H1 H2 hx ⟨xs,n,v3,v4,v5,rfl,ai,aj,ab,ao,af,e⟩ sm;obtain⟨sz,hsz,rfl⟩:=wL hx;have hj:j<B.length:=(List.getElem?_eq_some_iff.1 hsz).1;have ac:sz∈[1,2,4,8]:=h8 _ (xZ hsz);obtain⟨kk,az⟩:=hL sz ac;have aq:cC p H H2:=fun b u q nb=>sm _ _ (aj _ _ q nb);have D2:YK K C H2 p dx a d t (i+n):=D.go aq (sm _ _ ai);refine⟨_,Z,_,Z,aL,es,nL,_,.int (lg sz:Int),_,Z,Z,ax,ay,az,⟨kk,Z⟩,p,dx,a,d,t,i+n,lg sz,_,Z,Z,D2,fun H3 J ak=>?_⟩
  have I:Pl.bf ((B.drop j).map lg) (t.drop (i+n))=match Pl.cq (lg sz) (t.drop (i+n)) with
    |(none,k)=>(none,k)
    |(some v,k)=>if((t.drop (i+n)).drop k).head?=some (if j+1=B.length then 10 else 32) then uE [v] (k+1) (Pl.bf ((B.drop (j+1)).map lg) ((t.drop (i+n)).drop (k+1))) else(none,k):=by
   rw[GC hj,xT,(List.getElem?_eq_some_iff.1 hsz).2,kj]
   have ie:((B.drop (j+1)).map lg=[])=(j+1=B.length):=by rw[List.map_eq_nil_iff,List.drop_eq_nil_iff];lia
   simp only[ie]
  have O:cC p H H3:=aq.trans ak;have au:H3 o=some (.lst (bl (enc (B.take j) xs))):=ak _ _ (sm _ _ ab) po.symm;have aA:a' K H3 l (ni B):=a'.oA ak D2.ins (sm.seq ao);rcases hq:Pl.cq (lg sz) (t.drop (i+n)) with⟨v|v,c⟩
  ·rw[hq]at J I;simp only at J I;rw[I]at e;have e':Pl.bf (B.map lg) (t.drop i)=(none,n+c):=e;have kk:=k H3 (by rw[e',<-Gs];exact J) O;rw[e']at kk;exact⟨_,Z,_,Z,ZG (ZG kk)⟩
  ·rw[hq] at J I;simp only at J I;have D3:YK K C H3 p dx a d t (i+n+c):=D.go O J
   have hd:((t.drop (i+n)).drop c).head?=t[i+n+c]?:=by rw[G5,List.head?_drop]
   rw[hd]at I;refine⟨_,Z,_,Z,Jb ?_⟩;refine⟨_,Z,p,dx,_,Z,J,zP _ _ _ Wb Wb Wb,_,Z,_,Z,l,_,Z,.inl aA,Z,_,Z,?_⟩;have ag:(ni B).length=B.length:=by unfold ni;rw[xB]
   have av:Pl.bf ((B.drop j).map lg) (t.drop (i+n))=uE [v] (c+1) (Pl.bf ((B.drop (j+1)).map lg) ((t.drop (i+n)).drop (c+1)))->∀H5 b,Qn (upd H3 p (.ins C dx (sf a (i+n+c+1) d))) H5->H5 b=some (.lst (bl (Gg sz v)))->
     ∃(an:List Nat)(n':Nat)(v3 v4 v5:Option V),[some (V.ref p),some (V.ref l),some (V.ref o),some (V.int ((j+1:Nat):Int)),some (V.int (sz:Int)),some (u4 (some v))]=[some (.ref p),some (.ref l),some (.ref o),v3,v4,v5]/\upd H5 o (.lst (bl (enc (B.take j) xs)++bl (Gg sz v))) p=some (.ins C dx (sf a (i+n') d))/\cC p H (upd H5 o (.lst (bl (enc (B.take j) xs)++bl (Gg sz v))))/\
      upd H5 o (.lst (bl (enc (B.take j) xs)++bl (Gg sz v))) o=some (.lst (bl (enc (B.take (j+1)) an)))/\a' K (upd H5 o (.lst (bl (enc (B.take j) xs)++bl (Gg sz v)))) l (ni B)/\an.length=j+1/\Pl.bf (B.map lg) (t.drop i)=uE an n' (Pl.bf ((B.drop (j+1)).map lg) (t.drop (i+n'))):=fun I H5 b s5 aa=>by
    have but:cC p H (upd H5 o (.lst (bl (enc (B.take j) xs)++bl (Gg sz v)))):=fun x u q nx=>by
     rw[Qh (Qg q ho)];exact s5 _ _ (by rw[Qh nx];exact O _ _ q nx)
    refine⟨xs++[v],n+(c+1),_,_,_,Z,?_,but,?_,a'.oA but D.ins hl,by rw[xF,af];rfl,?_⟩
    ·rw[Qh po,<-Gs,<-Gs];exact s5 _ _ Qe
    ·have lt:(B.take j).length=j:=by rw[Gk];lia
     rw[Qe,Ug,hsz];show _=some (HO.lst (bl (enc (B.take j++[sz]) (xs++[v]))));rw[g7 sz v (by rw[lt];exact af)];unfold bl;grind
    ·rw[e,I,md,G5,Gs i n (c+1)]
   have s8:∀z∈[1,2,4,8],z<=8:=by decide
   have bP:Pl.bf ((B.drop j).map lg) (t.drop (i+n))=(none,c)->Q .bP H3:=fun I=>by
    rw[I]at e;have e':Pl.bf (B.map lg) (t.drop i)=(none,n+c):=e;have kk:=k H3 (by rw[e',<-Gs];exact J) O;lia
   refine Qz (fun hz=>?_) (fun hz=>?_)
   ·have hz:j+1=B.length:=by have:=Wj hz;rw[ag] at this;have:=V.int.inj this;lia
    refine⟨p,dx,a,d,t,i+n+c,10,_,Z,Z,D3,?_⟩;by_cases ht:t[i+n+c]?=some 10
    ·rw[Wi ht];rw[Wi hz,Wi ht] at I;refine⟨_,Z,Jb ?_⟩;have ad:upd H3 p (.ins C dx (sf a (i+n+c+1) d)) o=some (.lst (bl (enc (B.take j) xs))):=by rw[Qh po.symm];exact au
     refine⟨_,Z,.inl ⟨Z,_,a'.of ad⟩,_,Z,_,Z,v,sz,_,_,Z,Z,Z,xK (s8 _ ac) Wa,fun H5 b s5 _ aa=>?_⟩;refine⟨o,b,_,_,Z,Z,s5 _ _ ad,aa,?_,?_⟩
     ·rw[Ql,Ql,Xk];have q1:=xm (B.take j) xs fun z hz=>s8 _ (h8 z (Uo hz));have q2:(B.take j).length<=32:=xK (by rw[Gk];exact V5 _ _) ah;have q3:=s8 _ ac;exact xK (show _<=264 by lia) Wa
     ·exact av I H5 b s5 aa
    ·rw[Wh ht];rw[Wi hz,Wh ht]at I;exact⟨_,Z,ZG (bP I)⟩
   ·have hz:¬ j+1=B.length:=by intro q;apply hz;rw[ag,q];exact Wk rfl
    refine⟨p,dx,a,d,t,i+n+c,32,_,Z,Z,D3,?_⟩;by_cases ht:t[i+n+c]?=some 32
    ·rw[Wi ht];rw[Wh hz,Wi ht] at I;refine⟨_,Z,Jb ?_⟩;have ad:upd H3 p (.ins C dx (sf a (i+n+c+1) d)) o=some (.lst (bl (enc (B.take j) xs))):=by rw[Qh po.symm];exact au
     refine⟨_,Z,.inl ⟨Z,_,a'.of ad⟩,_,Z,_,Z,v,sz,_,_,Z,Z,Z,xK (s8 _ ac) Wa,fun H5 b s5 _ aa=>?_⟩;refine⟨o,b,_,_,Z,Z,s5 _ _ ad,aa,?_,?_⟩
     ·rw[Ql,Ql,Xk];have q1:=xm (B.take j) xs fun z hz=>s8 _ (h8 z (Uo hz));have q2:(B.take j).length<=32:=xK (by rw[Gk];exact V5 _ _) ah;have q3:=s8 _ ac;exact xK (show _<=264 by lia) Wa
     ·exact av I H5 b s5 aa
    ·rw[Wh ht];rw[Wh hz,Wh ht]at I;exact⟨_,Z,ZG (bP I)⟩
 ·rintro σ H1 ⟨xs,n,v3,v4,v5,rfl,ai,aj,ab,ao,af,e⟩;have ag:(ni B).length=B.length:=by unfold ni;rw[xB]
  rw[ag]at ab af e;rw[List.drop_length,Vh]at e
  have e':Pl.bf (B.map lg) (t.drop i)=(some xs,n):=by rw[e];show(some (xs++[]),n+0)=_;grind
  have kk:=k H1 (by rw[e'];exact ai) aj;rw[e']at kk;rw[Gy]at ab;exact⟨_,Z,kk o ho ab⟩
theorem lr{m:Nat}:∀(t:xA)(v:Option Nat),(∀u,v=some u->u<=m)->∀x,(Pl.cf m v t).1=some x->x<=m
 |[],v,h,x,e=>h x e
 | c::r,v,h,x,e=>by
  unfold Pl.cf at e;by_cases h1:Vv c=false
  ·rw[Wi h1]at e;exact h x e
  ·rw[Wh h1] at e;simp only at e;by_cases h2:v=some 0\/m<10*v.getD 0+(c.toNat-48)
   ·rw[Wi h2]at e;exact h x e
   ·rw[Wh h2]at e;exact lr r _ (fun u q=>by cases q;have:=fun z=>h2 (.inr z);lia) x e
theorem cC.none{p b:Addr}{H H':Hp}{u:HO}(k:cC p H H')(n:H' p=some u)(j:H' b=none):H b=none:=by
 cases e:H b with
 |none=>rfl
 | some o=>
  have nb:b≠p:=fun q=>by rw[q,n]at j;cases j
  rw[k _ _ e nb]at j;cases j
theorem uH{xs:List Nat}(h:∀x∈xs,x<=255)(hl:xs.length<=4):bl (GT xs)=[V.int (xs.length:Int)]++ni xs++xS (4-xs.length) (V.int 0):=by
 have one:∀n,n<=255->(UInt8.ofNat (n%256)).toNat=n:=fun n F=>by
  rw[UInt8.toNat_ofNat'];lia
 have j:∀xs:List Nat,(∀x∈xs,x<=255)->bl (xs.flatMap (Gg 1))=ni xs:=by
  intro xs;induction xs with
  |nil=>intro _;rfl
  | cons x xs B=>
   intro h;show V.int ((UInt8.ofNat (x%256)).toNat:Int)::bl (xs.flatMap (Gg 1))=V.int (x:Int)::ni xs;rw[one x (h x We),B fun z hz=>h z (by simp[hz])]
 have e:bl (GT xs)=[V.int ((UInt8.ofNat (xs.length%256)).toNat:Int)]++(bl (xs.flatMap (Gg 1))++bl (xS (4-xs.length) 0)):=by unfold GT bl;rw[Gq,Gq];rfl
 rw[e,one _ L,j xs h,<-GS];congr 1;unfold bl;rw[List.map_replicate];rfl
abbrev Kl:Stmt:=top 98
inductive Ci(K : xz)(C : Addr)(vs : List V)(H : Hp)(Q : VK)(E : XK) : Prop
  | mk (p dx a d l : Addr) (t : xA) (i : Nat) : vs = [.ref p, .ref l] -> YK K C H p dx a d t i -> a' K H l (ni [1, 1, 1, 1]) -> (∀ H', H' p = some (.ins C dx (sf a (i + (Pl.bh 4 (t.drop i)).2) d)) -> cC p H H' ->
    match (Pl.bh 4 (t.drop i)).1 with
    |some xs => ∀o, H o=none->H' o=some (.lst (bl (GT xs)))->Q (.ref o) H'
    |none => Q .bP H')->Ci K C vs H Q E
theorem ua:a7 ["scan","sizes","kinds","index","size","kind"] ["scan","sizes"] (a6 Kl):=.mk'
theorem g9(n:Nat)(t:xA):Pl.bh (n+1) t=match Pl.cq 255 t with
  |(none,k)=>(none,k)
  |(some v,k)=>if(t.drop k).head?=some 10 then(some [v],k+1) else if n=0 then(none,k) else if(t.drop k).head?=some 32 then uE [v] (k+1) (Pl.bh n (t.drop (k+1))) else(none,k):=by
 conv=>lhs;unfold Pl.bh
 rcases Pl.cq 255 t with⟨v|v,k⟩
 ·rfl
 ·simp only;by_cases q:(t.drop k).head?=some 10
  ·lia
  ·rw[Wh q,Wh q];by_cases z:n=0
   ·lia
   ·rw[Wh z,Wh z];by_cases q:(t.drop k).head?=some 32
    ·rw[Wi q,Wi q];rcases Pl.bh n (t.drop (k+1)) with⟨v|v,j⟩<;>rfl
    lia
theorem FT(F:bF K "take_coats" "take_coats" Kl f fd)(T:JY K mg C)(U:Txt K mg)(aN:sj K mg) (M:XQ P w K mg base C 2 "takes" ["self","octet"] (vQ K C))
  (TN:bq P w K mg base 2 "take_number" ["scan","largest"] (vh K C)):QC P w K mg base bB 3 f fd ["scan","sizes"] (Ci K C):=by
 obtain⟨fm,aM,hm,bm,G⟩:=M.ex;obtain⟨aL,es,nL,aE,aF,aG,hL⟩:=aN.ex;obtain⟨kk,aH⟩:=hL 1 Wa;apply F.bL ua;rintro _ H Q E ⟨p,dx,a,d,l,t,i,rfl,D,hl,k⟩;refine⟨Z,fun _ _ _ _ hr=>?_⟩
 refine⟨_,Qb (bz 2 ua.nd (QU Qc))
  (Qb (QL PassesOwn.never Z (J9 Z U.enum (Qa (pv 1) Qc) (zq Qi jS)) (ZF (n:=2) Z (QF (b0 3 ua.nd) (QF (b0 4 ua.nd) Zl)))
   (Qb (bz 5 ua.nd (Qr TN hr (Qa (pv 0) (Qa (fR (Xp aE) (pv 4) (fun _ _=>rfl)) Qc))))
   (Qb (QD (Q6 (Y5 (pv 5))) (Qd (Qj QT)) Qq)
   (Qb (Zf (Xd xU Gw Gx ZD (pv 2) (Qa (pv 5) Qc)))
   (Qb (QD (Zd (Q4 (pv 0) T.cl hm G hr bm .nil Zc (Qa (QP T.g10) Qc))) (Qd (Qj (QA Xj (QA Xj (QU (Qa (pv 3) Qc)) (pv 2)) (QA uc (QU (Qa Qi Qc)) (QA Xi (Qx Qp Wg U.len Wx (Qa (pv 1) Qc)) (pv 3)))))) Qq)
   (Qd (QD (Y0 (Qs ZE (pv 3) (Qx Qp Wg U.len Wx (Qa (pv 1) Qc)) (Qo _)) (XW (X5 (Zd (Q4 (pv 0) T.cl hm G hr bm .nil Zc (Qa (QP T.g32) Qc)))))).pt (Qd (Qj QT)) Qq)))))))
  (Qd (Qj QT))),?_⟩
 refine⟨x4 _,fun o ho=>?_⟩;have s0:=Qk (.lst []) ho;have po:p≠o:=Qg D.ins ho
 refine⟨_,Z,l,1,_,Z,Z,by decide,s0.seq hl,Jv (K:=K) (a:=l) (c:=1) (xs:=ni [1,1,1,1]) (fun j σ H'=>Hm fun(xs:List Nat) (n:Nat) (v3 v4 v5:Option V)=>IT (σ=[some (.ref p),some (.ref l),some (.ref o),v3,v4,v5]) (H' p=some (.ins C dx (sf a (i+n) d))) (cC p H H') (H' o=some (.lst (ni xs))) (a' K H' l (ni [1,1,1,1])) (xs.length=j) ((∀x∈xs,x<=255)) (Pl.bh 4 (t.drop i)=uE xs n (Pl.bh (4-j) (t.drop (i+n)))))
  ⟨[],0,none,none,none,Z,by rw[Qh po];exact D.ins,fun b u e _=>s0 _ _ e,by rw[Qe];rfl,s0.seq hl,Z,by simp,?_⟩ (fun _ _ _ _ ⟨_,_,_,_,_,_,_,_,_,q,_,_,_⟩=>q) ?_ ?_⟩
 ·rw[UL];rcases Pl.bh 4 (t.drop i) with ⟨v | v,j⟩
  ·show _=(none,0+j);rw[U5]
  ·show _=(some ([]++v),0+j);rw[U5];rfl
 ·rintro j x σ H1 H2 hx ⟨xs,n,v3,v4,v5,rfl,ad,af,ao,aI,ag,aq,e⟩ sm;have hj:j<4:=(List.getElem?_eq_some_iff.1 hx).1
  have aJ:x=.int ((1:Nat):Int):=by obtain⟨z,hz,rfl⟩:=wL hx;have:=xZ hz;simp only[GY,GF,Ws,or_self]at this;rw[this]
  subst aJ;have au:cC p H H2:=fun b u q nb=>sm _ _ (af _ _ q nb);have D2:YK K C H2 p dx a d t (i+n):=D.go au (sm _ _ ad);refine⟨_,Z,_,Z,aL,es,nL,_,.int (lg 1:Int),_,Z,Z,aF,aG,aH,⟨kk,Z⟩,p,dx,a,d,t,i+n,lg 1,_,Z,Z,D2,fun H3 I av=>?_⟩;have B:=g9 (3-j) (t.drop (i+n));rw[show 3-j+1=4-j by lia]at B;have ac:cC p H H3:=au.trans av;have aw:H3 o=some (.lst (ni xs)):=av _ _ (sm _ _ ao) po.symm;have l1:lg 1=255:=rfl;rw[l1]at I;rcases hq:Pl.cq 255 (t.drop (i+n)) with⟨v|v,c⟩
  ·rw[hq]at I B;simp only at I B;rw[B]at e;have e':Pl.bh 4 (t.drop i)=(none,n+c):=e;have kk:=k H3 (by rw[e',<-Gs];exact I) ac;rw[e']at kk;rw[l1,hq];exact⟨_,Z,_,Z,ZG kk⟩
  ·have hv:v<=255:=lr (t.drop (i+n)) none (by intro u q;cases q) v (by show (Pl.cq 255 (t.drop (i+n))).1=_;rw[hq]);rw[hq] at I B;simp only at I B;rw[l1,hq]
   have hd:((t.drop (i+n)).drop c).head?=t[i+n+c]?:=by rw[G5,List.head?_drop]
   rw[hd]at B;have lx:(ni xs).length=j:=by unfold ni;rw[xB];exact ag
   refine⟨_,Z,_,Z,Jb ?_⟩;refine⟨_,Z,.inl ⟨Z,_,a'.of aw⟩,_,Z,o,_,_,Z,Z,aw,Qal (show(ni xs).length<4 by rw[lx];exact hj) Wa,?_⟩;generalize ah:upd H3 o (.lst (ni xs++[u4 (some v)]))=H4
   have ai:H4 o=some (.lst (ni (xs++[v]))):=by rw[<-ah,Qe];unfold ni;rw[Gq];rfl
   have aa:H4 p=some (.ins C dx (sf a (i+n+c) d)):=by rw[<-ah,Qh po];exact I
   have J:cC p H H4:=fun b u q nb=>by rw[<-ah,Qh (Qg q ho)];exact ac _ _ q nb
   have D4:YK K C H4 p dx a d t (i+n+c):=D.go J aa;have ax:a' K H4 l (ni [1,1,1,1]):=a'.oA J D.ins hl
   have ab:∀x∈xs++[v],x<=255:=by
    intro x hx;rcases List.mem_append.1 hx with h|h
    ·exact aq x h
    ·rw[List.mem_singleton.1 h];exact hv
   have O:(xs++[v]).length=j+1:=by rw[xF,ag];rfl
   refine⟨_,Z,p,dx,_,Z,aa,zP _ _ _ Wb Wb Wb,p,dx,a,d,t,i+n+c,10,_,Z,Z,D4,?_⟩;by_cases ht:t[i+n+c]?=some 10
   ·rw[Wi ht];rw[Wi ht] at B;rw[B] at e;have e':Pl.bh 4 (t.drop i)=(some (xs++[v]),n+(c+1)):=e;refine⟨_,Z,ZG ?_⟩;generalize aj:upd H4 p (.ins C dx (sf a (i+n+c+1) d))=H5;have ay:H5 o=some (.lst (ni (xs++[v]))):=by rw[<-aj,Qh po.symm];exact ai
    have az:H5 p=some (.ins C dx (sf a (i+n+c+1) d)):=by rw[<-aj,Qe]
    have ak:cC p H H5:=fun b u q nb=>by rw[<-aj,Qh nb];exact J _ _ q nb
    refine⟨_,Z,(by show 1<=sizeLine;decide),fun q1 h1=>⟨_,Z,q1,o,_,ni (xs++[v]),Z,Z,Qe,?_,?_,fun q2 h2=>?_⟩⟩
    ·rw[Qh (Qg ay h1)];exact ay
    ·show 1+(ni (xs++[v])).length<=sizeLine;unfold ni;rw[xB,O];exact xK (show 1+(j+1)<=8 by lia) Wa
    refine⟨(by show 1<=sizeLine;decide),fun q3 h3=>?_⟩
    have aA:∀b u,H5 b=some u->upd (upd (upd H5 q1 (.lst [V.int ((j+1:Nat):Int)])) q2 (.lst ([V.int ((j+1:Nat):Int)]++ni (xs++[v])))) q3 (.lst [V.int 0]) b=some u:=fun b u q=>by
     have n1:=Qg q h1;have aB:upd H5 q1 (.lst [V.int ((j+1:Nat):Int)]) b=some u:=by rw[Qh n1];exact q
     have n2:=Qg aB h2;have aC:upd (upd H5 q1 (.lst [V.int ((j+1:Nat):Int)])) q2 (.lst ([V.int ((j+1:Nat):Int)]++ni (xs++[v]))) b=some u:=by rw[Qh n2];exact aB
     rw[Qh (Qg aC h3)];exact aC
    have aK:a' K H5 l (ni [1,1,1,1]):=a'.oA ak D.ins hl;refine⟨_,Z,l,_,Z,.inl (Qn.seq aA aK),_,Z,_,_,Z,Z,q3,_,_,Z,Z,Qe,?_,?_,?_,fun q4 h4=>?_⟩
    ·show -(2 ^ 63)<=((4:Int)-((j+1:Nat):Int));lia
    ·show((4:Int)-((j+1:Nat):Int))<2 ^ 63;lia
    ·show 1*((4:Int)-((j+1:Nat):Int)).toNat<=sizeLine;exact xK (show _<=4 by lia) Wa
    have zr:(xS (((ni [1,1,1,1]).length:Int)-((j+1:Nat):Int)).toNat [V.int 0]).flatten=xS (4-(xs++[v]).length) (V.int 0):=by
     rw[O,show(((ni [1,1,1,1]).length:Int)-((j+1:Nat):Int)).toNat=4-(j+1) by(show((4:Int)-((j+1:Nat):Int)).toNat=4-(j+1));lia];induction 4-(j+1) with
     |zero=>rfl
     |succ m ih=>rw[GP,Gr,ih,GP];rfl
    have g2:upd (upd (upd H5 q1 (.lst [V.int ((j+1:Nat):Int)])) q2 (.lst ([V.int ((j+1:Nat):Int)]++ni (xs++[v])))) q3 (.lst [V.int 0]) q2=some (.lst ([V.int ((j+1:Nat):Int)]++ni (xs++[v]))):=by rw[Qh (Qg Qe h3),Qe]
    refine⟨q2,q4,[V.int ((j+1:Nat):Int)]++ni (xs++[v]),_,Z,Z,?_,Qe,?_,fun q5 h5=>?_⟩
    ·rw[Qh (Qg g2 h4)];exact g2
    ·rw[zr,xF,Vp];unfold ni;rw[xB,O,G0];exact xK (show _<=8 by lia) Wa
    have an:∀b u,H5 b=some u->upd (upd (upd (upd H5 q1 (.lst [V.int ((j+1:Nat):Int)])) q2 (.lst ([V.int ((j+1:Nat):Int)]++ni (xs++[v])))) q3 (.lst [V.int 0])) q4 (.lst (xS (((ni [1,1,1,1]).length:Int)-((j+1:Nat):Int)).toNat [V.int 0]).flatten) b=some u:=fun b u q=>by
     have q':=aA b u q;rw[Qh (Qg q' h4)];exact q'
    have n5:H5 q5=none:=by
     cases z:H5 q5 with
     |none=>rfl
     |some u=>have:=an _ _ z;rw[show _=none from h5]at this;cases this
    have fin:∀H6:Hp,(∀b u,H5 b=some u->H6 b=some u)->H6 q5=some (.lst (bl (GT (xs++[v]))))->Q (.ref q5) H6:=fun H6 s6 h6=>by
     have kk:=k H6 (by rw[e',<-Gs,<-Gs];exact s6 _ _ az) (fun b u q nb=>s6 _ _ (ak _ _ q nb));rw[e']at kk;exact kk q5 (ak.none az n5) h6
    refine fin _ (fun b u q=>(Qh (Qg (an _ _ q) h5)).trans (an _ _ q)) ?_;rw[Qe,zr,uH ab (by rw[O];lia),O]
   ·rw[Wh ht];rw[Wh ht] at B;refine⟨_,Z,Jb ?_⟩;have aD:(ni [1,1,1,1]).length=4:=rfl;refine⟨_,Z,_,Z,l,_,Z,.inl ax,_,_,Z,Z,_,Z,Qz (fun hz=>?_) (fun hz=>?_)⟩
    ·have hz:j+1<4:=by have:=Wj hz;rw[aD] at this;lia
     rw[Wh L]at B;refine⟨_,Z,p,dx,_,Z,aa,zP _ _ _ Wb Wb Wb,p,dx,a,d,t,i+n+c,32,_,Z,Z,D4,?_⟩;by_cases hs:t[i+n+c]?=some 32
     ·rw[Wi hs];rw[Wi hs] at B;refine⟨_,Z,Jb ?_⟩;refine⟨xs++[v],n+(c+1),_,_,_,Z,?_,?_,?_,?_,O,ab,?_⟩
      ·rw[Qe,<-Gs,<-Gs]
      ·exact fun b u q nb=>by rw[Qh nb];exact J _ _ q nb
      ·rw[Qh po.symm];exact ai
      ·exact a'.oA (fun b u q nb=>by rw[Qh nb];exact J _ _ q nb) D.ins hl
      ·rw[e,B,md,G5,Gs i n (c+1),show 3-j=4-(j+1) by lia]
     ·rw[Wh hs];rw[Wh hs]at B;rw[B]at e;have e':Pl.bh 4 (t.drop i)=(none,n+c):=e;have kk:=k H4 (by rw[e',<-Gs];exact aa) J;rw[e']at kk;exact⟨_,Z,ZG kk⟩
    ·have hz:¬ j+1<4:=fun q=>hz (Wk (by rw[aD];lia));rw[Wi L] at B;refine Jb ⟨xs++[v],n+c,_,_,_,Z,?_,J,ai,ax,O,ab,?_⟩
     ·rw[<-Gs];exact aa
     ·rw[e,B,show 4-(j+1)=0 by lia];rfl
 ·rintro σ H1 ⟨xs,n,v3,v4,v5,rfl,ad,af,ao,aI,ag,aq,e⟩;have e':Pl.bh 4 (t.drop i)=(none,n):=e;have kk:=k H1 (by rw[e'];exact ad) af;rw[e']at kk;exact kk
open PySem PySem.Spec PyProof.Rows L2 TL
theorem oX:∀s rs,(s,rs)∈QN->(∀c∈s.toList,c.toNat<256)/\(Ge s).length<=20:=by intro s rs h;simp only[QN,GY,Prod.mk.injEq,GF,Ws]at h;rcases h with⟨rfl,_⟩|⟨rfl,_⟩|⟨rfl,_⟩|⟨rfl,_⟩|⟨rfl,_⟩|⟨rfl,_⟩|⟨rfl,_⟩|⟨rfl,_⟩|⟨rfl,_⟩|⟨rfl,_⟩|⟨rfl,_⟩|⟨rfl,_⟩|⟨rfl,_⟩|⟨rfl,_⟩|⟨rfl,_⟩|⟨rfl,_⟩<;>decide
def ZP(s:String) (rs:List (Nat×Nat)):xA:=Ge s++[if rs.length>0 then 32 else 10]
abbrev F2:Stmt:=top 94
inductive Aq(vs:List V)(H:Hp)(Q:VK)(E:XK):Prop
 |mk (s:String) (rs:List (Nat×Nat)):vs=[.str (xC s)]->(s,rs)∈QN->(∀H' l,Qn H H'->H' l=some (.lst (bl (ZP s rs)))->Q (.ref l) H')->Aq vs H Q E
theorem vy:a7 ["word","behind","sign"] ["word"] (a6 F2):=.mk'
theorem DC(F:bF K "word_octets" "word_octets" F2 f fd)(T:JY K mg C)(U:Txt K mg)(R:rA K w.params mg):QC P w K mg base bB 1 f fd ["word"] Aq:=by
 obtain⟨ad,es,nd,M,O,aa,hR⟩:=R.ex;apply F.bL vy;rintro _ H Q E ⟨sw,rs,rfl,hm,k⟩;refine⟨Z,fun _ _ _ _ _=>?_⟩;obtain⟨q,as,hn,hq,G,ac⟩:=hR sw rs hm;obtain⟨wk,wl⟩:=oX sw rs hm
 refine⟨_,Qb (bz 1 vy.nd (XG (Qs Zn (Qx Qp Wg U.len Wx (Qa (zt (Xp M) (pv 0) (fun _ _=>rfl)) Qc)) Qi (Qo _)) (QP T.g32) (QP T.g10)))
  (Qd (Qj (QA Xj (qQ (own:=[("sign",2)]) Z vy.nd (BD (pv 0)) (ZI (N:=["word","behind","sign"]) (sc:=a6 F2) Wb) (fun _ _ _ _ _=>b0 2 vy.nd) (fun _ _ _ _ _=>Jm)
   (fun _ _ _ _ _=>by exact Qx tT Wg U.ord oq (Qa (pv 2) Qc))) (QU (Qa (pv 1) Qc))))),?_⟩
 have n:∀c:UInt8,c=(if rs.length>0 then 32 else 10)->∀(r:Addr)(H2:Hp),Qn H H2->H2 r=some (.lst (bl (Ge sw)))->
   ∀j,H2 j=none->∀z,upd H2 j (.lst [V.int (c.toNat:Int)]) z=none->Q (.ref z) (upd (upd H2 j (.lst [V.int (c.toNat:Int)])) z (.lst (bl (Ge sw)++[V.int (c.toNat:Int)]))):=fun c hc r H2 B h2 j h1 z hz=>by
  refine k _ z (fun b u e=>?_) ?_
  ·have e2:=B _ _ e;have e3:upd H2 j (.lst [V.int (c.toNat:Int)]) b=some u:=by rw[Qh (Qg e2 h1)];exact e2
   rw[Qh (Qg e3 hz)];exact e3
  ·rw[Qe];unfold ZP bl;rw[Gq,<-hc];rfl
 have I:(as.map V.ref).length=rs.length:=by rw[xB];exact G
 refine⟨_,Z,ad,es,nd,_,.ref q,_,Z,Z,O,aa,hn,Z,q,_,Z,.inr (hq _),_,_,Z,Z,_,Z,Qz (fun h1=>?_) (fun h1=>?_)⟩
 all_goals
  refine⟨_,Z,_,Z,fun r J=>Ar (fun i H'=>Qn H H'/\H' r=some (.lst ((bl (Ge sw)).take i))) ⟨Qk _ J,Qe⟩ ?_ ?_⟩
  ·rintro i c' H2 ab ⟨B,h2⟩
   have hi:(bl (Ge sw))[i]?=some (V.int ((c':Nat):Int)):=by
    rw[Af];unfold ni
    have:(nb (Ge sw))[i]?=some c':=by rw[ff wk];unfold tl;simpa using ab
    rw[xJ,this];rfl
   refine⟨Z,_,Z,_,Z,Z,_,h2,?_,?_,?_⟩
   ·rw[Gk,Ql];exact xV (show min i (Ge sw).length<=20 by lia) Wa
   ·exact fun b u e'=>by rw[Qh (Qg e' J)];exact B _ _ e'
   ·rw[Qe,Ug,hi];rfl
  ·rintro H2 ⟨B,h2⟩
   rw[show(xC sw).cps.size=(bl (Ge sw)).length by
    rw[Af];unfold ni;rw[xB,ff wk];unfold tl;simp,Gy]at h2
   refine⟨_,Z,(by show 1<=sizeLine;decide),fun j h3=>⟨r,j,bl (Ge sw),_,Z,Z,?_,Qe,?_,fun z hz=>?_⟩⟩
   ·rw[Qh (Qg h2 h3)];exact h2
   ·rw[Ql];exact xK (show(Ge sw).length+1<=21 by lia) Wa
   ·first
     |exact n 32 (by rw[Wi];have:=Wj h1;rw[I]at this;lia) r H2 B h2 j h3 z hz
     |exact n 10 (by rw[Wh];intro q;apply h1;rw[I];exact Wk L) r H2 B h2 j h3 z hz
theorem JA:∀(w t:xA),(w==t.take w.length)=decide (Go w t=w.length)
 |[],_=>by simp[Go]
 |a::r,[]=>by simp[Go]
 | a::r,b::s=>by
  have j:=JA r s;unfold Go;by_cases h:a=b
  ·grind
  ·grind
def QS (ws:List (String×List (Nat×Nat))):List xA:=ws.map fun x=>ZP x.1 x.2
def most(bs:List xA)(t:xA):Nat:=(bs.map fun w=>Go w t).foldl max 0
theorem o8(bs:List xA)(w t:xA):most (bs++[w]) t=max (most bs t) (Go w t):=by unfold most;grind
theorem og{bs:List xA}{j:Nat}(n:j<bs.length) (h:Go bs[j] t=(bs[j]).length) (z:∀i (hi:i<j),¬Go (bs[i]'(by lia)) t=(bs[i]'(by lia)).length):x6 bs t=.ok (j,(bs[j]).length):=by unfold x6;rw[Zq (i:=j) n (by rw[JA];exact Wk h) fun i hi=>by rw[JA];exact Wl (z i hi)];grind
theorem ke{bs:List xA} (j:∀i (hi:i<bs.length),¬Go bs[i] t=(bs[i]).length):x6 bs t=.error (most bs t):=by unfold x6;rw[Pl.bw.2 fun i hi=>by rw[JA];exact Wl (j i hi)];rfl
abbrev Ho:Stmt:=top 95
def DW(K:xz)(C:Addr):Sp:=fun vs H Q _=>∃(p dx a d l:Addr) (t:xA) (i:Nat) (ws:List (String×List (Nat×Nat))),vs=[.ref p,.ref l]/\YK K C H p dx a d t i/\a' K H l (ws.map fun x=>V.str (xC x.1))/\(∀x∈ws,x∈QN)/\
 ∀H',cC p H H'->match x6 (QS ws) (t.drop i) with
  |.ok (k,n)=>H' p=some (.ins C dx (sf a (i+n) d))->Q (.str (xC (ws.getD k ("",[])).1)) H'
  |.error n=>H' p=some (.ins C dx (sf a (i+n) d))->Q .bP H'
theorem nA:a7 ["scan","words","most","word","octets","count"] ["scan","words"] (a6 Ho):=.mk'
theorem nV:bootBuiltins "max" = some (.builtin "max"):=by decide +kernel
theorem Ff(F:bF K "take_word" "take_word" Ho f fd)(T:JY K mg C)(U:Txt K mg)(WO:bq P w K mg base 1 "word_octets" ["word"] Aq) (AC:bq P w K mg base 2 "agreeing_count" ["scan","octets"] (Bg K C)) :
  QC P w K mg base bB 3 f fd ["scan","words"] (DW K C):=by
 apply F.bL nA;rintro _ H Q E ⟨p,dx,a,d,l,t,i,ws,rfl,D,hl,hw,k⟩;refine⟨Z,fun _ _ _ _ hr=>?_⟩
 refine⟨_,Qb (bz 2 nA.nd Qi)
  (Qb (QL PassesOwn.never Z (Q3 (pv 1)) (b0 3 nA.nd)
   (Qb (bz 4 nA.nd (Qr WO (hr.mono Wa) (Qa (pv 3) Qc)))
   (Qb (bz 5 nA.nd (Qr AC hr (Qa (pv 0) (Qa (pv 4) Qc))))
   (Qb (QD (Qs XI (pv 5) (Qx Qp Wg U.len Wx (Qa (pv 4) Qc)) (Qo _)) (Qb (Jn (pv 0) (pv 5) j7) (Qd (Qj (pv 3)))) Qq)
   (Qd (bz 2 nA.nd (Qx (oj Z) Wg U.max nV (Qa (pv 2) (Qa (pv 5) Qc)))))))))
  (Qb (Jn (pv 0) (pv 2) j7) (Qd (Qj QT)))),?_⟩
 have wl:(QS ws).length=ws.length:=by unfold QS;rw[xB]
 refine⟨_,Z,l,Z,⟨_,hl⟩,Zs (K:=K) (a:=l) (xs:=ws.map fun x=>V.str (xC x.1)) (fun j σ H'=>C7 fun(v3 v4 v5:Option V)=>ek (σ=[some (.ref p),some (.ref l),some (.int (most ((QS ws).take j) (t.drop i):Int)),v3,v4,v5]) (Qn H H') (∀m (G:m<(QS ws).length),m<j->¬Go (QS ws)[m] (t.drop i)=((QS ws)[m]).length)) ⟨none,none,none,Z,fun _ _ e=>e,fun m _ q=>Wm q (Nat.not_lt_zero _)⟩ (fun j σ H' _ ⟨_,_,_,_,z,_⟩=>z.seq hl) ?_ ?_⟩
 ·rintro j x σ H1 I ⟨v3,v4,v5,rfl,z,no⟩;rw[xJ] at I;cases B:ws[j]? with
  |none=>rw[B]at I;cases I
  | some n=>
   rw[B]at I;have I:V.str (xC n.1)=x:=Wo I;subst I;have hj:j<ws.length:=(List.getElem?_eq_some_iff.1 B).1;have aa:j<(QS ws).length:=by rw[wl];exact hj
   have J:(QS ws)[j]?=some (ZP n.1 n.2):=by unfold QS;grind
   have wj:(QS ws)[j]=ZP n.1 n.2:=(List.getElem?_eq_some_iff.1 J).2;refine⟨_,Z,n.1,n.2,Z,hw _ (xZ B),fun H2 o O ho=>?_⟩;have D2:YK K C H2 p dx a d t i:=⟨O _ _ (z _ _ D.ins),(z.trans O).seq D.txt⟩;refine⟨_,Z,_,Z,p,dx,a,d,o,t,ZP n.1 n.2,i,Z,D2,a'.of ho,_,Z,_,Z,o,_,Z,.inl (a'.of ho),Z,_,Z,Qz (fun h1=>?_) (fun h1=>?_)⟩
   ·have h1:Go (ZP n.1 n.2) (t.drop i)=(ZP n.1 n.2).length:=by have:=V.int.inj (Wj h1);rw[Ql] at this;lia
    refine⟨_,Z,p,C,dx,_,_,Z,D2.ins,T.cl,T.nP,jJ _ _ _,_,Z,_,_,Z,Z,dx,_,D2.ins,zQ _ _ _,_,Z,?_⟩;rw[show((i:Int)+(Go (ZP n.1 n.2) (t.drop i):Int))=((i+(ZP n.1 n.2).length:Nat):Int) by rw[h1];lia,zO];have kk:=k (upd H2 p (.ins C dx (sf a (i+(ZP n.1 n.2).length) d))) (fun b u q nb=>by rw[Qh nb];exact O _ _ (z _ _ q));rw[og aa (by rw[wj];exact h1) (fun m G=>no m L G),wj]at kk;have kk:=kk Qe;grind
   ·have h1:¬ Go (ZP n.1 n.2) (t.drop i)=(ZP n.1 n.2).length:=fun q=>h1 (by rw[Ql,q];exact Wk Z);refine⟨_,Z,_,Z,_,_,Z,some (.str (xC n.1)),some (.ref o),some (.int (Go (ZP n.1 n.2) (t.drop i):Int)),?_,z.trans O,fun m G lt=>?_⟩
    ·rw[Ug,J];show _=[_,_,some (V.int (most ((QS ws).take j++[ZP n.1 n.2]) (t.drop i):Int)),_,_,_];rw[o8];grind
    grind
 ·rintro σ H1 ⟨v3,v4,v5,rfl,z,no⟩;rw[xB]at no;have M:=ke (bs:=QS ws) (t:=t.drop i) fun m G=>no m G (by rw[wl]at G;exact G);have D1:YK K C H1 p dx a d t i:=⟨z _ _ D.ins,z.seq D.txt⟩;refine⟨_,Z,p,C,dx,_,_,Z,D1.ins,T.cl,T.nP,jJ _ _ _,_,Z,_,_,Z,Z,dx,_,D1.ins,zQ _ _ _,?_⟩;rw[xB,<-wl,Gy,show((i:Int)+(most (QS ws) (t.drop i):Int))=((i+most (QS ws) (t.drop i):Nat):Int) by lia,zO];have kk:=k (upd H1 p (.ins C dx (sf a (i+most (QS ws) (t.drop i)) d))) (fun b u q nb=>by rw[Qh nb];exact z _ _ q);rw[M]at kk;exact kk Qe
end Gp
namespace L2
open PySem PySem.Spec PyProof.Rows
def pJ(es:Array DictEntry):It:=
 ⟨fun i _=>i<es.size,fun i H x H'=>H'=H/\∃(en:DictEntry)(z:Str)(t:Tok),es[i]?=some en/\en.key=.str z t/\x=.str z,fun i _=>es.size<=i⟩
theorem kl{P:Program}{w:World}{K:xz}{tg:Expr}{d:Addr}{es:Array DictEntry}{ep:Nat}(it:Addr)(hl:K.lookup d=some ⟨.type "dict",none,.dict es ep,#[]⟩) (hk:∀(i:Nat)(en:DictEntry),es[i]?=some en->∃(z:Str)(t:Tok),en.key=.str z t) :
  zg P w K tg (pJ es) [it] it (fun i h=>h.IsKeyIter it d i es.size ep) where
 mem:=by simp
 obj:=fun i h st b j=>by
  have e:b=it:=by simpa using j
  subst e;obtain⟨F,e,c,G⟩:=st;exact⟨F,e,fun v z=>by rw[G]at z;cases z⟩
 keep:=fun i h h' st k=>st.at fun F e=>k it We F e
 item:=by intro X J hw M hc i pins s σ H E I hf st O;subst J hw M;obtain⟨U,f1,f2,f3,f4,f5⟩:=hf it We;have n:es[i]?=some es[i]:=GV O;obtain⟨z,t,hz⟩:=hk i _ n;refine yG st (I.eE _ _ hl) Z Z n fun h' B sb=>?_;have I1:Inv X pins σ H { s with heap:=h' }:=I.turned (t':=s.toks) (fun b ob j e=>(sb.2 b j).trans e) U f1 f3 f4 f5;obtain⟨F,e,c,G⟩:=id B;exact⟨es[i].key,rfl,yh (s:={ s with heap:=h' }) e c G Wa ⟨.str z,H,I1,⟨t,hz⟩,⟨rfl,_,z,t,n,hz,rfl⟩,B,fun b j=>(hf b j).1⟩⟩
 done:=by intro X J hw M hc i pins s σ H E I hf st O;subst J hw M;obtain⟨U,f1,f2,f3,f4,f5⟩:=hf it We;exact jY (I.ok.hd hc) st (I.eE _ _ hl) Z Z O fun h' eb=>⟨Z,I.turned (t':=s.toks) (fun b ob j e=>eb b ob j e) U f1 f3 f4 f5⟩
 self:=fun A i s Q E st h=>wpAny_pyIter_keyiter st h
inductive lV(K:xz)(R:It->Hp->Prop)(x:V)(H1:Hp):Prop
 |mk (d:Addr) (es:Array DictEntry) (ep:Nat):x=.ref d->(d==sysModules)=false->K.lookup d=some ⟨.type "dict",none,.dict es ep,#[]⟩->((∀(i:Nat)(en:DictEntry),es[i]?=some en->∃(z:Str)(t:Tok),en.key=.str z t))->R (pJ es) H1->lV K R x H1
def Bx(K:xz)(td:TE):TI:=fun σ H R=>td σ H (lV K R)
theorem sW{X:Cx}{tg e:Expr}{td:TE}(n:PE X e td):PI X tg e (Bx X.K td):=by intro pins s σ H R I h;refine bx (n pins s σ H _ I h) fun u z ⟨x,H1,j,B,d,es,ep,ex,F,hl,hk,q⟩=>?_;subst ex;obtain rfl:u=Value.ref d:=B;exact nj F (j.eE _ _ hl) ⟨Z,Z,Z⟩ Z (zZ (tk:=z.toks) j _ (kl _ hl hk) ⟨_,Wv _ Z,Z,Z⟩ q)
inductive fU(K:xz)(Pm:Params)(Q:VK)(y:V)(x:V)(H2:Hp):Prop
 |mk (a:Addr) (es:Array DictEntry) (n:Nat) (z:Str) (r:Option Value):x=.ref a->y=.str z->(a==sysModules)=false->K.lookup a=some ⟨.type "dict",none,.dict es n,#[]⟩->G7 Pm es.toList->xY K a z=some r->Q (.bl (!r.isSome)) H2->fU K Pm Q y x H2
def vJ(K:xz)(j:Params)(ty td:TE):TE:=fun σ H Q=>ty σ H fun y H1=>td σ H1 (fU K j Q y)
theorem mR{X:Cx}{o i:Expr}{ty td:TE}(hi:PE X i ty)(B:PE X o td):PC X .NotIn i o (vJ X.K X.w.params ty td):=by intro pins s σ H Q I h;refine bx (hi pins s σ H _ I h) fun iv F ⟨y,H1,G,J,M⟩=>bx (B pins F σ H1 _ G M) fun u s2 h2=>?_;obtain⟨x,H2,j,O,a,es,n,z,r,rfl,rfl,U,hl,hk,e,q2⟩:=h2;obtain rfl:u=Value.ref a:=O;obtain⟨t,rfl⟩:=J;have hm:=PySem.W.mapOf_K (prog:=X.prog) (w:=X.w) j.eE hl hk;refine wpAny_notIn_of (strKind_is X.prog X.w z t) U hm ?_;rw[PySem.W.find_K hl e];exact⟨.bl _,H2,j.tok _,Z,q2⟩
theorem oz{es:Array DictEntry}{g:TG}{tb:TS}{D:JD}{σ:St}{H:Hp}(j:Nat->St->Hp->Prop)(h0:j 0 σ H)
  (I:∀(i:Nat) (en:DictEntry) (z:Str) (t:Tok) σ H,es[i]?=some en->en.key=.str z t->j i σ H->g (.str z) σ H fun B H2=>tb { D with nx:=j (i+1),ct:=j (i+1),bk:=D.nx } B H2) (hd:∀σ H,j es.size σ H->D.nx σ H) :
  ∃W:Nat->Nat->St->Hp->Prop,(∃m,W 0 m σ H)/\∀i m σ H,W i m σ H->
   ((pJ es).stop i H/\D.nx σ H)\/((pJ es).go i H/\∃N:St->Hp->Prop,(∀F H',N F H'->∃G,G<m/\W (i+1) G F H')/\∀x H',(pJ es).yld i H x H'->g x σ H' fun B H2=>tb { D with nx:=N,ct:=N,bk:=D.nx } B H2):=by
 refine⟨fun i m σ H=>m=es.size-i/\i<=es.size/\j i σ H,⟨es.size,by simp,x4 _,h0⟩,?_⟩;rintro i m σ H ⟨rfl,hi,p⟩;by_cases n:i<es.size
 ·refine .inr ⟨n,j (i+1),fun F H' J=>⟨es.size-(i+1),by lia,Z,n,J⟩,fun x H' y=>?_⟩;obtain⟨e,en,z,t,h1,h2,rfl⟩:=y;subst e;exact I i en z t σ _ h1 h2 p
 ·have e:i=es.size:=by lia
  subst e;exact .inl ⟨xM _,hd σ H p⟩
end L2
namespace Gp
open PySem PySem.Spec PyProof.Rows L2 TL
def Y9 (rw:List (String×Addr)):List (Key×V):=rw.map fun x=>(Sum.inr (xC x.1),V.ref x.2)
structure Xy(H:Hp)(d:Addr) (rw:List (String×Addr)) (ad:String->List Addr) (c:String->List xA):Prop where
 hW:H d=some (.dK (Y9 rw))
 rP:(rw.map (·.2)).Nodup
 row:∀x∈rw,H x.2=some (.lst ((ad x.1).map V.ref))
 len:∀x∈rw,(ad x.1).length=(c x.1).length
 oct:∀x∈rw,∀(i:Nat)(a:Addr)(b:xA),(ad x.1)[i]?=some a->(c x.1)[i]?=some b->H a=some (.lst (bl b))
 off:∀x∈rw,∀a∈ad x.1,∀y∈rw,a≠y.2
structure Ai(K:xz)(mg:Str->Option Value):Prop where
 ex:∃(a:Addr)(es:Array DictEntry)(n:Nat),mg "NUMBER_RUNS" = some (.ref a)/\(a==sysModules)=false/\K.lookup a=some ⟨.type "dict",none,.dict es n,#[]⟩/\es.size=QN.length/\∀(i:Nat)(en:DictEntry),es[i]?=some en->∃(s:String×List (Nat×Nat)) (t:Tok),QN[i]?=some s/\en.key=.str (xC s.1) t
inductive uf(C:Addr)(vs:List V)(H:Hp)(Q:VK)(E:XK):Prop
 |mk (p dx a:Addr):vs=[.ref p,.ref a]->H p=some (.ins C dx [])->(∀(H':Hp) (d:Addr) (rw:List (String×Addr)),H' p=some (.ins C dx (sf a 0 d))->cC p H H'->rw.map (·.1)=QN.map (·.1)->Xy H' d rw (fun _=>[]) (fun _=>[])->H d=none->(∀x∈rw,H x.2=none)->Q .bP H')->uf C vs H Q E
theorem wI:a7 ["self","text","word"] ["self","text"] (a6 uM):=.mk'
theorem dF {rw:List (String×Addr)} {s:String} {v:V} (h:∀x∈rw,xC x.1≠xC s):XS (Y9 rw) (Sum.inr (xC s)) v=Y9 rw++[(Sum.inr (xC s),v)]:=by unfold XS;rw[Wh];intro q;rw[UQ]at q;obtain⟨y,j,e⟩:=q;unfold Y9 at j;grind
theorem zU:((QN.map (·.1)).map xC).Nodup:=by decide +kernel
theorem HB(a d:Addr):Zu "rows" (.ref d) (Zu "place" (.int 0) (Zu "text" (.ref a) []))=sf a 0 d:=rfl
theorem AL(F:bF K "__init__" "Scan.__init__" uM f fd)(T:JY K mg C)(R:Ai K mg):QC P w K mg base bB 1 f fd ["self","text"] (uf C):=by
 obtain⟨aR,es,nR,aa,ab,ac,ad,M⟩:=R.ex;apply F.bL wI;rintro _ H Q E ⟨p,dx,a,rfl,hp,k⟩;refine⟨Z,fun _ _ _ s hr=>?_⟩;have hu:=Jc hr
 refine⟨_,Qb (Y1 (pv 0) (pv 1) Z) (Qb (Y1 (pv 0) Qi Z) (Qb (Y1 (pv 0) pH Z)
  (Qd (QL PassesOwn.never Z (sW (Xp aa)) (b0 2 wI.nd) (Qd (zn hu (Qw (pv 0) Z) (pv 2) (QU Qc) Z)))))),?_⟩
 refine⟨_,Z,_,Z,p,C,dx,_,Z,hp,T.cl,T.nT,(by show 0<1000;decide),?_⟩;refine⟨_,Z,p,C,dx,_,Z,Qe,T.cl,T.nP,(by show 1<1000;decide),?_⟩;refine fun d hd=>⟨_,Z,p,C,dx,Zu "place" (.int 0) (Zu "text" (.ref a) []),Z,?_,T.cl,T.nR,(by show 2<1000;decide),?_⟩
 ·rw[Qh (Qg Qe hd),Qe]
 rw[HB];generalize G:upd (upd (upd (upd H p (.ins C dx (Zu "text" (.ref a) []))) p (.ins C dx (Zu "place" (.int 0) (Zu "text" (.ref a) [])))) d (.dK [])) p (.ins C dx (sf a 0 d))=H4;have pd:p≠d:=Qg Qe hd;have p4:H4 p=some (.ins C dx (sf a 0 d)):=by rw[<-G,Qe]
 have b4:cC p H H4:=fun b u q nb=>by
  have q2:upd (upd H p (.ins C dx (Zu "text" (.ref a) []))) p (.ins C dx (Zu "place" (.int 0) (Zu "text" (.ref a) []))) b=some u:=by rw[Qh nb,Qh nb];exact q
  rw[<-G,Qh nb,Qh (Qg q2 hd)];exact q2
 have d4:H4 d=some (.dK []):=by rw[<-G,Qh pd.symm,Qe]
 have fd:H d=none:=by rw[Qh pd.symm,Qh pd.symm]at hd;exact hd
 refine⟨aR,es,nR,Z,ab,ac,fun i en q=>(let ⟨s,t,_,e⟩:=M i en q;⟨_,t,e⟩),oz (fun i σ H'=>tL fun(v2:Option V) (rw:List (String×Addr))=>IT (σ=[some (.ref p),some (.ref a),v2]) (H' p=some (.ins C dx (sf a 0 d))) (cC p H H') (H' d=some (.dK (Y9 rw))) (rw.map (·.1)=(QN.map (·.1)).take i) ((rw.map (·.2)).Nodup) ((∀x∈rw,H' x.2=some (.lst []))) (∀x∈rw,H x.2=none)) ⟨none,[],Z,p4,b4,d4,by simp,by simp,by simp,by simp⟩ ?_ ?_⟩
 ·rintro i en z t σ H5 af hz ⟨v2,j,rfl,n,U,I,nm,rP,J,fr⟩;obtain⟨s,t',hs,hk⟩:=M i en af;rw[hk] at hz;cases hz;have hi:i<QN.length:=(List.getElem?_eq_some_iff.1 hs).1
  have B:j.length=i:=by have:=Wn Qaq nm;grind
  refine⟨x4 _,fun l hl=>⟨_,Z,p,C,dx,_,_,Z,?_,T.cl,T.nR,oN a 0 d,_,Z,d,_,Z,yL.k (k:=Sum.inr (xC s.1)) (kvs:=Y9 j) ?_ ?_,?_⟩⟩
  ·exact(Qh (Qg n hl)).trans n
  ·exact(Qh (Qg I hl)).trans I
  ·unfold Y9;rw[xB,B];exact Qal hi Wa
  ·have ld:l≠d:=fun q=>by rw[q,I] at hl;cases hl
   have lp:l≠p:=fun q=>by rw[q,n]at hl;cases hl
   have ag:H l=none:=U.none n hl
   have ah:∀x∈j,xC x.1≠xC s.1:=by
    intro x O e;obtain⟨m,hm,rfl⟩:=U9 O;have ai:m<i:=by rw[B]at hm;exact hm
    have e1:((QN.map (·.1)).map xC)[m]?=some (xC (j[m]).1):=by
     have:(j.map (·.1))[m]?=some (j[m]).1:=by rw[xJ,xD hm];rfl
     grind
    have e2:((QN.map (·.1)).map xC)[i]?=some (xC s.1):=by grind
    obtain⟨g1,e1⟩:=List.getElem?_eq_some_iff.1 e1;obtain⟨g2,e2⟩:=List.getElem?_eq_some_iff.1 e2;exact List.pairwise_iff_getElem.1 zU m i g1 g2 ai (by rw[e1,e2,e])
   refine⟨some (.str (xC s.1)),j++[(s.1,l)],Z,?_,?_,?_,?_,?_,?_,?_⟩
   ·rw[Qh (fun q=>by rw[q,I]at n;cases n),Qh lp.symm];exact n
   ·intro b u q nb;rw[Qh (Qg q fd),Qh (Qg q ag)];exact U _ _ q nb
   ·rw[Qe,Gp.dF ah];unfold Y9;grind
   ·rw[Gq,nm,Ug,xJ,hs];rfl
   ·grind
   ·intro x O;rcases List.mem_append.1 O with h | h
    ·have e:=J x h;rw[Qh (fun q=>by rw[q,I]at e;cases e),Qh (Qg e hl)];exact e
    ·rw[List.mem_singleton.1 h];show upd (upd H5 l (.lst [])) d _ l=_;rw[Qh ld,Qe]
   grind
 ·rintro σ H5 ⟨v2,j,rfl,n,U,I,nm,rP,J,fr⟩;refine k H5 d j n U ?_ ⟨I,rP,J,fun _ _=>rfl,(fun x O i a b h=>by cases h),(fun x O a h=>by cases h)⟩ fd fr;rw[nm,ad,Qbb (by rw[xB];exact xM _)]
theorem mB:∀{rw:List (String×Addr)} {s:String} {l:Addr},(s,l)∈rw->((rw.map (·.1)).map xC).Nodup->Xs (Y9 rw) (Sum.inr (xC s))=some (.ref l)
 | x::r,s,l,h,nd=>by
  have j:(xC x.1::(r.map (·.1)).map xC).Nodup:=nd;rw[UZ]at j;rcases List.mem_cons.1 h with e|e
  ·subst e;exact J1 rfl
  ·show Xs ((Sum.inr (xC x.1),V.ref x.2)::Y9 r) _=_;rw[J2,mB e j.2];grind
theorem JQ {rw:List (String×Addr)} {s:String} {rs:List (Nat×Nat)} (nm:rw.map (·.1)=QN.map (·.1)) (h:(s,rs)∈QN):∃l,(s,l)∈rw/\Xs (Y9 rw) (Sum.inr (xC s))=some (.ref l):=by
 have:s∈rw.map (·.1):=by rw[nm];exact List.mem_map.2 ⟨_,h,Z⟩
 obtain⟨x,j,rfl⟩:=List.mem_map.1 this;exact⟨x.2,j,mB j (by rw[nm];exact zU)⟩
structure BR(K:xz)(C:Addr)(H:Hp)(p dx a d:Addr)(t:xA)(i:Nat) (rw:List (String×Addr)) (ad:String->List Addr) (c:String->List xA):Prop where
 sc:YK K C H p dx a d t i
 rws:Xy H d rw ad c
 nm:rw.map (·.1)=QN.map (·.1)
 sml:∀s,(c s).length<=1000000
inductive Bj(K:xz)(C:Addr)(vs:List V)(H:Hp)(Q:VK)(E:XK):Prop
 |mk (p dx a d:Addr) (t:xA) (i:Nat) (rw:List (String×Addr)) (ad:String->List Addr) (c:String->List xA):vs=[.ref p]->BR K C H p dx a d t i rw ad c->Q (.bl (decide ((c "end").length=1)&&decide (i=t.length))) H->Bj K C vs H Q E
theorem Hw:a7 ["self"] ["self"] (a6 Hy):=.mk'
theorem Ew(F:bF K "is_page" "Scan.is_page" Hy f fd)(T:JY K mg C)(U:Txt K mg):QC P w K mg base bB 1 f fd ["self"] (Bj K C):=by
 apply F.bL Hw;rintro _ H Q E ⟨p,dx,a,d,t,i,j,n,c,rfl,S,k⟩;refine⟨Z,fun _ _ _ _ hr=>?_⟩;have z:=Jc hr;obtain⟨l,hl,B⟩:=JQ S.nm (show("end",[])∈QN by decide);have D:=S.sc
 refine⟨_,Qd (Qj (Y4 (QM XI (Qx Qp Wg U.len Wx (Qa (Yu z (Qw (pv 0) Z) Zi (fun _ _=>rfl)) Qc)) Qi (Qo _))
  (Y3 (QM XI (Qw (pv 0) Z) (Qx Qp Wg U.len Wx (Qa (Qw (pv 0) Z) Qc)) (Qo _))))),?_⟩
 have g:Z2 H d (.str (xC "end")) (some (.ref l)):=by have:=Z2.k (k:=Sum.inr (xC "end")) S.rws.hW;rw[B]at this;exact this
 refine⟨_,Z,p,C,dx,_,_,Z,D.ins,T.cl,T.nR,oN _ _ _,d,_,Z,g,l,_,Z,.inl (a'.of (S.rws.row _ hl)),Z,_,Z,?_⟩
 have G:decide (V.int ((((n "end").map V.ref).length:Nat):Int)=V.int 1)=decide ((c "end").length=1):=by rw[xB,S.rws.len _ hl];grind
 rw[G];by_cases h:(c "end").length=1
 ·rw[Wk h] at k ⊢;refine ZG ⟨_,Z,p,C,dx,_,_,Z,D.ins,T.cl,T.nP,jJ _ _ _,_,Z,p,C,dx,_,_,Z,D.ins,T.cl,T.nT,CB _ _ _,a,_,Z,.inl D.txt,Z,?_⟩
  have I:decide (V.int (i:Int)=V.int ((bl t).length:Int))=decide (i=t.length):=by rw[Ql];lia
  lia
 lia
def Xn:List (String×List String):=[("",["workshop"]),("workshop",["window"]),("window",["point","line","pane","cut"]),("point",["point","line","pane","cut"]),("line",["line","pane","cut"]),("pane",["pane","cut"]),("cut",["lead"]),("lead",["margin"]),("margin",["ways"]),("ways",["shelf"]),
 ("shelf",["sheet","kind","glass","paint","end"]),("sheet",["sheet","kind","glass","paint","end"]),("kind",["kind","glass","paint","end"]),("glass",["glass","paint","end"]),("paint",["coats"]),("coats",["paint","end"]),("end",[])]
def XU(s:String):Bool:=s == "point" || s == "line" || s == "pane"
structure Ag(K:xz)(Pm:Params)(mg:Str->Option Value):Prop where
 ex:∃(a:Addr)(es:Array DictEntry)(n:Nat),mg "FOLLOWERS" = some (.ref a)/\K.lookup a=some ⟨.type "dict",none,.dict es n,#[]⟩/\G7 Pm es.toList/\
  ∀(s:String)(l:List String),(s,l)∈Xn->∃q:Addr,xY K a (xC s)=some (some (.ref q))/\∀H,bV K H q (l.map fun x=>V.str (xC x))
structure wW(K:xz)(Pm:Params)(mg:Str->Option Value):Prop where
 ex:∃(a:Addr)(es:Array DictEntry)(n:Nat),mg "MOST_LINES" = some (.ref a)/\(a==sysModules)=false/\K.lookup a=some ⟨.type "dict",none,.dict es n,#[]⟩/\G7 Pm es.toList/\
  (∀s rs,(s,rs)∈QN->XU s=false->xY K a (xC s)=some none)/\∀s,XU s=true->∃t,xY K a (xC s)=some (some (.int 65535 t))
theorem XZ:∀s l,(s,l)∈Xn->l.length<=5/\∀x∈l,∃rs,(x,rs)∈QN:=by
 have h:Xn.all (fun x=>decide (x.2.length<=5)&&x.2.all fun y=>(QN.map (·.1)).contains y)=true:=by decide
 grind
def Z6(c:String->List xA)(s:String):Bool:=!XU s||decide ((c s).length<65535)
abbrev Kr:Stmt:=top 93
inductive BU(K:xz)(C:Addr)(vs:List V)(H:Hp)(Q:VK)(E:XK):Prop
 |mk (p dx a d:Addr) (t:xA) (i:Nat) (rw:List (String×Addr)) (ad:String->List Addr) (c:String->List xA) (s:String) (l:List String):vs=[.ref p,.str (xC s)]->BR K C H p dx a d t i rw ad c->(s,l)∈Xn->(∀H' o,Qn H H'->H' o=some (.lst ((l.filter (Z6 c)).map fun x=>V.str (xC x)))->H o=none->Q (.ref o) H')->BU K C vs H Q E
theorem CS:a7 ["scan","word","words","other"] ["scan","word"] (a6 Kr):=.mk'
theorem DG(F:bF K "words_behind" "words_behind" Kr f fd)(T:JY K mg C)(U:Txt K mg)(Fo:Ag K w.params mg)(Mo:wW K w.params mg):QC P w K mg base bB 1 f fd ["scan","word"] (BU K C):=by
 obtain⟨aF,ah,nF,ai,aj,ak,hF⟩:=Fo.ex;obtain⟨aM,B,nM,O,aa,G,I,an,ao⟩:=Mo.ex;apply F.bL CS;rintro _ H Q E ⟨p,dx,a,d,t,i,aq,ad,c,s,l,rfl,S,hm,k⟩;refine⟨Z,fun _ _ _ _ hr=>?_⟩;have hu:=Jc hr;obtain⟨q,hq,hS⟩:=hF s l hm;obtain⟨au,ab⟩:=XZ s l hm
 refine⟨_,Qb (bz 2 CS.nd (QU Qc))
  (Qb (QL PassesOwn.never Z (jT (zt (Xp ai) (pv 1) (fun _ _=>rfl))) (b0 3 CS.nd)
   (Qd (QD (Xo (Q6 (mR (pv 3) (Xp O))) (ZM (Qs ZE (Qx Qp Wg U.len Wx (Qa (Yu hu (Qw (pv 0) Z) (pv 3) (fun _ _=>rfl)) Qc)) (zt (Xp O) (pv 3) (fun _ _=>rfl)) (Qo _)))).pt
    (Qd (Zf (Xd xU Gw Gx ZD (pv 2) (Qa (pv 3) Qc)))) Qq)))
  (Qd (Qj (pv 2)))),?_⟩
 refine⟨x4 _,fun o ho=>?_⟩
 refine⟨_,Z,aF,ah,nF,_,.ref q,_,Z,Z,aj,ak,hq,Z,q,Z,⟨_,hS _⟩,zx (K:=K) (a:=q) (xs:=l.map fun x=>V.str (xC x)) (fun j σ H'=>∃v3:Option V,σ=[some (.ref p),some (.str (xC s)),some (.ref o),v3]/\Qn H H'/\H' o=some (.lst (((l.take j).filter (Z6 c)).map fun x=>V.str (xC x))))
  ⟨none,Z,Qk _ ho,Qe⟩ (fun j σ H' _ _=>hS H') ?_ ?_⟩
 ·rintro j x σ H1 J ⟨v3,rfl,M,h1⟩;rw[xJ] at J;cases n:l[j]? with
  |none=>rw[n]at J;cases J
  | some y=>
   rw[n]at J;have J:V.str (xC y)=x:=Wo J;subst J;obtain⟨rs,ac⟩:=ab y (xZ n)
   have put:Z6 c y=true->∃v3:Option V,[some (V.ref p),some (V.str (xC s)),some (V.ref o),some (V.str (xC y))]=[some (.ref p),some (.str (xC s)),some (.ref o),v3]/\Qn H (upd H1 o (.lst (((l.take j).filter (Z6 c)).map (fun x=>V.str (xC x))++[V.str (xC y)])))/\
     upd H1 o (.lst (((l.take j).filter (Z6 c)).map (fun x=>V.str (xC x))++[V.str (xC y)])) o=some (.lst (((l.take (j+1)).filter (Z6 c)).map fun x=>V.str (xC x))):=fun z=>by
    refine⟨_,Z,fun b u e=>by rw[Qh (Qg e ho)];exact M _ _ e,?_⟩;rw[Qe,Ug,n,Qan];show _=some (HO.lst (((l.take j).filter (Z6 c)++[y].filter (Z6 c)).map _));rw[VH z,Gq];rfl
   have sz:(((l.take j).filter (Z6 c)).map fun x=>V.str (xC x)).length<sizeLine:=by rw[xB];refine xV (List.length_filter_le _ _) (xV (show _<=5 from ?_) Wa);grind
   cases h3:XU y with
   | false=>
    have z:Z6 c y=true:=by unfold Z6;rw[h3];rfl
    refine⟨_,Z,aM,B,nM,_,none,Z,Z,aa,G,I,an y rs ac h3,_,Z,ZG (ZG ?_)⟩;exact⟨_,Z,.inl ⟨Z,_,a'.of h1⟩,_,Z,o,_,_,Z,Z,h1,sz,put z⟩
   | true=>
    obtain⟨tk,af⟩:=ao y h3;obtain⟨ly,ag,hv⟩:=JQ S.nm ac
    have g:Z2 H1 d (.str (xC y)) (some (.ref ly)):=by have:=Z2.k (k:=Sum.inr (xC y)) (M _ _ S.rws.hW);rw[hv]at this;exact this
    refine⟨_,Z,aM,B,nM,_,some _,Z,Z,aa,G,I,af,_,Z,Jb ?_⟩;refine⟨_,Z,p,C,dx,_,_,Z,M _ _ S.sc.ins,T.cl,T.nR,oN _ _ _,_,Z,d,_,Z,g,ly,_,Z,.inl (a'.of (M _ _ (S.rws.row _ ag))),_,Z,aM,B,nM,_,.int 65535,_,Z,Z,G,I,af,⟨tk,Z⟩,_,_,Z,Z,_,Z,?_⟩
    have e1:decide (((((ad y).map V.ref).length:Nat):Int)<65535)=decide ((c y).length<65535):=by rw[xB,S.rws.len _ ag];lia
    rw[e1];refine Qz (fun z=>?_) (fun z=>?_)
    ·have z:Z6 c y=true:=by unfold Z6;rw[z,Bool.or_true]
     exact⟨_,Z,.inl ⟨Z,_,a'.of h1⟩,_,Z,o,_,_,Z,Z,h1,sz,put z⟩
    ·have z:¬ Z6 c y=true:=by unfold Z6;rw[h3];simpa using z
     refine⟨_,Z,M,?_⟩;rw[Ug,n,Qan];grind
 ·rintro σ H1 ⟨v3,rfl,M,h1⟩;rw[xB,Gy]at h1;exact⟨_,Z,k H1 o M h1 ho⟩
theorem Xy.but{H H':Hp}{p d C dx:Addr} {fs:List (Str×V)} {rw:List (String×Addr)} {B:String->List Addr} (r:Xy H d rw B c) (k:cC p H H') (n:H p=some (.ins C dx fs)):Xy H' d rw B c where
 hW:=k _ _ r.hW (YG r.hW n (by intro z;cases z))
 rP:=r.rP
 row:=fun x j=>k _ _ (r.row x j) (YG (r.row x j) n (by intro z;cases z))
 len:=r.len
 oct:=fun x j i a b h1 h2=>k _ _ (r.oct x j i a b h1 h2) (YG (r.oct x j i a b h1 h2) n (by intro z;cases z))
 off:=r.off
def BZ(p:Addr) (rw:List (String×Addr)) (H H':Hp):Prop:=∀b u,H b=some u->b≠p->(∀x∈rw,b≠x.2)->H' b=some u
def QK(s:String){α:Type}(v:α)(f:String->List α):String->List α:=fun x=>if x=s then f x++[v] else f x
theorem Xy.app{H:Hp}{d o l:Addr} {rw:List (String×Addr)} {B:String->List Addr} {s:String} (r:Xy H d rw B c) (hl:(s,l)∈rw) (M:(rw.map (·.1)).Nodup) (ho:H o=some (.lst (bl b))) (hf:∀x∈rw,o≠x.2) :
  Xy (upd H l (.lst ((B s).map V.ref++[V.ref o]))) d rw (QK s o B) (QK s b c):=by
 have uniq:∀x∈rw,x.2=l->x=(s,l):=by
  intro x n e;obtain⟨i,hi,rfl⟩:=U9 n;obtain⟨j,I,e2⟩:=U9 hl
  have:i=j:=by
   rcases Ut i j with q|q|q
   ·have:=List.pairwise_iff_getElem.1 r.rP i j (by rw[xB];exact hi) (by rw[xB];exact I) q;grind
   ·exact q
   ·have:=List.pairwise_iff_getElem.1 r.rP j i (by rw[xB];exact I) (by rw[xB];exact hi) q;grind
  lia
 have F:∀x∈rw,x.1=s->x=(s,l):=by
  intro x n e;obtain⟨i,hi,rfl⟩:=U9 n;obtain⟨j,I,e2⟩:=U9 hl
  have:i=j:=by
   rcases Ut i j with q|q|q
   ·have:=List.pairwise_iff_getElem.1 M i j (by rw[xB];exact hi) (by rw[xB];exact I) q;grind
   ·exact q
   ·have:=List.pairwise_iff_getElem.1 M j i (by rw[xB];exact I) (by rw[xB];exact hi) q;grind
  lia
 refine⟨?_,r.rP,?_,?_,?_,?_⟩
 ·rw[Qh (YG r.hW (r.row _ hl) (by intro z;cases z))];exact r.hW
 ·intro x n;by_cases e:x.1=s
  ·have:=F x n e;subst this;show upd H l _ l=some (HO.lst ((QK s o B s).map V.ref));rw[Qe];unfold QK;grind
  ·have ne:x.2≠l:=fun q=>e (by rw[uniq x n q]);rw[Qh ne];unfold QK;rw[Wh e];exact r.row x n
 ·intro x n;unfold QK;by_cases e:x.1=s
  ·rw[Wi e,Wi e,xF,xF,r.len x n];rfl
  ·rw[Wh e,Wh e];exact r.len x n
 ·intro x n i a O h1 h2;have J:∀ a,a∈B x.1->a≠l:=fun a G=>r.off x n a G (s,l) hl;unfold QK at h1 h2;by_cases e:x.1=s
  ·rw[Wi e] at h1 h2;rcases Uk i (B x.1).length with q | q
   ·rw[GU q]at h1;rw[GU (by rw[<-r.len x n];exact q)]at h2;rw[Qh (J a (xZ h1))];exact r.oct x n i a O h1 h2
   ·rw[Us q] at h1;rw[Us (by rw[<-r.len x n];exact q)] at h2;cases z:i-(B x.1).length with
    | zero=>
     rw[z]at h1;rw[<-r.len x n,z]at h2;cases h1;cases h2;rw[Qh (hf _ hl)];exact ho
    |succ m=>rw[z]at h1;cases h1
  ·rw[Wh e]at h1 h2;rw[Qh (J a (xZ h1))];exact r.oct x n i a O h1 h2
 ·intro x n a G y U;unfold QK at G;by_cases e:x.1=s
  ·rw[Wi e] at G;rcases List.mem_append.1 G with h | h
   ·exact r.off x n a h y U
   grind
  ·rw[Wh e]at G;exact r.off x n a G y U
def Z3 (w:String×List (Nat×Nat)) (t:xA):Option xA×Nat:=
 if w.1 = "coats" then((Pl.bh 4 t).1.map GT,(Pl.bh 4 t).2) else((Pl.bf ((Qv w.2).map lg) t).1.map (enc (Qv w.2)),(Pl.bf ((Qv w.2).map lg) t).2)
def Za (ws:List (String×List (Nat×Nat))) (t:xA):Option (String×xA)×Nat:=match x6 (QS ws) t with
 |.error n=>(none,n)
 |.ok (k,n)=>((Z3 (ws.getD k ("",[])) (t.drop n)).1.map fun b=>((ws.getD k ("",[])).1,b),n+(Z3 (ws.getD k ("",[])) (t.drop n)).2)
theorem yb{bs:List xA}{k n:Nat} (h:x6 bs t=.ok (k,n)):k<bs.length:=by
 unfold x6 at h;split at h
 ·rename_i i e;cases h;unfold Gb at e;obtain⟨x,j,rfl⟩:=Option.map_eq_some_iff.1 e;grind
 ·cases h
theorem zV:(QN.map (·.1)).Nodup:=by decide
abbrev Ke:Stmt:=top 99
def DP(K:xz)(C:Addr):Sp:=fun vs H Q _=>∃(p dx a d l:Addr) (t:xA) (i:Nat) (rw:List (String×Addr)) (j:String->List Addr) (c:String->List xA) (ws:List (String×List (Nat×Nat))),vs=[.ref p,.ref l]/\BR K C H p dx a d t i rw j c/\a' K H l (ws.map fun x=>V.str (xC x.1))/\(∀x∈ws,x∈QN)/\
 ∀H',H' p=some (.ins C dx (sf a (i+(Za ws (t.drop i)).2) d))->BZ p rw H H'->match (Za ws (t.drop i)).1 with
  |some (s,b)=>∀o,Xy H' d rw (QK s o j) (QK s b c)->Q (.str (xC s)) H'
  |none=>Xy H' d rw j c->Q .bP H'
theorem wq:a7 ["scan","words","word","sizes","octets"] ["scan","words"] (a6 Ke):=.mk'
theorem cC.EG{p:Addr} {rw:List (String×Addr)} {H H':Hp} (k:cC p H H'):BZ p rw H H':=fun b u q nb _=>k _ _ q nb
theorem iQ:∀s rs,(s,rs)∈QN->(∀z∈Qv rs,z∈[1,2,4,8])/\(s = "coats" -> Qv rs=[1,1,1,1]):=by intro s rs h;simp only[QN,GY,Prod.mk.injEq,GF,Ws]at h;rcases h with h|h|h|h|h|h|h|h|h|h|h|h|h|h|h|h<;>obtain⟨rfl,rfl⟩:=h<;>decide
theorem iR:∀s rs,(s,rs)∈QN->xC s=xC "coats" -> s = "coats" := by
 intro s rs h;simp only[QN,GY,Prod.mk.injEq,GF,Ws]at h;rcases h with h|h|h|h|h|h|h|h|h|h|h|h|h|h|h|h<;>obtain⟨rfl,rfl⟩:=h<;>decide +kernel
theorem E4(F:bF K "take_line" "take_line" Ke f fd)(T:JY K mg C) (TW:bq P w K mg base 3 "take_word" ["scan","words"] (DW K C)) (NS:bq P w K mg base 1 "number_sizes" ["word"] (AR K)) (TC:bq P w K mg base 3 "take_coats" ["scan","sizes"] (Ci K C))
  (ac:bq P w K mg base 3 "take_numbers" ["scan","sizes"] (sd K C)):QC P w K mg base bB 4 f fd ["scan","words"] (DP K C):=by
 apply F.bL wq;rintro _ H Q E ⟨p,dx,a,d,l,t,i,G,ad,c,ws,rfl,S,hl,hw,k⟩;refine⟨Z,fun _ _ _ _ hr=>?_⟩;have hu:=Jc hr
 refine⟨_,Qb (bz 2 wq.nd (Qr TW hr (Qa (pv 0) (Qa (pv 1) Qc))))
  (Qb (QD (Q6 (Y5 (pv 2))) (Qd (Qj QT)) Qq)
  (Qb (bz 3 wq.nd (Qr NS (hr.mono Wa) (Qa (pv 2) Qc)))
  (Qb (bz 4 wq.nd (XG (Qs XI (pv 2) Zi (Qo _)) (Qr TC hr (Qa (pv 0) (Qa (pv 3) Qc))) (Qr ac hr (Qa (pv 0) (Qa (pv 3) Qc)))))
  (Qb (QD (Q6 (Y5 (pv 4))) (Qd (Qj QT)) Qq)
  (Qb (Zf (Xd xU Gw Gx ZD (Yu hu (Qw (pv 0) Z) (pv 2) (fun _ _=>rfl)) (Qa (pv 4) Qc)))
  (Qd (Qj (pv 2)))))))),?_⟩
 refine⟨_,Z,_,Z,p,dx,a,d,l,t,i,ws,Z,S.sc,hl,hw,fun H1 b1=>?_⟩;unfold Za at k;cases ho:x6 (QS ws) (t.drop i) with
 | error n=>
  intro M;rw[ho]at k;exact⟨_,Z,_,Z,ZG (k H1 M b1.EG (S.rws.but b1 S.sc.ins))⟩
 | ok kn=>
  obtain⟨kx,n⟩:=kn;intro M;rw[ho]at k;simp only at k;have hk:kx<ws.length:=by have:=yb ho;unfold QS at this;rw[xB]at this;exact this
  generalize ai:ws.getD kx ("",[])=wd at k ⊢
  have J:(wd.1,wd.2)∈QN:=by grind
  obtain⟨af,ag⟩:=iQ _ _ J;refine⟨_,Z,_,Z,Jb ?_⟩;refine⟨_,Z,wd.1,wd.2,Z,J,fun H2 z s2 hz=>?_⟩;have b2:cC p H H2:=fun b u q nb=>s2 _ _ (b1 _ _ q nb);have D2:YK K C H2 p dx a d t (i+n):=S.sc.go b2 (s2 _ _ M);have dd:t.drop (i+n)=(t.drop i).drop n:=by rw[G5]
  have kN:∀m,Z3 wd ((t.drop i).drop n)=(none,m)->∀H',H' p=some (.ins C dx (sf a (i+n+m) d))->cC p H H'->Xy H' d G ad c->Q .bP H':=fun m e H' hp I rr=>by
   rw[e]at k;exact k H' (by rw[<-Gs];exact hp) I.EG rr
  have fin:∀b m,Z3 wd ((t.drop i).drop n)=(some b,m)->∀H' o,Xy H' d G (QK wd.1 o ad) (QK wd.1 b c)->H' p=some (.ins C dx (sf a (i+n+m) d))->BZ p G H H'->Q (.str (xC wd.1)) H':=fun b m e H' o rr hp I=>by
   grind
  refine⟨_,Z,Z,_,Z,Qz (fun hc=>?_) (fun hc=>?_)⟩
  ·have hc:wd.1 = "coats" := iR _ _ J (V.str.inj (Wj hc));have ah:H2 z=some (.lst (ni [1,1,1,1])):=by rw[hz,ag hc]
   refine⟨_,Z,_,Z,p,dx,a,d,z,t,i+n,Z,D2,a'.of ah,fun O B U=>?_⟩;rcases hq:Pl.bh 4 (t.drop (i+n)) with⟨v|xs,m⟩
   ·rw[hq]at B;have I:cC p H O:=b2.trans U;exact⟨_,Z,_,Z,ZG (kN m (by unfold Z3;rw[Wi hc,<-dd,hq];rfl) O B I (S.rws.but I S.sc.ins))⟩
   ·rw[hq] at B;intro o fo hO;have I:cC p H O:=b2.trans U;have S3:Xy O d G ad c:=S.rws.but I S.sc.ins;obtain⟨lw,j,hv⟩:=JQ S.nm J
    have g:Z2 O d (.str (xC wd.1)) (some (.ref lw)):=by have:=Z2.k (k:=Sum.inr (xC wd.1)) S3.hW;rw[hv]at this;exact this
    have aa:H o=none:=b2.none (s2 _ _ M) fo;have ab:∀x∈G,o≠x.2:=fun x hx q=>by rw[q,S.rws.row x hx]at aa;cases aa
    refine⟨_,Z,_,Z,Jb ?_⟩;refine⟨_,Z,p,C,dx,_,_,Z,B,T.cl,T.nR,oN _ _ _,_,Z,d,_,Z,g,.inl ⟨Z,_,a'.of (S3.row _ j)⟩,_,Z,lw,_,_,Z,Z,S3.row _ j,?_,_,Z,?_⟩
    ·rw[xB,S.rws.len _ j];exact xV (S.sml _) Wa
    ·have rr:=S3.app j (by rw[S.nm];exact zV) hO ab
     have np:p≠lw:=fun q=>by
      have e:=S3.row _ j;lia
     refine fin _ m (by unfold Z3;rw[Wi hc,<-dd,hq];rfl) _ o rr ?_ ?_
     ·rw[Qh np];exact B
     ·intro b u q nb nr;rw[Qh (nr _ j)];exact I _ _ q nb
  ·have hc:¬ wd.1 = "coats" := fun q=>hc (by rw[q];exact Wk Z);refine⟨_,Z,_,Z,p,dx,a,d,z,t,i+n,Qv wd.2,Z,D2,a'.of hz,af,(zT _ _ J).1,fun O B U=>?_⟩;rcases hq:Pl.bf ((Qv wd.2).map lg) (t.drop (i+n)) with ⟨v | xs,m⟩
   ·rw[hq]at B;have I:cC p H O:=b2.trans U;exact⟨_,Z,_,Z,ZG (kN m (by unfold Z3;rw[Wh hc,<-dd,hq];rfl) O B I (S.rws.but I S.sc.ins))⟩
   ·rw[hq] at B;intro o fo hO;have I:cC p H O:=b2.trans U;have S3:Xy O d G ad c:=S.rws.but I S.sc.ins;obtain⟨lw,j,hv⟩:=JQ S.nm J
    have g:Z2 O d (.str (xC wd.1)) (some (.ref lw)):=by have:=Z2.k (k:=Sum.inr (xC wd.1)) S3.hW;rw[hv]at this;exact this
    have aa:H o=none:=b2.none (s2 _ _ M) fo;have ab:∀x∈G,o≠x.2:=fun x hx q=>by rw[q,S.rws.row x hx]at aa;cases aa
    refine⟨_,Z,_,Z,Jb ?_⟩;refine⟨_,Z,p,C,dx,_,_,Z,B,T.cl,T.nR,oN _ _ _,_,Z,d,_,Z,g,.inl ⟨Z,_,a'.of (S3.row _ j)⟩,_,Z,lw,_,_,Z,Z,S3.row _ j,?_,_,Z,?_⟩
    ·rw[xB,S.rws.len _ j];exact xV (S.sml _) Wa
    ·have rr:=S3.app j (by rw[S.nm];exact zV) hO ab
     have np:p≠lw:=fun q=>by
      have e:=S3.row _ j;lia
     refine fin _ m (by unfold Z3;rw[Wh hc,<-dd,hq];rfl) _ o rr ?_ ?_
     ·rw[Qh np];exact B
     ·intro b u q nb nr;rw[Qh (nr _ j)];exact I _ _ q nb
theorem oP{bs:List xA}{k n:Nat}(j:∀b∈bs,b≠[]) (h:x6 bs t=.ok (k,n)):1<=n/\t≠[]:=by
 have hk:=yb h;unfold x6 at h;split at h
 ·rename_i i e;cases h;unfold Gb at e;grind
 ·cases h
theorem nu (ws:List (String×List (Nat×Nat))):∀b∈QS ws,b≠[]:=by intro b j;unfold QS at j;obtain⟨x,_,rfl⟩:=List.mem_map.1 j;unfold ZP;simp
theorem qx {ws:List (String×List (Nat×Nat))} {x:String×xA} {n:Nat} (h:Za ws t=(some x,n)):1<=n/\t≠[]:=by
 unfold Za at h;cases e:x6 (QS ws) t with
 |error m=>rw[e]at h;cases h
 | ok j=>
  obtain⟨k,m⟩:=j;rw[e]at h;have:=oP (nu ws) e;have h2:m+_=n:=Wn Prod.snd h;exact⟨by lia,this.2⟩
theorem zH {ws:List (String×List (Nat×Nat))} {s:String} {n:Nat} (h:Za ws t=(some (s,b),n)):s∈ws.map (·.1):=by
 unfold Za at h;cases e:x6 (QS ws) t with
 |error m=>rw[e]at h;cases h
 | ok j=>
  obtain⟨k,m⟩:=j;rw[e]at h;have hk:k<ws.length:=by have:=yb e;unfold QS at this;rw[xB]at this;exact this
  have h1:((Z3 (ws.getD k ("",[])) (t.drop m)).1.map fun b=>((ws.getD k ("",[])).1,b))=some (s,b):=Wn Prod.fst h;obtain⟨B,_,z⟩:=Option.map_eq_some_iff.1 h1;have:(ws.getD k ("",[])).1=s:=Wn Prod.fst z;rw[<-this,GA,xD hk];exact List.mem_map.2 ⟨_,xP hk,Z⟩
def Z8(s:String):List String:=((Xn.find? fun x=>x.1==s).map (·.2)).getD []
def ZS(l:List String):List (String×List (Nat×Nat)):=l.map fun s=>(s,((QN.find? fun x=>x.1==s).map (·.2)).getD [])
def QY(s:String)(c:String->List xA):List (String×List (Nat×Nat)):=ZS ((Z8 s).filter (Z6 c))
def J5:Nat->String->(String->List xA)->xA->(String->List xA)×Nat
 |0,_,c,_=>(c,0)
 | f+1,s,c,t=>match Za (QY s c) t with
  |(none,n)=>(c,n)
  |(some (s',b),n)=>((J5 f s' (QK s' b c) (t.drop n)).1,n+(J5 f s' (QK s' b c) (t.drop n)).2)
theorem zS:∀(f g:Nat)(s:String)(c:String->List xA)(t:xA),t.length<f->t.length<g->J5 f s c t=J5 g s c t
 | f+1,g+1,s,c,t,h1,h2=>by
  unfold J5;rcases e:Za (QY s c) t with⟨v|⟨s',b⟩,n⟩
  ·rfl
  ·have:=qx e;have hl:0<t.length:=List.length_pos_iff.2 this.2;have hd:(t.drop n).length<t.length:=by rw[Ga];lia
   simp only;rw[zS f g s' (QK s' b c) (t.drop n) L L]
def QJ(s:String)(c:String->List xA)(t:xA):(String->List xA)×Nat:=J5 (t.length+1) s c t
theorem JP(s:String)(c:String->List xA)(t:xA):QJ s c t=match Za (QY s c) t with
  |(none,n)=>(c,n)
  |(some (s',b),n)=>((QJ s' (QK s' b c) (t.drop n)).1,n+(QJ s' (QK s' b c) (t.drop n)).2):=by
 unfold QJ
 conv=>lhs;unfold J5
 rcases e:Za (QY s c) t with⟨v|⟨s',b⟩,n⟩
 ·rfl
 ·have:=qx e;have hl:0<t.length:=List.length_pos_iff.2 this.2;have hd:(t.drop n).length<t.length:=by rw[Ga];lia
  simp only;rw[zS t.length ((t.drop n).length+1) s' (QK s' b c) (t.drop n) hd L]
theorem Yq{l:List String} (h:∀x∈l,∃rs,(x,rs)∈QN):∀x∈ZS l,x∈QN:=by
 intro x j;unfold ZS at j;obtain⟨s,n,rfl⟩:=List.mem_map.1 j;obtain⟨rs,hr⟩:=h s n
 have key:∀s rs,(s,rs)∈QN->((QN.find? fun x=>x.1==s).map (·.2)).getD []=rs:=by intro s rs h;simp only[QN,GY,Prod.mk.injEq,GF,Ws]at h;rcases h with h|h|h|h|h|h|h|h|h|h|h|h|h|h|h|h<;>obtain⟨rfl,rfl⟩:=h<;>decide
 rw[key s rs hr];exact hr
theorem YR:∀s rs,(s,rs)∈QN->(s,Z8 s)∈Xn:=by intro s rs h;simp only[QN,GY,Prod.mk.injEq,GF,Ws]at h;rcases h with h|h|h|h|h|h|h|h|h|h|h|h|h|h|h|h<;>obtain⟨rfl,rfl⟩:=h<;>decide
abbrev HX:Stmt:=top 100
def c0:String->List xA:=fun _=>[]
inductive AA(K:xz)(C:Addr)(vs:List V)(H:Hp)(Q:VK)(E:XK):Prop
 |mk (a:Addr) (t:xA):vs=[.ref a]->a' K H a (bl t)->t.length<=1000000->(∀(H':Hp) (p dx d:Addr) (rw:List (String×Addr)) (ad:String->List Addr),Qn H H'->BR K C H' p dx a d t (QJ "" c0 t).2 rw ad (QJ "" c0 t).1->Q (.ref p) H')->AA K C vs H Q E
theorem vR:a7 ["text","scan","word"] ["text"] (a6 HX):=.mk'
def KC:Option String->V|none=>.bP|some s=>.str (xC s)
theorem DY{f fI:Addr}{fd ab:FuncData}(F:bF K "scan_of" "scan_of" HX f fd)(T:JY K mg C)(M:Mk K C fI)(bI:Xr K ab ["self","text"] []) (G:QC P w K mg base bB 1 fI ab ["self","text"] (uf C))
  (TL:bq P w K mg base 4 "take_line" ["scan","words"] (DP K C)) (WB:bq P w K mg base 1 "words_behind" ["scan","word"] (BU K C)):QC P w K mg base bB 5 f fd ["text"] (AA K C):=by
 apply F.bL vR;rintro _ H Q E ⟨a,t,rfl,hS,hz,k⟩;refine⟨Z,fun _ _ _ s hr=>?_⟩
 refine⟨_,Qb (bz 1 vR.nd (mM M G (hr.mono Wa) Z T.mgC bI .nil Zc (Qa (pv 0) Qc)))
  (Qb (bz 2 vR.nd Zi)
  (Qb (Yl PassesOwn.never (Q6 (ZV (pv 2))) (Qd (bz 2 vR.nd (Qr TL hr (Qa (pv 1) (Qa (Qr WB (hr.mono Wa) (Qa (pv 1) (Qa (pv 2) Qc))) Qc))))))
  (Qd (Qj (pv 1))))),?_⟩
 refine⟨_,Z,?_⟩;intro p dx np nd ne;refine⟨p,dx,a,Z,Qe,fun H1 d j ag b1 nm rr rP fr=>⟨Z,?_⟩⟩;have s1:Qn H H1:=fun b u q=>b1 _ _ (by rw[Qh (Qg q np),Qh (Qg q nd)];exact q) (Qg q np)
 have ah:∀x∈j,H x.2=none:=fun x J=>by
  have e:=fr x J;have n1:x.2≠p:=fun q=>by rw[q,Qe]at e;cases e
  rw[Qh n1]at e;have n2:x.2≠dx:=fun q=>by rw[q,Qe]at e;cases e
  rw[Qh n2]at e;exact e
 refine⟨fun m σ H'=>∃(U:Option String)(n:Nat)(B:String->List Addr)(c:String->List xA),σ=[some (.ref a),some (.ref p),some (KC U)]/\Qn H H'/\BR K C H' p dx a d t n j B c/\(∀s,(c s).length+(t.drop n).length<=t.length)/\
   (match U with|none=>QJ "" c0 t=(c,n)/\m=0|some s=>(s,Z8 s)∈Xn/\QJ "" c0 t=((QJ s c (t.drop n)).1,n+(QJ s c (t.drop n)).2)/\m=(t.drop n).length+1),
  ⟨_,some "",0,fun _=>[],c0,Z,s1,⟨⟨ag,s1.seq hS⟩,rr,nm,fun _=>x4 _⟩,fun _=>by show 0+_<=_;rw[G4];lia,by decide,by rw[G4,U5],Z⟩,?_⟩
 rintro m σ H2 ⟨U,n,B,c,rfl,s2,S,cnt,im⟩;refine⟨_,Z,_,Z,?_⟩;cases U with
 | none=>
  obtain⟨e,rfl⟩:=im;refine Jb ⟨_,Z,k H2 p dx d j B s2 ?_⟩;rw[e];exact S
 | some s=>
  obtain⟨hf,e,rfl⟩:=im;refine ZG ?_
  refine⟨fun dw H'=>∃(I:Nat) (_:I<(t.drop n).length+1) (U:Option String) (n:Nat) (B:String->List Addr) (c:String->List xA),dw=[some (.ref a),some (.ref p),some (KC U)]/\Qn H H'/\BR K C H' p dx a d t n j B c/\(∀s,(c s).length+(t.drop n).length<=t.length)/\
   (match U with|none=>QJ "" c0 t=(c,n)/\I=0|some s=>(s,Z8 s)∈Xn/\QJ "" c0 t=((QJ s c (t.drop n)).1,n+(QJ s c (t.drop n)).2)/\I=(t.drop n).length+1),fun dw H' ⟨I,hm,h⟩=>⟨I,hm,h⟩,?_⟩
  have all:=(XZ _ _ hf).2;refine⟨_,Z,_,Z,_,Z,p,dx,a,d,t,n,j,B,c,s,Z8 s,Z,S,hf,fun H3 o s3 h3 f3=>?_⟩;have S3:BR K C H3 p dx a d t n j B c:=⟨⟨s3 _ _ S.sc.ins,s3.seq S.sc.txt⟩,⟨s3 _ _ S.rws.hW,S.rws.rP,fun x J=>s3 _ _ (S.rws.row x J),S.rws.len,fun x J i a b q1 q2=>s3 _ _ (S.rws.oct x J i a b q1 q2),S.rws.off⟩,S.nm,S.sml⟩;have wm:∀l:List String,(ZS l).map (fun x=>V.str (xC x.1))=l.map fun x=>V.str (xC x):=by intro l;simp[ZS]
  refine⟨p,dx,a,d,o,t,n,j,B,c,QY s c,Z,S3,?_,Yq (fun x J=>all x (List.mem_filter.1 J).1),fun H4 z b4=>?_⟩
  ·unfold QY;rw[wm];exact a'.of h3
  have s4:Qn H H4:=fun b u q=>b4 _ _ (s3 _ _ (s2 _ _ q)) (Qg q np) (fun x J=>Qg q (ah x J));have st:=JP s c (t.drop n);rcases et:Za (QY s c) (t.drop n) with⟨v|⟨s',b⟩,I⟩
  ·rw[et]at z st;simp only at z st;intro aa;refine⟨0,Nat.succ_pos _,none,n+I,B,c,Z,s4,⟨⟨z,s4.seq hS⟩,aa,S.nm,S.sml⟩,fun x=>?_,?_,Z⟩;all_goals grind
  ·have pos:=qx et;have ac:=zH et;rw[et] at z st;simp only at z st;have ai:0<(t.drop n).length:=List.length_pos_iff.2 pos.2
   have aj:∃rs,(s',rs)∈QN:=by unfold QY ZS at ac;grind
   obtain⟨ak,af⟩:=aj;intro o' aa
   have O:∀x,(QK s' b c x).length+(t.drop (n+I)).length<=t.length:=fun x=>by
    have:=cnt x;rw[Ga]at this ai ⊢;unfold QK;grind
   refine⟨(t.drop (n+I)).length+1,?_,some s',n+I,QK s' o' B,QK s' b c,Z,s4,⟨⟨z,s4.seq hS⟩,aa,S.nm,fun x=>xK (xK (UR _ _) (O x)) hz⟩,O,YR _ _ af,?_,Z⟩
   ·grind
   ·rw[e,st,G5,Gs]
structure iH(K:xz)(H:Hp)(l:Addr)(as:List Addr)(bs:List xA):Prop where
 lst:a' K H l (as.map V.ref)
 len:as.length=bs.length
 oct:∀(i:Nat)(a:Addr)(b:xA),as[i]?=some a->bs[i]?=some b->H a=some (.lst (bl b))
theorem iH.same{H H':Hp}{l:Addr}{as:List Addr}{bs:List xA}(r:iH K H l as bs)(s:Qn H H'):iH K H' l as bs:=⟨s.seq r.lst,r.len,fun i a b h1 h2=>s _ _ (r.oct i a b h1 h2)⟩
abbrev Iy:Stmt:=top 4
inductive ve(K:xz)(vs:List V)(H:Hp)(Q:VK)(E:XK):Prop
 |mk (l:Addr) (as:List Addr) (bs:List xA):vs=[.ref l]->iH K H l as bs->bs.flatten.length<=15000000->(∀H' o,Qn H H'->H o=none->H' o=some (.lst (bl bs.flatten))->Q (.ref o) H')->ve K vs H Q E
theorem CN:a7 ["rows","octets","row"] ["rows"] (a6 Iy):=.mk'
theorem Xl{α:Type} (bs:List (List α)) (j:Nat):(bs.take j).flatten.length<=bs.flatten.length:=by
 conv=>rhs;rw[<-Vq j bs]
 grind
theorem EY(F:bF K "joined" "joined" Iy f fd):QC P w K mg base bB 1 f fd ["rows"] (ve K):=by
 apply F.bL CN;rintro _ H Q E ⟨l,as,bs,rfl,aa,hz,k⟩;refine⟨Z,fun _ _ _ _ _=>?_⟩
 refine⟨_,Qb (bz 1 CN.nd (QU Qc))
  (Qb (QL PassesOwn.never Z (Q3 (pv 0)) (b0 2 CN.nd)
   (Qd (Zf (Xd xU GK GL ZR (pv 1) (Qa (pv 2) Qc)))))
  (Qd (Qj (pv 1)))),?_⟩
 refine⟨x4 _,fun o z=>?_⟩;have G:=Qk (.lst []) z;refine⟨_,Z,l,Z,⟨_,G.seq aa.lst⟩,Zs (K:=K) (a:=l) (xs:=as.map V.ref) (fun j σ H'=>∃B:Option V,ek (σ=[some (.ref l),some (.ref o),B]) (Qn H H') (H' o=some (.lst (bl (bs.take j).flatten)))) ⟨none,Z,G,by rw[Qe];rfl⟩ (fun j σ H' _ ⟨_,_,n,_⟩=>n.seq aa.lst) ?_ ?_⟩
 ·rintro j x σ H1 U ⟨B,rfl,n,h1⟩;obtain⟨a,I,rfl⟩:=Zm U;have J:j<as.length:=(List.getElem?_eq_some_iff.1 I).1;have M:bs[j]?=some (bs[j]'(by rw[<-aa.len];exact J)):=xD _;have hA:=n _ _ (aa.oct j a _ I M)
  have O:(bs.take (j+1)).flatten=(bs.take j).flatten++bs[j]'(by rw[<-aa.len];exact J):=by rw[Ug,M,List.flatten_append];simp
  refine⟨_,Z,.inl ⟨Z,_,a'.of h1⟩,_,Z,o,a,_,_,Z,Z,h1,hA,?_,_,Z,?_,?_⟩
  ·have:=Xl bs (j+1);rw[O,xF]at this;rw[Ql,Ql];exact xK (show _<=15000000 by lia) Wa
  ·exact fun b u e=>by rw[Qh (Qg e z)];exact n _ _ e
  ·rw[Qe,O];unfold bl;rw[Gq]
 ·rintro σ H1 ⟨B,rfl,n,h1⟩;rw[xB,aa.len,Gy]at h1;exact⟨_,Z,k H1 o n z h1⟩
theorem Xy.same{H H':Hp}{d:Addr} {rw:List (String×Addr)} {n:String->List Addr} (r:Xy H d rw n c) (s:Qn H H'):Xy H' d rw n c:=
 ⟨s _ _ r.hW,r.rP,fun x j=>s _ _ (r.row x j),r.len,fun x j i a b z B=>s _ _ (r.oct x j i a b z B),r.off⟩
theorem Xy.get{H:Hp}{d:Addr} {rw:List (String×Addr)} {j:String->List Addr} {s:String} {rs:List (Nat×Nat)} (K:xz) (r:Xy H d rw j c) (nm:rw.map (·.1)=QN.map (·.1)) (h:(s,rs)∈QN) :
  ∃l,Z2 H d (.str (xC s)) (some (.ref l))/\iH K H l (j s) (c s):=by
 obtain⟨l,hl,n⟩:=JQ nm h;refine⟨l,?_,a'.of (r.row _ hl),r.len _ hl,r.oct _ hl⟩;have:=Z2.k (k:=Sum.inr (xC s)) r.hW;rw[n]at this;exact this
def EL(K:xz):List V->Hp->VK->Prop:=fun xs H Q=>∃(p:Addr)(ys:List V),xs=[V.ref p]/\(a' K H p ys\/bV K H p ys)/\Q (V.int (ys.length:Int)) H
theorem ox{X:Cx}(h:X.K=K):qv X (.builtin "len") (EL K):=by subst h;exact Qp
structure Fb(H:Hp)(r:Addr)(as:List Addr)(bs:List xA):Prop where
 lst:H r=some (.lst (as.map V.ref))
 len:as.length=bs.length
 oct:∀(i:Nat)(a:Addr)(b:xA),as[i]?=some a->bs[i]?=some b->a≠r/\H a=some (.lst (bl b))
theorem Fb.snoc{H H':Hp}{r o:Addr}{as:List Addr}{bs:List xA}(m:Fb H r as bs)(s:Qn H H')(fo:H o=none) (F:H' o=some (.lst (bl b))):Fb (upd H' r (.lst (as.map V.ref++[V.ref o]))) r (as++[o]) (bs++[b]):=by
 have j:o≠r:=fun q=>by rw[q,m.lst]at fo;cases fo
 refine⟨by rw[Qe,Gq];rfl,by rw[xF,xF,m.len];rfl,fun i a G h1 h2=>?_⟩;rcases Uk i as.length with q|q
 ·rw[GU q]at h1;rw[GU (by rw[<-m.len];exact q)]at h2;obtain⟨B,e⟩:=m.oct i a G h1 h2;exact⟨B,by rw[Qh B];exact s _ _ e⟩
 ·rw[Us q] at h1;rw[Us (by rw[<-m.len];exact q),<-m.len] at h2;cases z:i-as.length with
  | zero=>
   rw[z]at h1 h2;cases h1;cases h2;exact⟨j,by rw[Qh j];exact F⟩
  |succ n=>rw[z]at h1;cases h1
abbrev Hh:Stmt:=top 103
abbrev Hj:Stmt:=top 102
inductive wc(K:xz)(vs:List V)(H:Hp)(Q:VK)(E:XK):Prop
 |mk (d l:Addr) (rw:List (String×Addr)) (ad:String->List Addr) (c:String->List xA) (ws:List String):vs=[.ref d,.ref l]->Xy H d rw ad c->rw.map (·.1)=QN.map (·.1)->(a' K H l (ws.map fun s=>V.str (xC s)))->((∀s∈ws,∃rs,(s,rs)∈QN))->ws.length<=20->((ws.map fun s=>(c s).flatten).flatten.length<=15000000)->(∀H' o,Qn H H'->H o=none->H' o=some (.lst (bl (ws.map fun s=>(c s).flatten).flatten))->Q (.ref o) H')->wc K vs H Q E
inductive wa(K:xz)(vs:List V)(H:Hp)(Q:VK)(E:XK):Prop
 |mk (d l:Addr) (rw:List (String×Addr)) (ad:String->List Addr) (c:String->List xA) (ws:List String) (z:Nat) (y:Int):vs=[.ref d,.ref l,.int y]->y=(z:Int)->Xy H d rw ad c->rw.map (·.1)=QN.map (·.1)->(a' K H l (ws.map fun s=>V.str (xC s)))->((∀s∈ws,∃rs,(s,rs)∈QN))->ws.length<=20->z<=8->(∀H' o,Qn H H'->H o=none->H' o=some (.lst (bl (ws.map fun s=>Gg z (c s).length).flatten))->Q (.ref o) H')->wa K vs H Q E
theorem A0:a7 ["rows","words","word"] ["rows","words"] (a6 Hh):=.mk'
theorem BK:a7 ["rows","words","size","word"] ["rows","words","size"] (a6 Hj):=.mk'
theorem lI{ws:List String}{j:Nat}{x:V} (h:(ws.map fun s=>V.str (xC s))[j]?=some x):∃s,ws[j]?=some s/\x=.str (xC s):=by grind
theorem Eb(F:bF K "row_octets" "row_octets" Hh f fd) (J:bq P w K mg base 1 "joined" ["rows"] (ve K)):QC P w K mg base bB 2 f fd ["rows","words"] (wc K):=by
 apply F.bL A0;rintro _ H Q E ⟨d,l,U,ad,c,ws,rfl,R,nm,hl,hw,hz,M,k⟩;refine⟨Z,fun _ _ _ s hr=>?_⟩;have hu:=Jc hr
 refine⟨_,Qd (Qj (Qr J hr (Qa (qQ (own:=[("word",2)]) Z A0.nd (Q3 (pv 1)) (ZI (N:=["rows","words","word"]) (sc:=a6 Hh) Wb) (fun _ _ _ _ _=>b0 2 A0.nd) (fun _ _ _ _ _=>Jm)
  (fun _ _ _ _ _=>by exact Qr J hr (Qa (Yu hu (pv 0) (pv 2) (fun _ _=>rfl)) Qc))) Qc))),?_⟩
 refine⟨_,Z,l,Z,⟨_,hl⟩,fun r n=>qd (K:=K) (a:=l) (xs:=ws.map fun s=>V.str (xC s)) (fun i H'=>Qn H H'/\∃as,Fb H' r as ((ws.take i).map fun s=>(c s).flatten)) ⟨Qk _ n,[],by rw[Qe];rfl,Z,fun i a b h=>by cases h⟩ (fun i H' _ ⟨j,_⟩=>j.seq hl) ?_ ?_⟩
 ·rintro i x H2 hx ⟨j,as,m⟩;obtain⟨y,B,rfl⟩:=lI hx;obtain⟨rs,G⟩:=hw y (xZ B);obtain⟨ly,g,aa⟩:=(R.same j).get K nm G;have hi:i<ws.length:=(List.getElem?_eq_some_iff.1 B).1
  have bd:(c y).flatten.length<=15000000:=by refine xK ?_ M;have:(c y).flatten∈ws.map fun s=>(c s).flatten:=List.mem_map.2 ⟨y,xZ B,Z⟩;exact(List.sublist_flatten_of_mem this).length_le
  refine⟨Z,_,Z,_,Z,d,_,Z,g,ly,ad y,c y,Z,aa,bd,fun O o z fo I=>?_⟩;refine⟨_,z _ _ m.lst,?_,?_,as++[o],?_⟩
  ·rw[xB,m.len,xB,Gk];exact xV (show _<=20 by lia) Wa
  ·exact fun b u e=>by rw[Qh (Qg e n)];exact z _ _ (j _ _ e)
  ·rw[Ug,B,Gq];exact m.snoc z fo I
 ·rintro H2 ⟨j,as,m⟩;rw[xB,Gy] at m;refine⟨r,as,_,Z,⟨a'.of m.lst,m.len,fun i a b h1 h2=>(m.oct i a b h1 h2).2⟩,M,fun O o z fo I=>?_⟩;refine k O o (j.trans z) ?_ I;cases e:H o with
  |none=>rfl
  |some u=>rw[j _ _ e]at fo;cases fo
theorem Ep(F:bF K "count_octets" "count_octets" Hj f fd)(U:Txt K mg) (JN:bq P w K mg base 1 "joined" ["rows"] (ve K)) (OO:bq P w K mg base 1 "octets_of" ["number","size"] uC):QC P w K mg base bB 2 f fd ["rows","words","size"] (wa K):=by
 apply F.bL BK;rintro _ H Q E ⟨d,l,aa,ad,c,ws,z,y,rfl,rfl,R,nm,hl,hw,hz,M,k⟩;refine⟨Z,fun _ _ _ s hr=>?_⟩;have hu:=Jc hr
 refine⟨_,Qd (Qj (Qr JN hr (Qa (qQ (own:=[("word",3)]) Z BK.nd (Q3 (pv 1)) (ZI (N:=["rows","words","size","word"]) (sc:=a6 Hj) Wb) (fun _ _ _ _ _=>b0 3 BK.nd) (fun _ _ _ _ _=>Jm)
  (fun _ _ _ _ _=>by exact Qr OO hr (Qa (Qx (ox Z) Wg U.len Wx (Qa (Yu hu (pv 0) (pv 3) (fun _ _=>rfl)) Qc)) (Qa (pv 2) Qc)))) Qc))),?_⟩
 refine⟨_,Z,l,Z,⟨_,hl⟩,fun r n=>qd (K:=K) (a:=l) (xs:=ws.map fun s=>V.str (xC s)) (fun i H'=>Qn H H'/\∃as,Fb H' r as ((ws.take i).map fun s=>Gg z (c s).length)) ⟨Qk _ n,[],by rw[Qe];rfl,Z,fun i a b h=>by cases h⟩ (fun i H' _ ⟨j,_⟩=>j.seq hl) ?_ ?_⟩
 ·rintro i x H2 hx ⟨j,as,m⟩;obtain⟨y,G,rfl⟩:=lI hx;obtain⟨rs,I⟩:=hw y (xZ G);obtain⟨ly,g,ab⟩:=(R.same j).get K nm I;have hi:i<ws.length:=(List.getElem?_eq_some_iff.1 G).1;refine⟨Z,_,Z,_,Z,d,_,Z,g,ly,_,Z,.inl ab.lst,_,Z,(c y).length,z,_,_,Z,by rw[xB,ab.len],Z,xK M Wa,fun O o B fo J=>?_⟩;refine⟨_,B _ _ m.lst,?_,?_,as++[o],?_⟩
  ·rw[xB,m.len,xB,Gk];exact xV (show _<=20 by lia) Wa
  ·exact fun b u e=>by rw[Qh (Qg e n)];exact B _ _ (j _ _ e)
  ·rw[Ug,G,Gq];exact m.snoc B fo J
 ·rintro H2 ⟨j,as,m⟩;rw[xB,Gy] at m;refine⟨r,as,_,Z,⟨a'.of m.lst,m.len,fun i a b h1 h2=>(m.oct i a b h1 h2).2⟩,?_,fun O o B fo J=>?_⟩
  ·have:∀l:List String,(l.map fun s=>Gg z (c s).length).flatten.length=z*l.length:=by
    intro l;induction l with
    |nil=>simp
    |cons a l ih=>rw[xT,Gr,xF,ih,Xk,xO,Qbc];lia
   rw[this];exact xK (Nat.mul_le_mul M hz) Wa
  ·refine k O o (j.trans B) ?_ J;cases e:H o with
   |none=>rfl
   |some u=>rw[j _ _ e]at fo;cases fo
def Zk(c:String->List xA):xA:=Vd++(["window"].map fun s=>(c s).flatten).flatten++(["point","line","pane"].map fun s=>Gg 2 (c s).length).flatten++[0,0]++(["point","line","pane"].map fun s=>(c s).flatten).flatten
def B8(c:String->List xA):Prop:=∀s rs,(s,rs)∈QN->(c s).flatten.length<=700000
abbrev Ie:Stmt:=top 104
inductive A9(K:xz)(vs:List V)(H:Hp)(Q:VK)(E:XK):Prop
 |mk (d:Addr) (rw:List (String×Addr)) (ad:String->List Addr) (c:String->List xA):vs=[.ref d]->Xy H d rw ad c->rw.map (·.1)=QN.map (·.1)->B8 c->(∀H' o,Qn H H'->H o=none->H' o=some (.lst (bl (Zk c)))->Q (.ref o) H')->A9 K vs H Q E
theorem B':a7 ["rows","octets","words"] ["rows"] (a6 Ie):=.mk'
theorem Z0(a b:xA):bl a++bl b=bl (a++b):=by unfold bl;rw[Gq]
theorem Jw(h:B8 c):∀ws:List String,(∀s∈ws,∃rs,(s,rs)∈QN)->(ws.map fun s=>(c s).flatten).flatten.length<=700000*ws.length
 |[],_=>by simp
 | s::ws,hw=>by
  obtain⟨rs,hr⟩:=hw s We;have h1:=h s rs hr;have h2:=Jw h ws fun z hz=>hw z (by simp[hz]);rw[xT,Gr,xF,xO];lia
theorem Jx(c:String->List xA)(z:Nat):∀ws:List String,(ws.map fun s=>Gg z (c s).length).flatten.length=z*ws.length
 |[]=>by simp
 | s::ws=>by
  rw[xT,Gr,xF,Jx c z ws,Xk,xO,Qbc];lia
theorem Qn.free{H H':Hp}{o:Addr}(s:Qn H H')(h:H' o=none):H o=none:=by
 cases e:H o with
 |none=>rfl
 |some u=>rw[s _ _ e]at h;cases h
theorem Km:∀s∈["window"],∃rs,(s,rs)∈QN:=by intro s h;rw[List.mem_singleton.1 h];exact⟨[(2,4)],by decide⟩
theorem He:∀s∈["point","line","pane"],∃rs,(s,rs)∈QN:=by
 intro s h;simp only[GY,GF,Ws]at h;rcases h with rfl|rfl|rfl
 ·exact⟨[(2,4)],by decide⟩
 ·exact⟨[(2,2)],by decide⟩
 ·exact⟨[(2,4),(2,2)],by decide⟩
theorem Ds(F:bF K "cartoon_told" "cartoon_told" Ie f fd)(U:Txt K mg)(Sg:Dl K mg "CARTOON_SIGN" [.int 71,.int 76,.int 65,.int 49]) (RO:bq P w K mg base 2 "row_octets" ["rows","words"] (wc K)) (CO:bq P w K mg base 2 "count_octets" ["rows","words","size"] (wa K)) :
  QC P w K mg base bB 3 f fd ["rows"] (A9 K):=by
 obtain⟨qs,ab,ac⟩:=Sg.ex;apply F.bL B';rintro _ H Q E ⟨d,j,ad,c,rfl,R,nm,J,k⟩;refine⟨Z,fun _ _ _ s hr=>?_⟩
 refine⟨_,Qb (bz 1 B'.nd (QA Xj (Jr Xx Wg U.lst Yz (Qa (Xp ab) Qc)) (Qr RO hr (Qa (pv 0) (Qa (QU (Qa Zi Qc)) Qc)))))
  (Qb (bz 2 B'.nd (QU (Qa Zi (Qa Zi (Qa Zi Qc)))))
  (Qd (Qj (QA Xj (QA Xj (QA Xj (pv 1) (Qr CO hr (Qa (pv 0) (Qa (pv 2) (Qa Qi Qc))))) (QU (Qa Qi (Qa Qi Qc)))) (Qr RO hr (Qa (pv 0) (Qa (pv 2) Qc))))))),?_⟩
 have b1:=Jw J ["window"] Km;have b3:=Jw J ["point","line","pane"] He;refine⟨qs,_,Z,.inr (ac _),fun l1 h1=>⟨_,Z,(by show 1<=sizeLine;decide),fun w1 M=>?_⟩⟩;have s1:=Qk (.lst [V.int 71,V.int 76,V.int 65,V.int 49]) h1;have s2:=s1.trans (Qk (.lst [V.str (xC "window")]) M);refine⟨d,w1,j,ad,c,["window"],Z,R.same s2,nm,a'.of Qe,Km,by decide,xK b1 Wa,fun H2 o2 s3 f2 h2=>?_⟩;have af:=s2.trans s3;have l2:H2 l1=some (.lst (bl Vd)):=s3 _ _ (by rw[Qh (Qg Qe M),Qe];rfl);refine⟨l1,o2,_,_,Z,Z,l2,h2,?_,fun q hq=>?_⟩
 ·rw[Ql,Ql];exact xK (show _<=700004 from Gv (show Gla.MAGIC.length<=4 by decide) b1) Wa
 have s4:=af.trans (Qk (.lst (bl Vd++bl (["window"].map fun s=>(c s).flatten).flatten)) hq);generalize ag:upd H2 q (.lst (bl Vd++bl (["window"].map fun s=>(c s).flatten).flatten))=H3 at s4 ⊢;have q3:H3 q=some (.lst (bl (Vd++(["window"].map fun s=>(c s).flatten).flatten))):=by rw[<-ag,Qe,Z0]
 refine⟨(by show 3<=sizeLine;decide),fun w3 ah=>?_⟩;have n:=Qk (.lst [V.str (xC "point"),V.str (xC "line"),V.str (xC "pane")]) ah;generalize ai:upd H3 w3 (.lst [V.str (xC "point"),V.str (xC "line"),V.str (xC "pane")])=H4 at n ⊢;have s5:=s4.trans n;have w4:H4 w3=some (.lst (["point","line","pane"].map fun s=>V.str (xC s))):=by rw[<-ai,Qe];rfl
 have q4:=n _ _ q3;refine⟨_,Z,_,Z,_,Z,d,w3,j,ad,c,["point","line","pane"],2,_,Z,Z,R.same s5,nm,a'.of w4,He,by decide,by decide,fun H5 o5 B f5 h5=>?_⟩;have s6:=s5.trans B;refine⟨q,o5,_,_,Z,Z,B _ _ q4,h5,?_,fun q5 aj=>?_⟩
 ·rw[Ql,Ql,Jx,xF];exact xK (show _<=700010 from Gv (Gv (show Gla.MAGIC.length<=4 by decide) b1) (show 2*3<=6 by decide)) Wa
 rw[Z0];generalize hA:Vd++(["window"].map fun s=>(c s).flatten).flatten++(["point","line","pane"].map fun s=>Gg 2 (c s).length).flatten=A1
 have la:A1.length<=700010:=by rw[<-hA,xF,xF,Jx];exact Gv (Gv (show Gla.MAGIC.length<=4 by decide) b1) (show 2*3<=6 by decide)
 have O:=Qk (.lst (bl A1)) aj;generalize ak:upd H5 q5 (.lst (bl A1))=H6 at O ⊢;have q6:H6 q5=some (.lst (bl A1)):=by rw[<-ak,Qe]
 refine⟨(by show 2<=sizeLine;decide),fun z hz=>?_⟩;have G:=Qk (.lst [V.int 0,V.int 0]) hz;generalize an:upd H6 z (.lst [V.int 0,V.int 0])=H7 at G ⊢;have z7:H7 z=some (.lst (bl [0,0])):=by rw[<-an,Qe];rfl
 refine⟨q5,z,_,_,Z,Z,G _ _ q6,z7,?_,fun q8 ao=>?_⟩
 ·rw[Ql,Ql];exact xK (Gv la (show([0,0]:xA).length<=2 by decide)) Wa
 rw[Z0];have aa:=Qk (.lst (bl (A1++[0,0]))) ao;generalize aq:upd H7 q8 (.lst (bl (A1++[0,0])))=H8 at aa ⊢;have au:H8 q8=some (.lst (bl (A1++[0,0]))):=by rw[<-aq,Qe]
 have s8:=B.trans (O.trans (G.trans aa));have s9:=s5.trans s8;refine⟨_,Z,_,Z,d,w3,j,ad,c,["point","line","pane"],Z,R.same s9,nm,a'.of (s8 _ _ w4),He,by decide,xK b3 Wa,fun H9 o9 I f9 h9=>?_⟩;refine⟨q8,o9,_,_,Z,Z,I _ _ au,h9,?_,fun u hu=>?_⟩
 ·rw[Ql,Ql,xF];exact xK (Gv (Gv la (show([0,0]:xA).length<=2 by decide)) b3) Wa
 rw[Z0];refine k _ u ((s9.trans I).trans (Qk _ hu)) ((s9.trans I).free hu) ?_;rw[Qe,<-hA];rfl
def Zb:List xA->List xA->xA
 |x::xs,y::ys=>x++y++Zb xs ys
 |_,_=>[]
theorem qR:∀{xs ys:List xA} {j:Nat} {x y:xA},xs[j]?=some x->ys[j]?=some y->Zb (xs.take (j+1)) (ys.take (j+1))=Zb (xs.take j) (ys.take j)++x++y
 |a::xs,b::ys,0,x,y,h1,h2=>by cases h1;cases h2;simp[Zb]
 | a::xs,b::ys,j+1,x,y,h1,h2=>by
  show a++b++Zb (xs.take (j+1)) (ys.take (j+1))=(a++b++Zb (xs.take j) (ys.take j))++x++y;rw[qR (xs:=xs) (ys:=ys) h1 h2];simp only[GS]
theorem Yv:∀(xs ys:List xA),(Zb xs ys).length<=xs.flatten.length+ys.flatten.length
 |[],_=>by simp[Zb]
 |x::xs,[]=>by simp[Zb]
 | x::xs,y::ys=>by
  have:=Yv xs ys;show(x++y++Zb xs ys).length<=_;rw[xF,xF,Gr,Gr,xF,xF];lia
theorem z5:∀(xs ys:List xA),Zb (xs.take (min xs.length ys.length)) (ys.take (min xs.length ys.length))=Zb xs ys
 |[],_=>by simp[Zb]
 |x::xs,[]=>by simp[Zb]
 | x::xs,y::ys=>by
  rw[xO,xO,Nat.succ_min_succ];show x++y++Zb (xs.take _) (ys.take _)=x++y++Zb xs ys;rw[z5 xs ys]
abbrev Hn:Stmt:=top 105
inductive Cm(K:xz)(vs:List V)(H:Hp)(Q:VK)(E:XK):Prop
 |mk (d:Addr) (rw:List (String×Addr)) (ad:String->List Addr) (c:String->List xA):vs=[.ref d]->Xy H d rw ad c->rw.map (·.1)=QN.map (·.1)->B8 c->(∀H' o,Qn H H'->H o=none->H' o=some (.lst (bl (Zb (c "paint") (c "coats"))))->Q (.ref o) H')->Cm K vs H Q E
theorem vv:a7 ["rows","octets","bands","coats"] ["rows"] (a6 Hn):=.mk'
theorem El(F:bF K "paintings_told" "paintings_told" Hn f fd)(U:Txt K mg):QC P w K mg base bB 1 f fd ["rows"] (Cm K):=by
 apply F.bL vv;rintro _ H Q E ⟨d,aa,O,c,rfl,R,nm,B,k⟩;refine⟨Z,fun _ _ _ _ hr=>?_⟩;have hu:=Jc hr;have m1:("paint",[(32,2)])∈QN:=by decide
 have m2:("coats",[(4,1)])∈QN:=by decide
 have lb:∀j,(Zb ((c "paint").take j) ((c "coats").take j)).length<=1400000:=fun j=>by
  have h1:=B _ _ m1;have h2:=B _ _ m2;have h3:=Yv ((c "paint").take j) ((c "coats").take j);have h4:=Xl (c "paint") j;have h5:=Xl (c "coats") j;lia
 refine⟨_,Qb (bz 1 vv.nd (QU Qc))
  (Qb (QL PassesOwn.never Z (uk Z U.zip (Qa (Yu hu (pv 0) Zi (fun _ _=>rfl)) (Qa (Yu hu (pv 0) Zi (fun _ _=>rfl)) Qc))) (ZF (n:=2) Z (QF (b0 2 vv.nd) (QF (b0 3 vv.nd) Zl)))
   (Qb (Zf (Xd xU GK GL ZR (pv 1) (Qa (pv 2) Qc)))
   (Qd (Zf (Xd xU GK GL ZR (pv 1) (Qa (pv 3) Qc))))))
  (Qd (Qj (pv 1)))),?_⟩
 refine⟨x4 _,fun o G=>?_⟩;have I:=Qk (.lst []) G;obtain⟨l1,k1,v1⟩:=JQ nm m1;obtain⟨l2,k2,J⟩:=JQ nm m2;have M:iH K H l1 (O "paint") (c "paint"):=⟨a'.of (R.row _ k1),R.len _ k1,R.oct _ k1⟩;have L2:iH K H l2 (O "coats") (c "coats"):=⟨a'.of (R.row _ k2),R.len _ k2,R.oct _ k2⟩
 have g1:Z2 (upd H o (.lst [])) d (.str (xC "paint")) (some (.ref l1)):=by have:=Z2.k (k:=Sum.inr (xC "paint")) (R.same I).hW;rw[v1]at this;exact this
 have g2:Z2 (upd H o (.lst [])) d (.str (xC "coats")) (some (.ref l2)):=by have:=Z2.k (k:=Sum.inr (xC "coats")) (R.same I).hW;rw[J]at this;exact this
 refine⟨_,Z,d,_,Z,g1,_,Z,d,_,Z,g2,l1,l2,_,_,Z,I.seq M.lst,I.seq L2.lst,lP (K:=K) (a:=l1) (b:=l2) (xs:=(O "paint").map V.ref) (ys:=(O "coats").map V.ref) (p:=2) (q:=3) (n:=min (c "paint").length (c "coats").length) (fun j σ H'=>tL fun(J v3:Option V)=>ek (σ=[some (.ref d),some (.ref o),J,v3]) (Qn H H') (H' o=some (.lst (bl (Zb ((c "paint").take j) ((c "coats").take j))))))
  (by rw[xB,xB,M.len,L2.len]) ⟨none,none,Z,I,by rw[Qe];rfl⟩ (fun j σ H' _ ⟨_,_,_,z,_⟩=>⟨z.seq M.lst,z.seq L2.lst⟩) ?_ ?_⟩
 ·rintro j x y σ H1 H2 hx hy ⟨J,v3,rfl,z,h1⟩ sm;obtain⟨a,ha,rfl⟩:=Zm hx;obtain⟨b,hb,rfl⟩:=Zm hy;have j1:j<(c "paint").length:=by rw[<-M.len];exact (List.getElem?_eq_some_iff.1 ha).1
  have j2:j<(c "coats").length:=by rw[<-L2.len];exact(List.getElem?_eq_some_iff.1 hb).1
  have e1:=xD j1;have e2:=xD j2;have s2:=z.trans sm;have hA:=s2 _ _ (M.oct j a _ ha e1);have hB:=s2 _ _ (L2.oct j b _ hb e2);have h2:=sm _ _ h1;have bo:b≠o:=Qg (L2.oct j b _ hb e2) G;have et:=qR e1 e2;have lt:=lb (j+1);rw[et,xF,xF]at lt;refine⟨_,Z,.inl ⟨Z,_,a'.of h2⟩,_,Z,o,a,_,_,Z,Z,h2,hA,?_,?_⟩
  ·rw[Ql,Ql];exact xK (show _<=1400000 by lia) Wa
  refine⟨_,Z,.inl ⟨Z,_,a'.of Qe⟩,_,Z,o,b,_,bl ((c "coats")[j]),Z,Z,Qe,?_,?_,?_⟩
  ·exact .trans (Qh bo) hB
  ·rw[Z0,Ql,Ql,xF];exact xK lt Wa
  ·refine⟨_,_,Z,fun x u e=>?_,?_⟩
   ·rw[Qh (Qg e G),Qh (Qg e G)];exact s2 _ _ e
   ·rw[Qe,Z0,Z0,et]
 ·rintro σ H1 ⟨J,v3,rfl,z,h1⟩;rw[z5]at h1;exact⟨_,Z,k H1 o z G h1⟩
def d5(c:String->List xA)(ws:List String):xA:=(ws.map fun s=>(c s).flatten).flatten
def pq(c:String->List xA)(z:Nat)(ws:List String):xA:=(ws.map fun s=>Gg z (c s).length).flatten
def YH(c:String->List xA):xA:=G3++Gg 4 (Zk c).length++d5 c ["cut","lead","margin","ways"]++pq c 4 ["sheet","kind","glass","paint"]++d5 c ["shelf"]
def Yh(c:String->List xA):xA:=YH c++Zk c++d5 c ["sheet","kind","glass"]++Zb (c "paint") (c "coats")
theorem zw:∀ws:List String,(ws.all fun y=>(QN.map (·.1)).contains y)=true->∀s∈ws,∃rs,(s,rs)∈QN:=by grind
theorem jO(h:B8 c){ws:List String} (hw:∀s∈ws,∃rs,(s,rs)∈QN):(d5 c ws).length<=700000*ws.length:=Jw h ws hw
theorem wA(c:String->List xA)(z:Nat)(ws:List String):(pq c z ws).length=z*ws.length:=Jx c z ws
theorem ny(h:B8 c):(Zk c).length<=2800012:=by have j:=Jw h ["window"] Km;have n:=Jw h ["point","line","pane"] He;unfold Zk;rw[xF,xF,xF,xF,Jx];have:Gla.MAGIC.length=4:=rfl;simp only[xO,UX]at j n ⊢;lia
abbrev Ip:Stmt:=top 106
inductive BI(K:xz)(vs:List V)(H:Hp)(Q:VK)(E:XK):Prop
 |mk (d:Addr) (rw:List (String×Addr)) (ad:String->List Addr) (c:String->List xA):vs=[.ref d]->Xy H d rw ad c->rw.map (·.1)=QN.map (·.1)->B8 c->(∀H' o,Qn H H'->H o=none->H' o=some (.lst (bl (Yh c)))->Q (.ref o) H')->BI K vs H Q E
theorem CC:a7 ["rows","cartoon","head"] ["rows"] (a6 Ip):=.mk'
theorem zi{H H':Hp}{q:Addr}{o:HO}(s:Qn H H')(j:H q=none):Qn H (upd H' q o):=fun b u e=>by rw[Qh (Qg e j)];exact s _ _ e
theorem D9(F:bF K "workshop_told" "workshop_told" Ip f fd)(U:Txt K mg)(Sg:Dl K mg "WORKSHOP_SIGN" [.int 71,.int 76,.int 65,.int 87]) (RO:bq P w K mg base 2 "row_octets" ["rows","words"] (wc K)) (CO:bq P w K mg base 2 "count_octets" ["rows","words","size"] (wa K))
  (OO:bq P w K mg base 1 "octets_of" ["number","size"] uC) (CT:bq P w K mg base 3 "cartoon_told" ["rows"] (A9 K)) (PT:bq P w K mg base 1 "paintings_told" ["rows"] (Cm K)):QC P w K mg base bB 4 f fd ["rows"] (BI K):=by
 obtain⟨qs,aA,aB⟩:=Sg.ex;apply F.bL CC;rintro _ H Q E ⟨d,z,ad,c,rfl,R,nm,j,k⟩;refine⟨Z,fun _ _ _ s hr=>?_⟩;have eM:ZJ 1 _:=hr.mono Wa;have G:ZJ 2 _:=hr.mono Wa
 refine⟨_,Qb (bz 1 CC.nd (Qr CT hr (Qa (pv 0) Qc)))
  (Qb (bz 2 CC.nd (QA Xj (Jr Xx Wg U.lst Yz (Qa (Xp aA) Qc)) (Qr OO eM (Qa (Qx Qp Wg U.len Wx (Qa (pv 1) Qc)) (Qa Qi Qc)))))
  (Qb (Zf (Xd xU GK GL ZR (pv 2) (Qa (Qr RO G (Qa (pv 0) (Qa (QU (Qa Zi (Qa Zi (Qa Zi (Qa Zi Qc))))) Qc))) Qc)))
  (Qb (Zf (Xd xU GK GL ZR (pv 2) (Qa (Qr CO G (Qa (pv 0) (Qa (QU (Qa Zi (Qa Zi (Qa Zi (Qa Zi Qc))))) (Qa Qi Qc)))) Qc)))
  (Qb (Zf (Xd xU GK GL ZR (pv 2) (Qa (Qr RO G (Qa (pv 0) (Qa (QU (Qa Zi Qc)) Qc))) Qc)))
  (Qd (Qj (QA Xj (QA Xj (QA Xj (pv 2) (pv 1)) (Qr RO G (Qa (pv 0) (Qa (QU (Qa Zi (Qa Zi (Qa Zi Qc)))) Qc)))) (Qr PT eM (Qa (pv 0) Qc))))))))),?_⟩
 have w4:=zw ["cut","lead","margin","ways"] Wa;have w5:=zw ["sheet","kind","glass","paint"] Wa;have w6:=zw ["shelf"] Wa;have w7:=zw ["sheet","kind","glass"] Wa;have z4:=jO j w4;have z6:=jO j w6;have z7:=jO j w7;have zc:=ny j;simp only[xO,UX]at z4 z6 z7;refine⟨_,Z,d,z,ad,c,Z,R,nm,j,fun H1 k1 s1 f1 h1=>?_⟩;refine⟨qs,_,Z,.inr (aB _),fun l1 ak=>?_⟩;have s2:=s1.trans (Qk (.lst [V.int 71,V.int 76,V.int 65,V.int 87]) ak);have k2:upd H1 l1 (.lst [V.int 71,V.int 76,V.int 65,V.int 87]) k1=some (.lst (bl (Zk c))):=by rw[Qh (Qg h1 ak)];exact h1
 refine⟨_,Z,k1,_,Z,.inl (a'.of k2),(Zk c).length,4,_,_,Z,by rw[Ql],Z,by decide,fun H3 o3 s3 f3 h3=>?_⟩;have l3:H3 l1=some (.lst (bl G3)):=s3 _ _ (by rw[Qe];rfl);refine⟨l1,o3,_,_,Z,Z,l3,h3,?_,fun q hq=>?_⟩
 ·rw[Ql,Ql,Xk];exact(by decide:Gla.WORKSHOP.length+4<=sizeLine)
 rw[Z0];have an:=s2.trans s3;have fq:H q=none:=an.free hq;have s4:Qn H (upd H3 q (.lst (bl (G3++Gg 4 (Zk c).length)))):=zi an fq
 have k4:upd H3 q (.lst (bl (G3++Gg 4 (Zk c).length))) k1=some (.lst (bl (Zk c))):=by have e:=s3 _ _ k2;rw[Qh (Qg e hq)];exact e
 have q4:upd H3 q (.lst (bl (G3++Gg 4 (Zk c).length))) q=some (.lst (bl (G3++Gg 4 (Zk c).length))):=Qe;generalize upd H3 q (.lst (bl (G3++Gg 4 (Zk c).length)))=H4 at s4 k4 q4 ⊢;have kq:k1≠q:=Qg (s3 _ _ k2) hq;have lh:(G3++Gg 4 (Zk c).length).length=8:=by rw[xF,Xk];rfl
 generalize aC:G3++Gg 4 (Zk c).length=B1 at q4 lh ⊢;refine⟨_,Z,.inl ⟨Z,_,a'.of q4⟩,_,Z,(by show 4<=sizeLine;decide),fun x5 aD=>?_⟩;have s5:=Qk (.lst [V.str (xC "cut"),V.str (xC "lead"),V.str (xC "margin"),V.str (xC "ways")]) aD;refine⟨d,x5,z,ad,c,["cut","lead","margin","ways"],Z,R.same (s4.trans s5),nm,a'.of Qe,w4,by decide,xK z4 Wa,fun H6 o6 s6 f6 h6=>?_⟩;have O:=s5.trans s6;refine⟨q,o6,_,_,Z,Z,O _ _ q4,h6,?_,?_⟩
 ·rw[Ql,Ql,lh];exact xK (Gv (xM 8) z4) Wa
 rw[Z0];have s7:Qn H (upd H6 q (.lst (bl (B1++d5 c ["cut","lead","margin","ways"])))):=zi (s4.trans O) fq;have k7:upd H6 q (.lst (bl (B1++d5 c ["cut","lead","margin","ways"]))) k1=some (.lst (bl (Zk c))):=by rw[Qh kq];exact O _ _ k4
 have q7:upd H6 q (.lst (bl (B1++d5 c ["cut","lead","margin","ways"]))) q=some (.lst (bl (B1++d5 c ["cut","lead","margin","ways"]))):=Qe;show _;have ao:(B1++d5 c ["cut","lead","margin","ways"]).length<=2800008:=by rw[xF,lh];lia
 change A5 _ _ _ _ (upd H6 q (.lst (bl (B1++d5 c ["cut","lead","margin","ways"]))));generalize upd H6 q (.lst (bl (B1++d5 c ["cut","lead","margin","ways"])))=H7 at s7 k7 q7 ⊢;generalize aE:B1++d5 c ["cut","lead","margin","ways"]=B2 at q7 ao ⊢;refine⟨_,Z,.inl ⟨Z,_,a'.of q7⟩,_,Z,(by show 4<=sizeLine;decide),fun x8 aF=>?_⟩;have s8:=Qk (.lst [V.str (xC "sheet"),V.str (xC "kind"),V.str (xC "glass"),V.str (xC "paint")]) aF;refine⟨d,x8,z,ad,c,["sheet","kind","glass","paint"],4,_,Z,Z,R.same (s7.trans s8),nm,a'.of Qe,w5,by decide,by decide,fun H9 o9 s9 f9 h9=>?_⟩;have aa:=s8.trans s9;refine⟨q,o9,_,_,Z,Z,aa _ _ q7,h9,?_,?_⟩
 ·rw[Ql,Ql,Jx];exact xK (Gv ao (show 4*4<=16 by decide)) Wa
 rw[Z0];have ab:Qn H (upd H9 q (.lst (bl (B2++pq c 4 ["sheet","kind","glass","paint"])))):=zi (s7.trans aa) fq;have C5:upd H9 q (.lst (bl (B2++pq c 4 ["sheet","kind","glass","paint"]))) k1=some (.lst (bl (Zk c))):=by rw[Qh kq];exact aa _ _ k7
 have I:upd H9 q (.lst (bl (B2++pq c 4 ["sheet","kind","glass","paint"]))) q=some (.lst (bl (B2++pq c 4 ["sheet","kind","glass","paint"]))):=Qe;have aq:(B2++pq c 4 ["sheet","kind","glass","paint"]).length<=2800024:=by rw[xF,wA];simp only[xO,UX];lia
 change A5 _ _ _ _ (upd H9 q (.lst (bl (B2++pq c 4 ["sheet","kind","glass","paint"]))));generalize upd H9 q (.lst (bl (B2++pq c 4 ["sheet","kind","glass","paint"])))=H10 at ab C5 I ⊢;generalize aG:B2++pq c 4 ["sheet","kind","glass","paint"]=B3 at I aq ⊢;refine⟨_,Z,.inl ⟨Z,_,a'.of I⟩,_,Z,(by show 1<=sizeLine;decide),fun aH au=>?_⟩;have av:=Qk (.lst [V.str (xC "shelf")]) au;refine⟨d,aH,z,ad,c,["shelf"],Z,R.same (ab.trans av),nm,a'.of Qe,w6,by decide,xK z6 Wa,fun J aI aJ aW aK=>?_⟩;have n:=av.trans aJ;refine⟨q,aI,_,_,Z,Z,n _ _ I,aK,?_,?_⟩
 ·rw[Ql,Ql];exact xK (Gv aq z6) Wa
 rw[Z0];have ac:Qn H (upd J q (.lst (bl (B3++d5 c ["shelf"])))):=zi (ab.trans n) fq;have af:upd J q (.lst (bl (B3++d5 c ["shelf"]))) k1=some (.lst (bl (Zk c))):=by rw[Qh kq];exact n _ _ C5
 have ag:upd J q (.lst (bl (B3++d5 c ["shelf"]))) q=some (.lst (bl (B3++d5 c ["shelf"]))):=Qe;have M:(B3++d5 c ["shelf"]).length<=3500024:=by rw[xF];lia
 have eH:B3++d5 c ["shelf"]=YH c:=by rw[<-aG,<-aE,<-aC];rfl
 rw[eH]at ac af ag M;rw[show(List.map (fun s=>(c s).flatten) ["shelf"]).flatten=d5 c ["shelf"] from Z,eH];generalize upd J q (.lst (bl (YH c)))=H13 at ac af ag ⊢;refine⟨_,Z,_,Z,q,k1,_,_,Z,Z,ag,af,?_,fun u1 aM=>?_⟩
 ·rw[Ql,Ql];exact xK (Gv M zc) Wa
 rw[Z0];have ah:=ac.trans (Qk (.lst (bl (YH c++Zk c))) aM);have aw:upd H13 u1 (.lst (bl (YH c++Zk c))) u1=some (.lst (bl (YH c++Zk c))):=Qe;generalize upd H13 u1 (.lst (bl (YH c++Zk c)))=H14 at ah aw ⊢;refine⟨_,Z,(by show 3<=sizeLine;decide),fun aN ax=>?_⟩;have ay:=Qk (.lst [V.str (xC "sheet"),V.str (xC "kind"),V.str (xC "glass")]) ax;refine⟨d,aN,z,ad,c,["sheet","kind","glass"],Z,R.same (ah.trans ay),nm,a'.of Qe,w7,by decide,xK z7 Wa,fun aO aP aQ aX aR=>?_⟩;have B:=ay.trans aQ;refine⟨u1,aP,_,_,Z,Z,B _ _ aw,aR,?_,fun u2 aS=>?_⟩
 ·rw[Ql,Ql,xF];exact xK (Gv (Gv M zc) z7) Wa
 rw[Z0];have ai:=(ah.trans B).trans (Qk (.lst (bl (YH c++Zk c++d5 c ["sheet","kind","glass"]))) aS);have aT:upd aO u2 (.lst (bl (YH c++Zk c++d5 c ["sheet","kind","glass"]))) u2=some (.lst (bl (YH c++Zk c++d5 c ["sheet","kind","glass"]))):=Qe;refine⟨_,Z,d,z,ad,c,Z,R.same ai,nm,j,fun aY aU aj a0 aV=>?_⟩;have zp:=Yv (c "paint") (c "coats");have a1:=j "paint" [(32,2)] Wa;have a2:=j "coats" [(4,1)] Wa;refine⟨u2,aU,_,_,Z,Z,aj _ _ aT,aV,?_,fun u3 az=>?_⟩
 ·rw[Ql,Ql,xF,xF];exact xK (Gv (Gv (Gv M zc) z7) (show _<=1400000 by lia)) Wa
 rw[Z0];exact k _ u3 ((ai.trans aj).trans (Qk _ az)) ((ai.trans aj).free az) Qe
def nm(k:Nat):String:=(Gla.shapes.getD k ("",[])).1
def rn(k:Nat):List (Nat×Nat):=[[(2,4)],[(2,4)],[(2,2)],[(2,4),(2,2)],[(5,4)],[(5,4)],[(1,4)],[(1,4)],[(1,8)],[(4,4)],[(2,4)],[(32,2)],[(32,2)],[]].getD k []
def sw(k:Nat):String:=if k=12 then "coats" else if k=14 then "workshop" else nm k
def Xf(j many:Nat):List Nat:=if j=14 then [0] else Uv j many
structure St(sort many:Nat)(c:String->List xA):Prop where
 le:sort<=12\/sort=14
 cnt:1<=sort->sort<=3->many=(c (nm sort)).length
 later:∀k,1<=k->k<=3->(sort<k\/sort=14)->c (nm k)=[]
 fin:c "end" = []
theorem qc(c:String->List xA){s:String}(h:XU s=false):Z6 c s=true:=by unfold Z6;rw[h];rfl
theorem Js{s:String}(h:c s=[]):Z6 c s=true:=by unfold Z6;rw[h];simp
theorem JW:∀{l:List String},(∀x∈l,Z6 c x=true)->l.filter (Z6 c)=l:=fun h=>List.filter_eq_self.2 h
theorem lF{j many:Nat}(h:St j many c):QY (sw j) c=(Xf j many).map fun k=>(nm k,rn k):=by
 have O:=h.later 1 Wa Wa;have M:=h.later 2 Wa Wa;have F:=h.later 3 Wa Wa;have G:=h.cnt
 have all:∀{l:List String} {o:List Nat},(∀x∈l,Z6 c x=true)->Z8 (sw j)=l->Xf j many=o->ZS l=o.map (fun k=>(nm k,rn k))->QY (sw j) c=(Xf j many).map fun k=>(nm k,rn k):=by intro l o h1 h2 I J;unfold QY;rw[h2,JW h1,I,J]
 have n:∀{l:List String},(l.all fun x=>!XU x)=true->∀x∈l,Z6 c x=true:=fun h x z=>qc c (by simpa using List.all_eq_true.1 h x z)
 have B:∀{s:String} {l m:List String} {o p:List Nat} {k:Nat},Z8 (sw j)=s::l->XU s=true->(∀x∈l,Z6 c x=true)->many=(c s).length->(Xf j many=if Gla.U2<=many then o else k::o)->ZS l=o.map (fun k=>(nm k,rn k))->ZS (s::l)=(k::o).map (fun k=>(nm k,rn k))->QY (sw j) c=(Xf j many).map fun k=>(nm k,rn k):=by
  intro s l m o p k h1 h2 I J U h6 h7;unfold QY;rw[h1,U,Qa1,JW I];have:Z6 c s=decide ((c s).length<65535):=by unfold Z6;rw[h2];simp
  rw[this,<-J];by_cases q:Gla.U2<=many
  ·rw[Wi q,Wh (by have:65535<=many:=q;simp;lia),h6]
  ·rw[Wh q,Wi (by have:¬65535<=many:=q;simp;lia),h7]
 have q:j=0\/j=1\/j=2\/j=3\/j=4\/j=5\/j=6\/j=7\/j=8\/j=9\/j=10\/j=11\/j=12\/j=14:=by have:=h.le;lia
 rcases q with rfl|rfl|rfl|rfl|rfl|rfl|rfl|rfl|rfl|rfl|rfl|rfl|rfl|rfl
 ·refine all (l:=["point","line","pane","cut"]) (o:=[1,2,3,4]) ?_ Wa Z Wa;intro x z;simp only[GY,GF,Ws] at z;rcases z with rfl | rfl | rfl | rfl
  ·exact Js (O Wa)
  ·exact Js (M Wa)
  ·exact Js (F Wa)
  ·exact qc c Wa
 ·refine B (s := "point") (l:=["line","pane","cut"]) (m:=[]) (p:=[]) (k:=1) (o:=[2,3,4]) Wa Wa ?_ (G Wa Wa) ?_ Wa Wa
  ·intro x z;simp only[GY,GF,Ws] at z;rcases z with rfl | rfl | rfl
   ·exact Js (M Wa)
   ·exact Js (F Wa)
   ·exact qc c Wa
  ·show(if Gla.U2<=many then [] else [1])++[2,3,4]=_;split<;>rfl
 ·refine B (s := "line") (l:=["pane","cut"]) (m:=[]) (p:=[]) (k:=2) (o:=[3,4]) Wa Wa ?_ (G Wa Wa) ?_ Wa Wa
  ·intro x z;simp only[GY,GF,Ws] at z;rcases z with rfl | rfl
   ·exact Js (F Wa)
   ·exact qc c Wa
  ·show(if Gla.U2<=many then [] else [2])++[3,4]=_;split<;>rfl
 ·refine B (s := "pane") (l:=["cut"]) (m:=[]) (p:=[]) (k:=3) (o:=[4]) Wa Wa ?_ (G Wa Wa) ?_ Wa Wa
  ·exact n Wa
  ·show(if Gla.U2<=many then [] else [3])++[4]=_;split<;>rfl
 ·exact all (l:=["lead"]) (o:=[5]) (n Wa) Wa Z Wa
 ·exact all (l:=["margin"]) (o:=[6]) (n Wa) Wa Z Wa
 ·exact all (l:=["ways"]) (o:=[7]) (n Wa) Wa Z Wa
 ·exact all (l:=["shelf"]) (o:=[8]) (n Wa) Wa Z Wa
 ·exact all (l:=["sheet","kind","glass","paint","end"]) (o:=[9,10,11,12,13]) (n Wa) Wa Z Wa
 ·exact all (l:=["sheet","kind","glass","paint","end"]) (o:=[9,10,11,12,13]) (n Wa) Wa Z Wa
 ·exact all (l:=["kind","glass","paint","end"]) (o:=[10,11,12,13]) (n Wa) Wa Z Wa
 ·exact all (l:=["glass","paint","end"]) (o:=[11,12,13]) (n Wa) Wa Z Wa
 ·exact all (l:=["paint","end"]) (o:=[12,13]) (n Wa) Wa Z Wa
 ·exact all (l:=["window"]) (o:=[0]) (n Wa) Wa Z Wa
def YQ(s:Nat):Bool:=s==0||(decide (4<=s)&&decide (s<=8))
theorem l0{j many:Nat}(h:j<=12\/j=14):∀k∈Xf j many,k<=13/\(j=14\/(j<=k/\(YQ j=true->j≠k))):=by
 intro k hk;unfold Xf at hk;split at hk
 ·grind
 ·rename_i ne;unfold Uv at hk;unfold YQ;grind
theorem Cy:∀k:Fin 14,ZP (nm k) (rn k)=UG k++[if k.val=13 then 10 else 32]:=by decide +kernel
theorem w9{j many:Nat}(h:St j many c):QS (QY (sw j) c)=(Xf j many).map fun(k:Nat)=>UG k++[if k=13 then 10 else 32]:=by rw[lF h];unfold QS;rw[Vx];refine UK fun k hk=>?_;have:=(l0 h.le k hk).1;exact Cy ⟨k,by lia⟩
theorem iG:∀k:Fin 13,(Gla.shapes.getD k ("",[])).2=(Qv (rn k)).map lg/\(Gla.shapes.getD k ("",[])).2≠[]/\((Gla.shapes.getD k ("",[])).2.all fun m=>decide (9<=m))=true:=by decide +kernel
theorem z9{bs:List xA}{i w:Nat} (h:x6 bs t=.ok (i,w)):i<bs.length/\w=(bs.getD i []).length/\bs.getD i []=t.take w:=by
 unfold x6 at h;split at h
 ·rename_i j e;cases h;unfold Gb at e;obtain⟨x,n,rfl⟩:=Option.map_eq_some_iff.1 e;grind
 ·cases h
theorem Di:∀j k:Fin 14,j≠k->nm j≠nm k:=by decide +kernel
theorem fQ:∀j:Fin 14,nm j ≠ "coats" := by decide +kernel
theorem qB{j k:Nat}(h1:j<=13)(h2:k<=13)(h:j≠k):nm j≠nm k:=Di ⟨j,by lia⟩ ⟨k,by lia⟩ (fun e=>h (Wn Fin.val e))
theorem yO:∀{n:List Nat} {t:xA} {l:List Nat} {j:Nat},Pl.bf n t=(some l,j)->l.length=n.length
 |[],t,l,j,h=>by cases h;rfl
 | m::r,t,l,j,h=>by
  unfold Pl.bf at h;rcases e:Pl.cq m t with⟨_|v,k⟩
  ·lia
  ·rw[e] at h;simp only at h;by_cases q:(t.drop k).head?=some (if r=[] then 10 else 32)
   ·rw[Wi q] at h;rcases z:Pl.bf r (t.drop (k+1)) with ⟨_ | B,F⟩
    ·lia
    ·rw[z]at h;cases h;rw[xO,xO,yO z]
   lia
def Zj(k:Nat)(r:List Nat)(c:String->List xA):String->List xA:=if k=12 then QK "coats" (GT (r.drop 32)) (QK "paint" (enc (xS 32 2) (r.take 32)) c) else QK (nm k) (enc (Qv (rn k)) r) c
def Zw:List (Nat×List Nat)->(String->List xA)->String->List xA
 |[],c=>c
 |x::l,c=>Zw l (Zj x.1 x.2 c)
def qX(k:Nat)(r:List Nat):Prop:=if k=12 then 32<=r.length else r.length=(Qv (rn k)).length
def Rows:Nat->List (Nat×List Nat)->Prop
 |_,[]=>True
 |s,x::l=>x.1<=12/\(s=14\/(s<=x.1/\(YQ s=true->s≠x.1)))/\qX x.1 x.2/\Rows x.1 l
theorem ZA{s x:String}(h:x≠s):QK s b c x=c x:=by unfold QK;rw[Wh h]
theorem qp(s:String)(b:xA)(c:String->List xA):QK s b c s=c s++[b]:=by unfold QK;rw[Wi Z]
theorem JB{k:Nat}{r:List Nat}{s:String}(h1:s≠nm k)(h2:s ≠ "coats"):Zj k r c s=c s:=by
 unfold Zj;split
 ·rename_i e;subst e;rw[ZA h2,ZA (show s ≠ "paint" from h1)]
 ·rw[ZA h1]
theorem jx{k:Nat}{r:List Nat}(h:k<=11):Zj k r c (nm k)=c (nm k)++[enc (Qv (rn k)) r]:=by unfold Zj;rw[Wh L,qp]
theorem St.step{n many k:Nat}{r:List Nat}(h:St n many c)(hk:k<=12) (F:n=14\/(n<=k/\(YQ n=true->n≠k))):St k (if k=n then many+1 else 1) (Zj k r c):=by
 refine⟨.inl hk,fun h1 h2=>?_,fun j h1 h2 z=>?_,?_⟩
 ·rw[jx L,xF,G0];by_cases e:k=n
  ·subst e;rw[Wi Z,h.cnt h1 h2]
  ·rw[Wh e,h.later k h1 h2 L];rfl
 ·rcases z with z | z
  ·rw[JB (qB L L L) (fQ ⟨j,by lia⟩)];exact h.later j h1 h2 L
  ·lia
 ·have B : "end" = nm 13:=rfl;rw[B,JB (qB L L L) (fQ ⟨13,by decide⟩)];exact h.fin
theorem XB{s:String}{n:Nat} (h:Za (QY s c) t=(none,n)):QJ s c t=(c,n):=by rw[JP,h]
theorem Jk{s s':String}{t b:xA}{n:Nat} (h:Za (QY s c) t=(some (s',b),n)):QJ s c t=((QJ s' (QK s' b c) (t.drop n)).1,n+(QJ s' (QK s' b c) (t.drop n)).2):=by rw[JP,h]
abbrev OB(j many:Nat):List xA:=(Xf j many).map fun(k:Nat)=>UG k++[if k=13 then 10 else 32]
theorem sZ{j many n:Nat}(h:St j many c) (e:x6 (OB j many) t=.error n):Za (QY (sw j) c) t=(none,n):=by unfold Za;rw[w9 h,e]
structure qL(sort many:Nat)(c:String->List xA)(t:xA)(k w:Nat):Prop where
 le:k<=13
 ord:sort=14\/(sort<=k/\(YQ sort=true->sort≠k))
 eq:Za (QY (sw sort) c) t=((Z3 (nm k,rn k) (t.drop w)).1.map fun b=>(nm k,b),w+(Z3 (nm k,rn k) (t.drop w)).2)
 tk:t=(UG k++[if k=13 then 10 else 32])++t.drop w
 wl:w=(UG k).length+1
theorem uQ{j many i w:Nat}(h:St j many c) (e:x6 (OB j many) t=.ok (i,w)):qL j many c t ((Xf j many).getD i 0) w:=by
 obtain⟨h1,h2,n⟩:=z9 e;have hi:i<(Xf j many).length:=by simpa [OB] using h1
 have z:(Xf j many).getD i 0=(Xf j many)[i]:=by rw[GA,xD hi];rfl
 have B:(Xf j many).getD i 0∈Xf j many:=by rw[z];exact xP hi
 obtain⟨F,G⟩:=l0 h.le _ B
 have I:(OB j many).getD i []=UG ((Xf j many).getD i 0)++[if(Xf j many).getD i 0=13 then 10 else 32]:=by grind
 refine⟨F,G,?_,?_,?_⟩
 ·unfold Za;rw[w9 h,e]
  have:(QY (sw j) c).getD i ("",[])=(nm ((Xf j many).getD i 0),rn ((Xf j many).getD i 0)):=by rw[lF h,z,GA,xJ,xD hi];rfl
  lia
 ·rw[I]at n;rw[n,Vq]
 grind
theorem qL.blank{j many k w:Nat}(h:qL j many c t k w)(hk:k≠13):t.drop (w-1)=32::t.drop w:=by have e:=Wn (List.drop (w-1)) h.tk;rw[Wh hk,GS,Qbm (by rw[h.wl];rfl)]at e;exact e
theorem qL.len{j many k w:Nat}(h:qL j many c t k w):w<=t.length:=by have e:=Wn Qaq h.tk;rw[xF,xF,G0,<-h.wl]at e;lia
theorem rW(t:xA):Z3 (nm 13,rn 13) t=(some [],0):=rfl
theorem tP{k:Nat}(h:k<=12)(t:xA):Z3 (nm k,rn k) t=((Pl.bf (Gla.shapes.getD k ("",[])).2 t).1.map (enc (Qv (rn k))),(Pl.bf (Gla.shapes.getD k ("",[])).2 t).2):=by unfold Z3;rw[Wh (fQ ⟨k,by lia⟩),(iG ⟨k,by lia⟩).1]
theorem Cn{n j many m:Nat} (e:x6 (OB j many) t=.error m):Gd (n+1) j many t=.error m:=by have z:x6 (List.map (fun(k:Nat)=>UG k++[if k=13 then 10 else 32]) (if j=14 then [0] else Uv j many)) t=.error m:=e;unfold Gd;simp only[z]
theorem AZ{n j many i w:Nat} (e:x6 (OB j many) t=.ok (i,w)) (hk:(Xf j many).getD i 0=13):Gd (n+1) j many t=if t.length=w then .ok ([],w) else .error w:=by have B:x6 (List.map (fun(k:Nat)=>UG k++[if k=13 then 10 else 32]) (if j=14 then [0] else Uv j many)) t=.ok (i,w):=e;have z:(if j=14 then [0] else Uv j many).getD i 0=13:=hk;unfold Gd;lia
theorem A'{n j many i w k m:Nat} (e:x6 (OB j many) t=.ok (i,w)) (hk:(Xf j many).getD i 0=k) (z:k≠13) (q:VL (Gla.shapes.getD k ("",[])).2 (t.drop (w-1))=.error m):Gd (n+1) j many t=.error (w-1+m):=by have F:x6 (List.map (fun(k:Nat)=>UG k++[if k=13 then 10 else 32]) (if j=14 then [0] else Uv j many)) t=.ok (i,w):=e;have B:(if j=14 then [0] else Uv j many).getD i 0=k:=hk;unfold Gd;simp only[F,B,Wh z,q]
theorem Bc{n j many i w k:Nat}{x:List Nat×Nat} (e:x6 (OB j many) t=.ok (i,w)) (hk:(Xf j many).getD i 0=k) (z:k≠13) (B:k≠12) (q:VL (Gla.shapes.getD k ("",[])).2 (t.drop (w-1))=.ok x) :
  Gd (n+1) j many t=match Gd n k (if k=j then many+1 else 1) (t.drop (w-1+x.2)) with
   |.error e=>.error (w-1+x.2+e)
   |.ok r=>.ok ((k,x.1++[])::r.1,w-1+x.2+r.2):=by
 have G:x6 (List.map (fun(k:Nat)=>UG k++[if k=13 then 10 else 32]) (if j=14 then [0] else Uv j many)) t=.ok (i,w):=e;have F:(if j=14 then [0] else Uv j many).getD i 0=k:=hk
 conv=>lhs;unfold Gd
 simp only[G,F,Wh z,Wh B,q];cases Gd n k (if k=j then many+1 else 1) (List.drop (w-1+x.snd) t)<;>rfl
theorem CI{n j many i w m:Nat}{x:List Nat×Nat} (e:x6 (OB j many) t=.ok (i,w)) (hk:(Xf j many).getD i 0=12) (q:VL (Gla.shapes.getD 12 ("",[])).2 (t.drop (w-1))=.ok x)
  (o:x6 [Ge "coats"] (t.drop (w-1+x.2))=.error m):Gd (n+1) j many t=.error (w-1+x.2+m):=by
 have B:x6 (List.map (fun(k:Nat)=>UG k++[if k=13 then 10 else 32]) (if j=14 then [0] else Uv j many)) t=.ok (i,w):=e;have z:(if j=14 then [0] else Uv j many).getD i 0=12:=hk
 conv=>lhs;unfold Gd
 lia
theorem CF{n j many i w m:Nat}{x:List Nat×Nat}{z:Nat×Nat} (e:x6 (OB j many) t=.ok (i,w)) (hk:(Xf j many).getD i 0=12) (q:VL (Gla.shapes.getD 12 ("",[])).2 (t.drop (w-1))=.ok x)
  (o:x6 [Ge "coats"] (t.drop (w-1+x.2))=.ok z) (y:UH 4 (t.drop (w-1+x.2+5))=.error m):Gd (n+1) j many t=.error (w-1+x.2+5+m):=by
 have F:x6 (List.map (fun(k:Nat)=>UG k++[if k=13 then 10 else 32]) (if j=14 then [0] else Uv j many)) t=.ok (i,w):=e;have B:(if j=14 then [0] else Uv j many).getD i 0=12:=hk
 conv=>lhs;unfold Gd
 simp only[F,B,Wh (show ¬12=13 by decide),Wq,q,o,y]
theorem BA{n j many i w:Nat}{x y:List Nat×Nat}{z:Nat×Nat} (e:x6 (OB j many) t=.ok (i,w)) (hk:(Xf j many).getD i 0=12) (q:VL (Gla.shapes.getD 12 ("",[])).2 (t.drop (w-1))=.ok x)
  (o:x6 [Ge "coats"] (t.drop (w-1+x.2))=.ok z) (F:UH 4 (t.drop (w-1+x.2+5))=.ok y) :
  Gd (n+1) j many t=match Gd n 12 (if 12=j then many+1 else 1) (t.drop (w-1+x.2+5+y.2)) with
   |.error e=>.error (w-1+x.2+5+y.2+e)
   |.ok r=>.ok ((12,x.1++y.1)::r.1,w-1+x.2+5+y.2+r.2):=by
 have G:x6 (List.map (fun(k:Nat)=>UG k++[if k=13 then 10 else 32]) (if j=14 then [0] else Uv j many)) t=.ok (i,w):=e;have B:(if j=14 then [0] else Uv j many).getD i 0=12:=hk
 conv=>lhs;unfold Gd
 simp only[G,B,Wh (show ¬12=13 by decide),Wq,q,o,F];cases Gd n 12 (if 12=j then many+1 else 1) (List.drop (w-1+x.snd+5+y.snd) t)<;>rfl
theorem jw:∀(a x t:xA),a≠t.take a.length->Go (a++x) t=Go a t
 |[],x,t,h=>Wm Z h
 |b::a,x,[],h=>by cases x<;>rfl
 | b::a,x,d::t,h=>by
  show(if b=d then Go (a++x) t+1 else 0)=if b=d then Go a t+1 else 0
  by_cases e:b=d
  ·rw[Wi e,Wi e,jw a x t];grind
  ·lia
theorem jv:∀(a x t:xA),Go (a++x) (a++t)=a.length+Go x t
 |[],x,t=>by simp
 | b::a,x,t=>by
  show(if b=b then Go (a++x) (a++t)+1 else 0)=_;rw[Wi Z,jv a x t,xO];lia
theorem z8(a t:xA):x6 [a] t=if a=t.take a.length then .ok (0,a.length) else .error (Go a t):=by unfold x6 Gb;grind
theorem kQ(c:String->List xA)(t:xA):match x6 [Ge "coats"] t with
  |.error e=>Za (QY "paint" c) t=(none,e)
  | .ok _=>match UH 4 (t.drop 5) with
   |.error e=>Za (QY "paint" c) t=(none,5+e)
   |.ok y=>Za (QY "paint" c) t=(some ("coats",GT y.1),5+y.2):=by
 have hw:QY "paint" c=[("coats",[(4,1)])]:=by unfold QY;rw[show Z8 "paint" = ["coats"] by decide,JW (l:=["coats"]) (fun x G=>by simp at G;subst G;exact qc c Wa)];decide
 have I:QS [("coats",[(4,1)])]=[Ge "coats" ++ [32]]:=by decide +kernel
 have hl:(Ge "coats").length=5:=by decide +kernel
 have tl:∀q,x6 [Ge "coats" ++ [32]] t=q->Za (QY "paint" c) t=match q with
   |.error n=>(none,n)
   |.ok (k,n)=>((Z3 (([("coats",[(4,1)])]:List (String×List (Nat×Nat))).getD k ("",[])) (t.drop n)).1.map fun b=>((([("coats",[(4,1)])]:List (String×List (Nat×Nat))).getD k ("",[])).1,b),n+(Z3 (([("coats",[(4,1)])]:List (String×List (Nat×Nat))).getD k ("",[])) (t.drop n)).2):=by
  intro q J;unfold Za;rw[hw,I,J];all_goals rcases q with _|⟨_,_⟩<;>rfl
 have F:(Ge "coats" ++ [32]).length=6:=by rw[xF,hl];rfl
 rw[z8];by_cases h:Ge "coats" = t.take (Ge "coats").length
 ·rw[Wi h]
  have M:t=Ge "coats" ++ t.drop 5:=by
   rw[hl]at h
   conv=>lhs;rw[<-Vq 5 t,<-h]
  simp only;by_cases j:(t.drop 5).head?=some 32
  ·have hd:=Pl.head_drop j;rw[hd,Pl.oS 3]
   have B:Ge "coats" ++ [32]=t.take (Ge "coats" ++ [32]).length:=by grind
   have T:=tl _ (z8 _ t);rw[Wi B,F]at T;have U:Z3 ("coats",[(4,1)]) (t.drop 6)=((Pl.bh 4 (t.drop 6)).1.map GT,(Pl.bh 4 (t.drop 6)).2):=rfl;grind
  ·have O:UH 4 (t.drop 5)=.error 0:=by unfold UH;rw[Pl.eW,Wh j]
   rw[O]
   have B:¬Ge "coats" ++ [32]=t.take (Ge "coats" ++ [32]).length:=by
    intro q;rw[F]at q;apply j;have z:=Wn (List.drop 5) q;rw[Qbm hl,List.drop_take]at z;cases hd:t.drop 5 with
    |nil=>rw[hd]at z;simp at z
    | cons a b=>
     rw[hd]at z;simp at z;rw[<-z];rfl
   have T:=tl _ (z8 _ t);rw[Wh B]at T;rw[T]
   have:Go (Ge "coats" ++ [32]) t=5:=by
    conv=>lhs;rw[M]
    rw[jv,hl];cases hd:t.drop 5 with
    |nil=>rfl
    | cons a b=>
     rw[hd]at j;show 5+(if 32=a then Go [] b+1 else 0)=5;rw[Wh];intro e;exact j (by rw[<-e];rfl)
   rw[this]
 ·rw[Wh h]
  have B:¬Ge "coats" ++ [32]=t.take (Ge "coats" ++ [32]).length:=by intro q;rw[F]at q;apply h;have z:=Wn (List.take 5) q;grind
  have T:=tl _ (z8 _ t);rw[Wh B,jw _ _ _ h]at T;exact T
theorem gf{m:Nat}{v k:Nat} (h:Pl.cq m t=(some v,k)):1<=k:=by
 unfold Pl.cq at h;cases t with
 |nil=>cases h
 | cons c r=>
  unfold Pl.cf at h;split at h
  ·cases h
  ·lia
theorem xb{k:Nat}{c:UInt8} (h:(t.drop k).head?=some c):k<t.length:=by
 rcases Uk k t.length with q|q
 ·exact q
 ·rw[List.drop_of_length_le q]at h;cases h
theorem Yr:∀{n:List Nat} {t:xA} {l:List Nat} {j:Nat},Pl.bf n t=(some l,j)->2*n.length<=j/\j<=t.length
 |[],t,l,j,h=>by cases h;exact⟨xM _,x4 _⟩
 | m::r,t,l,j,h=>by
  unfold Pl.bf at h;rcases e:Pl.cq m t with⟨_|v,k⟩
  ·lia
  ·rw[e] at h;simp only at h;by_cases q:(t.drop k).head?=some (if r=[] then 10 else 32)
   ·rw[Wi q] at h;have B:=gf e;have p2:=xb q;rcases z:Pl.bf r (t.drop (k+1)) with ⟨_ | F,G⟩
    ·lia
    ·rw[z]at h;cases h;have:=Yr z;grind
   lia
theorem qM:∀{n:Nat} {t:xA} {l:List Nat} {j:Nat},Pl.bh n t=(some l,j)->2<=j/\j<=t.length/\l.length<=n
 |0,t,l,j,h=>by cases h
 | n+1,t,l,j,h=>by
  unfold Pl.bh at h;rcases e:Pl.cq 255 t with⟨_|v,k⟩
  ·lia
  ·rw[e] at h;simp only at h;have G:=gf e;by_cases q:(t.drop k).head?=some 10
   ·rw[Wi q]at h;have p2:=xb q;grind
   ·rw[Wh q] at h;by_cases F:n=0
    ·lia
    ·rw[Wh F] at h;by_cases z:(t.drop k).head?=some 32
     ·rw[Wi z] at h;have p2:=xb z;rcases B:Pl.bh n (t.drop (k+1)) with ⟨_ | I,J⟩
      ·lia
      ·rw[B]at h;cases h;have:=qM B;grind
     lia
theorem lR:∀(j xs:List Nat),(enc j xs).length<=j.sum
 |[],xs=>by cases xs<;>exact x4 _
 |s::j,[]=>x4 _
 | s::j,x::xs=>by
  have:=lR j xs;show(Gg s x++enc j xs).length<=_;rw[xF,Xk,V9];lia
theorem rT{l:List Nat}(h:l.length<=4):(GT l).length=5:=by
 unfold GT;rw[xF,xF,Xk,Vp]
 have:∀l:List Nat,(l.flatMap (Gg 1)).length=l.length:=by
  intro l;induction l with
  |nil=>rfl
  |cons a l j=>rw[VQ,xF,j,Xk,xO];lia
 rw[this];lia
theorem rN:∀x∈QN,(Qv x.2).sum<=2*((ZP x.1 x.2).length+2*(Qv x.2).length)/\(x.1 = "coats" -> (ZP x.1 x.2).length=6):=by decide +kernel
theorem zI {ws:List (String×List (Nat×Nat))} {x:String×xA} {n:Nat} (hw:∀x∈ws,x∈QN) (h:Za ws t=(some x,n)):n<=t.length/\x.2.length<=2*n:=by
 unfold Za at h;cases e:x6 (QS ws) t with
 |error m=>rw[e]at h;cases h
 | ok B=>
  obtain⟨k,w⟩:=B;rw[e]at h;simp only at h;obtain⟨h1,h2,O⟩:=z9 e;have hk:k<ws.length:=by unfold QS at h1;rw[xB]at h1;exact h1
  have F:ws.getD k ("",[])=ws[k]:=by rw[GA,xD hk];rfl
  have hr:=hw _ (xP hk)
  have G:(QS ws).getD k []=ZP (ws[k]).1 (ws[k]).2:=by unfold QS;grind
  have I:w<=t.length:=by grind
  obtain⟨J,M⟩:=rN _ hr;rw[<-G,<-h2]at J M;rw[F]at h;generalize ws[k]=z at *;unfold Z3 at h;by_cases hc:z.1 = "coats"
  ·rw[Wi hc] at h;simp only at h;rcases q:Pl.bh 4 (t.drop w) with ⟨_ | l,j⟩
   ·grind
   ·rw[q]at h;cases h;have:=qM q;rw[Ga]at this;have:=rT this.2.2;lia
  ·rw[Wh hc] at h;simp only at h;rcases q:Pl.bf ((Qv z.2).map lg) (t.drop w) with ⟨_ | l,j⟩
   ·grind
   ·rw[q]at h;cases h;have u:=Yr q;rw[Ga,xB]at u;have:=lR (Qv z.2) l;lia
theorem ia{s:String} {rs:List (Nat×Nat)} (h:(s,rs)∈QN):∀x∈QY s c,x∈QN:=by unfold QY;refine Yq fun x j=>?_;exact(XZ s (Z8 s) (YR s rs h)).2 x (List.mem_filter.1 j).1
theorem Fe{k:Nat}(h:k<=13)(h2:k≠12):sw k=nm k:=by unfold sw;lia
theorem rj(c:String->List xA)(t:xA):QJ "end" c t=(c,0):=by
 refine XB ?_
 have:QY "end" c=[]:=by unfold QY;rw[show Z8 "end" = [] by decide];rfl
 rw[this];rfl
theorem sQ{k w:Nat}{n many:Nat}(B:qL n many c t k w)(hk:k<=12):VL (Gla.shapes.getD k ("",[])).2 (t.drop (w-1))=match Pl.bf (Gla.shapes.getD k ("",[])).2 (t.drop w) with
  |(some l,j)=>.ok (l,1+j)
  |(none,j)=>.error (1+j):=by
 obtain⟨_,m2,m3⟩:=iG ⟨k,by lia⟩;rw[B.blank L];exact Pl.gK _ _ m2 fun m z=>Wj (List.all_eq_true.1 m3 m z)
theorem qz:∀(n B many:Nat)(c:String->List xA)(t:xA),t.length<n->St B many c->match Gd n B many t with
  |.error e=>(QJ (sw B) c t).2=e/\(((QJ (sw B) c t).1 "end").length=1->e≠t.length)
  |.ok x=>QJ (sw B) c t=(QK "end" [] (Zw x.1 c),x.2)/\x.2=t.length/\Rows B x.1
 |0,_,_,_,t,h,_=>Wm h L
 | n+1,B,many,c,t,hn,S=>by
  have F:∀{e:Nat} {c':String->List xA},c' "end" = []->QJ (sw B) c t=(c',e)->(QJ (sw B) c t).2=e/\(((QJ (sw B) c t).1 "end").length=1->e≠t.length):=by intro e c' h0 h1;rw[h1];grind
  cases e:x6 (OB B many) t with
  | error m=>
   rw[Cn e];exact F S.fin (XB (sZ S e))
  | ok iw=>
   obtain⟨i,w⟩:=iw;have ag:=uQ S e;have ac:=ag.wl;have ad:=ag.len;generalize hk:(Xf B many).getD i 0=k at ag;by_cases O:k=13
   ·subst O;rw[AZ e hk];have T:=ag.eq;rw[rW] at T;have T:Za (QY (sw B) c) t=(some ("end",[]),w+0):=T;have ah:=Jk T;rw[rj] at ah;by_cases hl:t.length=w
    ·rw[Wi hl];exact⟨ah,hl.symm,trivial⟩
    lia
   ·have G:k<=12:=by have:=ag.le;lia
    have N:=sQ ag G;have T:=ag.eq;rw[tP G]at T;have af:(Gla.shapes.getD k ("",[])).2.length=(Qv (rn k)).length:=by rw[(iG ⟨k,by lia⟩).1,xB]
    rcases q:Pl.bf (Gla.shapes.getD k ("",[])).2 (t.drop w) with⟨_|l,j⟩
    ·rw[q]at N T;rw[A' e hk O N];have T:Za (QY (sw B) c) t=(none,w+j):=T;rw[show w-1+(1+j)=w+j by lia];exact F S.fin (XB T)
    ·rw[q] at N T;have N:VL (Gla.shapes.getD k ("",[])).2 (t.drop (w-1))=.ok (l,1+j):=N;have T:Za (QY (sw B) c) t=(some (nm k,enc (Qv (rn k)) l),w+j):=T;have ll:=yO q;have J:w-1+(1+j)=w+j:=by lia
     have ah:=Jk T;by_cases M:k=12
     ·subst M;have C:=kQ (QK (nm 12) (enc (Qv (rn 12)) l) c) (t.drop (w+j));have f1:QK (nm 12) (enc (Qv (rn 12)) l) c "end" = []:=by rw[ZA (show "end" ≠ nm 12 by decide)];exact S.fin
      have aa:l.length=32:=by rw[ll];rfl
      cases o:x6 [Ge "coats"] (t.drop (w+j)) with
      | error m=>
       rw[o]at C;rw[CI e hk N (by show x6 _ (t.drop (w-1+(1+j)))=_;rw[J];exact o)];show _=w-1+(1+j)+m/\_;rw[J];have U:QJ (nm 12) (QK (nm 12) (enc (Qv (rn 12)) l) c) (t.drop (w+j))=_:=XB C;rw[U]at ah;exact F f1 ah
      | ok z=>
       rw[o]at C;simp only at C;cases y:UH 4 ((t.drop (w+j)).drop 5) with
       | error m=>
        rw[y]at C;have y':UH 4 (t.drop (w-1+(1+j)+5))=.error m:=by rw[J,<-G5];exact y
        rw[CF e hk N (by show x6 _ (t.drop (w-1+(1+j)))=_;rw[J];exact o) y'];show _=w-1+(1+j)+5+m/\_;rw[J];have U:QJ (nm 12) (QK (nm 12) (enc (Qv (rn 12)) l) c) (t.drop (w+j))=_:=XB C;rw[U]at ah;rw[show w+j+5+m=w+j+(5+m) by lia];exact F f1 ah
       | ok y0=>
        rw[y]at C;have y':UH 4 (t.drop (w-1+(1+j)+5))=.ok y0:=by rw[J,<-G5];exact y
        rw[BA e hk N (by show x6 _ (t.drop (w-1+(1+j)))=_;rw[J];exact o) y'];have U:QJ (nm 12) (QK (nm 12) (enc (Qv (rn 12)) l) c) (t.drop (w+j))=_:=Jk C
        have ea:QK "coats" (GT y0.1) (QK (nm 12) (enc (Qv (rn 12)) l) c)=Zj 12 (l++y0.1) c:=by unfold Zj;rw[Wi Z,List.take_left' aa,Qbm aa];rfl
        rw[ea,G5,show w+j+(5+y0.2)=w+j+5+y0.2 by lia]at U
        show match (match Gd n 12 (if 12=B then many+1 else 1) (t.drop (w-1+(1+j)+5+y0.2)) with
         |.error e=>.error (w-1+(1+j)+5+y0.2+e)
         |.ok r=>.ok ((12,l++y0.1)::r.1,w-1+(1+j)+5+y0.2+r.2):Gla.Read (List (Nat×List Nat))) with
         |.error e=>(QJ (sw B) c t).2=e/\(((QJ (sw B) c t).1 "end").length=1->e≠t.length)
         |.ok x=>QJ (sw B) c t=(QK "end" [] (Zw x.1 c),x.2)/\x.2=t.length/\Rows B x.1
        rw[J];have I:=qz n 12 (if 12=B then many+1 else 1) (Zj 12 (l++y0.1) c) (t.drop (w+j+5+y0.2)) (by rw[Ga];lia) (S.step Wa ag.ord);rw[U]at ah;have ab:sw 12 = "coats" := rfl;rw[ab]at I;rcases rr:Gd n 12 (if 12=B then many+1 else 1) (t.drop (w+j+5+y0.2)) with m|r
        ·rw[rr]at I;obtain⟨i1,i2⟩:=I;simp only;rw[ah];grind
        ·rw[rr] at I;obtain⟨i1,i2,i3⟩:=I;simp only;rw[ah,i1];rw[Ga] at i2
         have lb:w+j+5+y0.2<=t.length:=by have u1:=(Yr q).2;rw[Ga]at u1;have u2:=(zI (ia (s := "paint") (rs:=[(32,2)]) Wa) C).1;grind
         refine⟨?_,by show w+j+5+y0.2+r.2=_;lia,G,ag.ord,?_,i3⟩
         ·show(QK "end" [] (Zw r.1 (Zj 12 (l++y0.1) c)),w+j+(5+y0.2+r.2))=(QK "end" [] (Zw r.1 (Zj 12 (l++y0.1) c)),w+j+5+y0.2+r.2);lia
         ·unfold qX;grind
     ·have ea:QK (nm k) (enc (Qv (rn k)) l) c=Zj k l c:=by unfold Zj;rw[Wh M]
      rw[Bc e hk O M N];rw[ea]at ah
      show match (match Gd n k (if k=B then many+1 else 1) (t.drop (w-1+(1+j))) with
       |.error e=>.error (w-1+(1+j)+e)
       |.ok r=>.ok ((k,l++[])::r.1,w-1+(1+j)+r.2):Gla.Read (List (Nat×List Nat))) with
       |.error e=>(QJ (sw B) c t).2=e/\(((QJ (sw B) c t).1 "end").length=1->e≠t.length)
       |.ok x=>QJ (sw B) c t=(QK "end" [] (Zw x.1 c),x.2)/\x.2=t.length/\Rows B x.1
      rw[J,Uw];have I:=qz n k (if k=B then many+1 else 1) (Zj k l c) (t.drop (w+j)) (by rw[Ga];lia) (S.step G ag.ord);rw[Fe L M]at I;rcases rr:Gd n k (if k=B then many+1 else 1) (t.drop (w+j)) with m|r
      ·rw[rr]at I;obtain⟨i1,i2⟩:=I;simp only;rw[ah];grind
      ·rw[rr] at I;obtain⟨i1,i2,i3⟩:=I;simp only;rw[ah,i1];rw[Ga] at i2;have lb:w+j<=t.length:=by have:=(Yr q).2;rw[Ga] at this;lia
       refine⟨Z,by show w+j+r.2=_;lia,G,ag.ord,?_,i3⟩;unfold qX;lia
def ee(c:String->List xA):Nat:=(QN.map fun x=>(c x.1).flatten.length).sum
theorem vW(s x:String)(b:xA)(c:String->List xA):(QK s b c x).flatten.length=(c x).flatten.length+if x=s then b.length else 0:=by unfold QK;grind
theorem wC{s:String} {rs:List (Nat×Nat)} (h:(s,rs)∈QN):ee (QK s b c)=ee c+b.length:=by
 unfold ee;simp only[vW]
 have key:∀l:List (String×List (Nat×Nat)),(l.map fun x=>(c x.1).flatten.length+if x.1=s then b.length else 0).sum=(l.map fun x=>(c x.1).flatten.length).sum+(l.countP fun x=>x.1==s)*b.length:=by
  intro l;induction l with
  |nil=>simp
  | cons x l j=>
   rw[xT,V9,j,xT,V9,List.countP_cons];by_cases q:x.1=s
   ·lia
   ·lia
 rw[key];have one:∀x∈QN,(QN.countP fun y=>y.1==x.1)=1:=by decide +kernel
 grind
theorem fT{s:String} (h:(s,Z8 s)∈Xn):∀x∈QY s c,x∈QN:=by unfold QY;refine Yq fun x j=>?_;exact(XZ s (Z8 s) h).2 x (List.mem_filter.1 j).1
theorem fY:∀(f:Nat)(s:String)(c:String->List xA)(t:xA),(s,Z8 s)∈Xn->ee (J5 f s c t).1<=ee c+2*t.length
 |0,_,c,_,_=>UR _ _
 | f+1,s,c,t,h=>by
  unfold J5;rcases e:Za (QY s c) t with⟨_|⟨s',b⟩,n⟩
  ·lia
  ·have hw:=fT (c:=c) h;obtain⟨B,F⟩:=zI hw e;obtain⟨x,j,rfl⟩:=List.mem_map.1 (zH e);have hr:=hw x j;have z:=fY f x.1 (QK x.1 b c) (t.drop n) (YR x.1 x.2 hr);rw[wC hr,Ga]at z;lia
theorem lL{c:String->List xA}:∀{l:List (String×List (Nat×Nat))} {x:String×List (Nat×Nat)},x∈l->(c x.1).flatten.length<=(l.map fun x=>(c x.1).flatten.length).sum
 | y::l,x,h=>by
  rw[xT,V9];rcases List.mem_cons.1 h with rfl|h
  ·lia
  ·have:=lL (c:=c) h;lia
theorem rZ(t:xA)(h:t.length<=40000):ee (QJ "" c0 t).1<=80000:=by
 have:=fY (t.length+1) "" c0 t Wa;have e:ee c0=0:=by decide
 unfold QJ;lia
theorem A6{c:String->List xA}(h:ee c<=80000):B8 c:=fun s rs j=>by
 have:=lL (c:=c) j;unfold ee at h;show(c s).flatten.length<=_;have this:(c s).flatten.length<=_:=this;lia
theorem sF(c:String->List xA):(Yh c).length<=200+ee c:=by have p:=Yv (c "paint") (c "coats");unfold Yh YH Zk d5 pq ee QN;simp only[xF,xT,Vh,Gr,Qa6,UX,Xk,V9,List.sum_nil,xO];have j:Gla.WORKSHOP.length=4:=rfl;have n:Gla.MAGIC.length=4:=rfl;lia
theorem xk:∀{n s:Nat} {r:List Nat},r.length=n->enc (xS n s) r=r.flatMap (Gg s)
 |0,s,[],_=>rfl
 | n+1,s,x::r,h=>by
  rw[GP,VQ,<-xk (n:=n) (by simpa using h)];rfl
theorem Yk(k:Nat)(x:Nat×List Nat) (l:List (Nat×List Nat)):Gi k (x::l)=if x.1=k then x.2::Gi k l else Gi k l:=by unfold Gi;grind
theorem Jl{k:Nat}:∀{s:Nat} {l:List (Nat×List Nat)},Rows s l->∀r∈Gi k l,qX k r
 |s,[],_,r,h=>by cases h
 | s,x::l,R,r,h=>by
  rw[Yk]at h;split at h
  ·rename_i e;rcases List.mem_cons.1 h with rfl | h
   ·rw[<-e];exact R.2.2.1
   ·exact Jl R.2.2.2 r h
  ·exact Jl R.2.2.2 r h
theorem yZ{k:Nat}(hk:YQ k=true):∀{s:Nat} {l:List (Nat×List Nat)},Rows s l->s≠14->k<=s->Gi k l=[]
 |s,[],_,_,_=>rfl
 | s,x::l,R,h1,h2=>by
  obtain⟨a,b,_,d⟩:=R;rcases b with b|b
  ·lia
  ·rw[Yk,Wh]
   ·exact yZ hk d L L
   grind
theorem fH{k:Nat}(hk:YQ k=true):∀{s:Nat} {l:List (Nat×List Nat)},Rows s l->Gi k l=[]\/∃r,Gi k l=[r]
 |s,[],_=>.inl rfl
 | s,x::l,R=>by
  obtain⟨a,b,_,d⟩:=R;rw[Yk];split
  ·rename_i e;exact .inr ⟨x.2,by rw[yZ hk d L L]⟩
  ·exact fH hk d
theorem rB{k:Nat}(hk:k<=11):∀{s:Nat} {l:List (Nat×List Nat)} {c:String->List xA},Rows s l->Zw l c (nm k)=c (nm k)++(Gi k l).map (enc (Qv (rn k)))
 |s,[],c,_=>by rw[show Gi k []=[] from Z];simp[Zw]
 | s,x::l,c,R=>by
  obtain⟨a,b,_,d⟩:=R;show Zw l (Zj x.1 x.2 c) (nm k)=_;rw[rB hk d,Yk];by_cases e:x.1=k
  ·rw[Wi e,e,jx hk,xT,GS];rfl
  ·rw[Wh e,JB (qB L L (fun q=>e q.symm)) (fQ ⟨k,by lia⟩)]
theorem kg:∀{s:Nat} {l:List (Nat×List Nat)} {c:String->List xA},Rows s l->Zw l c "paint" = c "paint" ++ (Gi 12 l).map (fun r=>enc (xS 32 2) (r.take 32))/\Zw l c "coats" = c "coats" ++ (Gi 12 l).map fun r=>GT (r.drop 32)
 |s,[],c,_=>by rw[show Gi 12 []=[] from Z];simp[Zw]
 | s,x::l,c,R=>by
  obtain⟨a,b,_,d⟩:=R;show Zw l (Zj x.1 x.2 c) "paint" = _/\Zw l (Zj x.1 x.2 c) "coats" = _;obtain⟨i1,n⟩:=kg (c:=Zj x.1 x.2 c) d;rw[i1,n,Yk];by_cases e:x.1=12
  ·rw[Wi e,e];unfold Zj;rw[Wi Z,qp,ZA (show "coats" ≠ "paint" by decide),ZA (show "paint" ≠ "coats" by decide),qp];simp
  ·rw[Wh e];unfold Zj;rw[Wh e];have B : "coats" ≠ nm x.1:=fun q=>fQ ⟨x.1,by lia⟩ q.symm;have F : "paint" ≠ nm x.1:=fun q=>qB (j:=12) Wa L (fun z=>e z.symm) q;rw[ZA B,ZA F];lia
theorem ja(f g:List Nat->xA):∀R:List (List Nat),Zb (R.map f) (R.map g)=R.flatMap fun r=>f r++g r
 |[]=>rfl
 | r::R=>by
  show f r++g r++Zb (R.map f) (R.map g)=_;rw[ja f g R,VQ]
theorem gB{k n s:Nat} {R:List (List Nat)} (z:Qv (rn k)=xS n s) (j:k≠12) (h:∀r∈R,qX k r):(R.map (enc (Qv (rn k)))).flatten=R.flatMap fun r=>r.flatMap (Gg s):=by rw[V4];congr 1;refine UK fun r hr=>?_;have:=h r hr;unfold qX at this;rw[Wh j,z,Vp]at this;rw[z,xk this]
structure yA(c:String->List xA) (l:List (Nat×List Nat)):Prop where
 rows:Rows 14 l
 at_:∀k,k<=11->c (nm k)=(Gi k l).map (enc (Qv (rn k)))
 pt:c "paint" = (Gi 12 l).map (fun r=>enc (xS 32 2) (r.take 32))
 co:c "coats" = (Gi 12 l).map fun r=>GT (r.drop 32)
theorem yA.one {l:List (Nat×List Nat)} (T:yA c l) {k n s:Nat} (hk:k<=11) (j:YQ k=true) (z:Qv (rn k)=xS n s):(c (nm k)).flatten=(Vw k l).flatMap (Gg s):=by
 rw[T.at_ k hk,gB z L (Jl T.rows)];unfold Vw;rcases fH j T.rows with e|⟨r,e⟩
 ·rw[e];rfl
 ·rw[e];simp
theorem yA.many {l:List (Nat×List Nat)} (T:yA c l) {k n s:Nat} (hk:k<=11) (j:Qv (rn k)=xS n s):(c (nm k)).flatten=(Gi k l).flatMap fun r=>r.flatMap (Gg s):=by rw[T.at_ k hk,gB j L (Jl T.rows)]
theorem yA.len {l:List (Nat×List Nat)} (T:yA c l) {k:Nat} (hk:k<=11):(c (nm k)).length=(Gi k l).length:=by rw[T.at_ k hk,xB]
theorem yA.pane {l:List (Nat×List Nat)} (T:yA c l):(c "pane").flatten=(Gi 3 l).flatMap fun(r:List Nat)=>(r.take 2).flatMap (Gg 4)++(r.drop 2).flatMap (Gg 2):=by
 rw[show c "pane" = _ from T.at_ 3 Wa,V4];congr 1;refine UK fun r hr=>?_;have:=Jl T.rows r hr;unfold qX at this;rw[Wh Wa,show(Qv (rn 3)).length=4 from Z]at this;match r,this with
 |[a,b,d,e],_=>simp[Qv,rn,enc]
theorem yA.eq {l:List (Nat×List Nat)} (T:yA c l):Yh c=Qab l:=by
 have G:(c "window").flatten=(Vw 0 l).flatMap (Gg 4):=T.one (k:=0) (n:=2) Wa Wa rfl;have I:(c "cut").flatten=(Vw 4 l).flatMap (Gg 4):=T.one (k:=4) (n:=5) Wa Wa rfl;have J:(c "lead").flatten=(Vw 5 l).flatMap (Gg 4):=T.one (k:=5) (n:=5) Wa Wa rfl;have M:(c "margin").flatten=(Vw 6 l).flatMap (Gg 4):=T.one (k:=6) (n:=1) Wa Wa rfl;have O:(c "ways").flatten=(Vw 7 l).flatMap (Gg 4):=T.one (k:=7) (n:=1) Wa Wa rfl;have U:(c "shelf").flatten=(Vw 8 l).flatMap (Gg 8):=T.one (k:=8) (n:=1) Wa Wa rfl;have m1:(c "point").flatten=_:=T.many (k:=1) (n:=2) (s:=4) Wa rfl;have m2:(c "line").flatten=_:=T.many (k:=2) (n:=2) (s:=2) Wa rfl;have m3:=T.pane;have m9:(c "sheet").flatten=_:=T.many (k:=9) (n:=4) (s:=4) Wa rfl;have vw:(c "kind").flatten=_:=T.many (k:=10) (n:=2) (s:=4) Wa rfl;have AX:(c "glass").flatten=_:=T.many (k:=11) (n:=32) (s:=2) Wa rfl;have l1:(c "point").length=_:=T.len (k:=1) Wa;have l2:(c "line").length=_:=T.len (k:=2) Wa;have l3:(c "pane").length=_:=T.len (k:=3) Wa;have l9:(c "sheet").length=_:=T.len (k:=9) Wa;have j:(c "kind").length=_:=T.len (k:=10) Wa;have z:(c "glass").length=_:=T.len (k:=11) Wa;have B:(c "paint").length=(Gi 12 l).length:=by rw[T.pt,xB]
 have F:Zb (c "paint") (c "coats")=(Gi 12 l).flatMap fun(r:List Nat)=>Gla.lightBytes (r.take 32)++GT (r.drop 32):=by rw[T.pt,T.co,ja,V4,V4];congr 1;refine UK fun r hr=>?_;have:=Jl T.rows r hr;unfold qX at this;rw[Wi Z]at this;rw[xk (by rw[Gk];lia)];rfl
 have z2:Gg 2 0=[0,0]:=by decide
 have ec:Zk c=Vd++((Vw 0 l).flatMap (Gg 4)++(Gg 2 (Gi 1 l).length++(Gg 2 (Gi 2 l).length++(Gg 2 (Gi 3 l).length++(Gg 2 0++((Gi 1 l).flatMap (fun(r:List Nat)=>r.flatMap (Gg 4))++((Gi 2 l).flatMap (fun(r:List Nat)=>r.flatMap (Gg 2))++
  (Gi 3 l).flatMap fun(r:List Nat)=>(r.take 2).flatMap (Gg 4)++(r.drop 2).flatMap (Gg 2)))))))):=by
  unfold Zk;simp only[xT,Vh,Gr,Qa6,Uw,GS,G,m1,m2,m3,l1,l2,l3,z2]
 unfold Yh YH d5 pq Qab;simp only[xT,Vh,Gr,Qa6,Uw,GS,I,J,M,O,U,m9,vw,AX,F,l9,j,z,B,ec,Qai];rfl
theorem vL {l:List (Nat×List Nat)} (R:Rows 14 l):yA (QK "end" [] (Zw l (QK "workshop" [] c0))) l:=by
 refine⟨R,fun k hk=>?_,?_,?_⟩
 ·rw[ZA (show nm k ≠ "end" from qB (j:=k) (k:=13) L Wa L),rB hk R];have:∀ k:Fin 12,QK "workshop" [] c0 (nm k)=[]:=by decide +kernel
  rw[this ⟨k,by lia⟩];rfl
 ·rw[ZA Wa,(kg R).1];rfl
 ·rw[ZA Wa,(kg R).2];rfl
def tU(t:xA):Bool:=decide (((QJ "" c0 t).1 "end").length=1)&&decide ((QJ "" c0 t).2=t.length)
def lW(t:xA):List V:=if tU t=true then(match rL ZW (Yh (QJ "" c0 t).1) with
  |some x=>[.int (-5),.int ((x.1+16:Nat):Int),.int (x.2:Int)]
  |none=>.int 0::.int ((Yh (QJ "" c0 t).1).length:Int)::bl (Yh (QJ "" c0 t).1)) else [.int (-5),.int 1,.int ((QJ "" c0 t).2:Int)]
theorem iK{x:VZ}(h:pB b x):Qa0 x=b:=by
 have k:(QI b).take 4=Vd/\xG (QI b) 18 2=0/\(QI b).length=20+8*xG (QI b) 12 2+4*xG (QI b) 14 2+12*xG (QI b) 16 2:=by
  have h:=h.plan;generalize QI b=c at *;unfold UO at h;split at h
  ·cases h
  ·split at h
   ·cases h
   ·rename_i h1;split at h
    ·cases h
    ·split at h
     ·cases h
     ·split at h
      ·cases h
      ·split at h
       ·cases h
       ·split at h
        ·cases h
        ·split at h
         ·cases h
         ·rename_i h2;split at h
          ·lia
          ·rename_i j;exact⟨by simpa using h1,by simpa using h2,by simpa [Qb1] using j⟩
 rw[h.eq];refine Pl.iO h.mag h.len ?_ h.coat;rw[Pl.iI k.1 k.2.1 k.2.2,<-JX];rfl
theorem mL:∀{s:Nat} {l:List (Nat×List Nat)} {c:String->List xA},Rows s l->Zw l c "end" = c "end"
 |s,[],c,_=>rfl
 | s,x::l,c,R=>by
  obtain⟨a,b,_,d⟩:=R;show Zw l (Zj x.1 x.2 c) "end" = _;rw[mL d,JB (show "end" ≠ nm x.1 from qB (j:=13) Wa L L) Wa]
theorem iW(t:xA):Za (QY "" c0) t=match x6 [Ge "workshop" ++ [10]] t with
  |.error n=>(none,n)
  |.ok (_,n)=>(some ("workshop",[]),n):=by
 have hw:QY "" c0=[("workshop",[])]:=by decide
 have j:QS [("workshop",[])]=[Ge "workshop" ++ [10]]:=by decide +kernel
 unfold Za;rw[hw,j,z8];by_cases h:Ge "workshop" ++ [10]=t.take (Ge "workshop" ++ [10]).length
 ·rw[Wi h];rfl
 ·rw[Wh h]
theorem ov(t:xA):match Qbi t with
  |.error e=>(tU t=false/\e=⟨1,(QJ "" c0 t).2⟩)\/(tU t=true/\∃x,rL ZW (Yh (QJ "" c0 t).1)=some x/\e=⟨x.1+16,x.2⟩)
  |.ok x=>tU t=true/\rL ZW (Yh (QJ "" c0 t).1)=none/\Qa0 x=Yh (QJ "" c0 t).1:=by
 have F:=iW t
 have no:((QJ "" c0 t).1 "end").length=1->(QJ "" c0 t).2≠t.length->tU t=false:=fun h1 h2=>by
  unfold tU;lia
 have j:((QJ "" c0 t).1 "end").length≠1->tU t=false:=fun h=>by
  unfold tU;lia
 unfold Qbi;cases e:x6 [Ge "workshop" ++ [10]] t with
 | error k=>
  rw[e]at F;have aa:=XB F;simp only;refine .inl ⟨j ?_,?_⟩
  ·rw[aa];show([]:List xA).length≠1;decide
  ·rw[aa]
 | ok I=>
  obtain⟨i,w⟩:=I;rw[e]at F;have aa:=Jk F;obtain⟨o1,o2,o3⟩:=z9 e
  have M:w<=t.length:=by grind
  have S:St 14 0 (QK "workshop" [] c0):=by
   have:∀k:Fin 14,QK "workshop" [] c0 (nm k)=[]:=by decide +kernel
   exact⟨.inr Z,fun _ h=>by lia,fun k h1 h2 _=>this ⟨k,by lia⟩,this ⟨13,by decide⟩⟩
  have R:=qz (t.length+1) 14 0 (QK "workshop" [] c0) (t.drop w) (by rw[Ga];lia) S;rw[show sw 14 = "workshop" from Z]at R;simp only;cases r:Gd (t.length+1) 14 0 (t.drop w) with
  | error m=>
   rw[r]at R;obtain⟨n,z⟩:=R;simp only;refine .inl ⟨?_,?_⟩
   ·by_cases q:((QJ "" c0 t).1 "end").length=1
    ·refine no q ?_;rw[aa]at q ⊢;grind
    lia
   ·lia
  | ok x=>
   rw[r]at R;obtain⟨n,z,B⟩:=R;simp only;rw[n]at aa;have O:=vL B
   have U:Yh (QJ "" c0 t).1=Qab x.1:=by rw[aa];exact O.eq
   have G:tU t=true:=by
    unfold tU;rw[aa];rw[Ga]at z
    have e1:(QK "end" [] (Zw x.1 (QK "workshop" [] c0)) "end").length=1:=by rw[qp,mL B];decide
    lia
   rw[U];have J:=j3 (Qab x.1);cases q:Qaa (Qab x.1) with
   | error f=>
    rw[q]at J;simp only;exact .inr ⟨G,(f.rule,f.place),J.symm,Z⟩
   | ok s=>
    rw[q]at J;simp only;exact⟨G,J.symm,iK (j0 q)⟩
theorem AK(b:xA):(PageNeutral.told (.bytes b)).map V.int=.int 0::.int (b.length:Int)::bl b:=by show List.map V.int (0::PageNeutral.bytesN b)=_;unfold PageNeutral.bytesN PageNeutral.rowN;show V.int 0::V.int _::_=_;rw[xB];congr 2;unfold bl;rw[Vx];rfl
theorem pL{l:List Int}(h:∀z∈l,0<=z/\z<=255)(hl:l.length<=40000):lW (pk l)=(PyYqglia.read l).map V.int:=by
 have e:PyYqglia.read l=PageNeutral.told (GlaPages.answer (.read (pk l))):=by have c:PageNeutral.callOf [[3],l]=(PageNeutral.bytes l).bind fun b=>some (.read b):=rfl;unfold PyYqglia.read PageNeutral.f;rw[c,yH h];rfl
 rw[e]
 show _=(PageNeutral.told (if GlaPages.TEXT<(pk l).length then GlaPages.LARGE else match Qbi (pk l) with
  |.error e=>GlaPages.fault 0 e
  |.ok x=>.bytes (Qa0 x))).map V.int
 rw[Wh (by rw[mq];show ¬4194304<l.length;lia)];have P:=ov (pk l);unfold lW;cases q:Qbi (pk l) with
 | error f=>
  rw[q]at P;rcases P with⟨j,p2⟩|⟨j,x,p2,n⟩
  ·rw[j,p2];rfl
  ·rw[j,p2,n];rfl
 | ok x=>
  rw[q]at P;obtain⟨j,p2,n⟩:=P;rw[j,p2];show _=(PageNeutral.told (.bytes (Qa0 x))).map V.int;rw[AK,n];rfl
inductive vK(K:xz)(vs:List V)(H:Hp)(Q:VK)(E:XK):Prop
 |mk (a:Addr) (t:xA):vs=[.ref a]->a' K H a (bl t)->t.length<=40000->(∀H' l,Qn H H'->H' l=some (.lst (lW t))->Q (.ref l) H')->vK K vs H Q E
abbrev Bo:Stmt:=top 115
theorem vP:a7 ["text","scan","workshop","fault"] ["text"] (a6 Bo):=.mk'
structure Iq(mg:Str->Option Value):Prop where
 gM:GI mg "MOST_PAGE_BYTES" 4194304
 g6:GI mg "TOO_LONG" (-6)
 g1:GI mg "NO_PAGE" 1
 g16:GI mg "TOLD_RULES" 16
theorem DM(F:bF K "read" "read" Bo f fd)(T:JY K mg C)(R:Iq mg)(U:Txt K mg) (SO:bq P w K mg base 5 "scan_of" ["text"] (AA K C)) (M:XQ P w K mg base C 1 "is_page" ["self"] (Bj K C)) (Rf:bq P w K mg base 1 "refusal" ["fault","more"] (Ca K))
  (WT:bq P w K mg base 4 "workshop_told" ["rows"] (BI K)) (Wf:bq P w K mg base 9 "workshop_fault" ["workshop"] (zK K (rL ZW))) (Ct:bq P w K mg base 1 "counted" ["octets"] (pK K)):QC P w K mg base bB 10 f fd ["text"] (vK K):=by
 obtain⟨fm,aa,hm,bm,G⟩:=M.ex;apply F.bL vP;rintro _ H Q E ⟨a,t,rfl,hS,hl,k⟩;refine⟨Z,fun _ _ _ _ hr=>?_⟩;have eM:ZJ 1 _:=hr.mono Wa
 refine⟨_,Qb (QD (Qs Zn (Qx Qp Wg U.len Wx (Qa (pv 0) Qc)) (QP R.gM) (Qo _)) (Qd (Qj (QU (Qa (QP R.g6) Qc)))) Qq)
  (Qb (bz 1 vP.nd (Qr SO (hr.mono Wa) (Qa (pv 0) Qc)))
  (Qb (QD (X5 (Zd (Ym (pv 1) T.cl hm G eM bm .nil Zc))) (Qd (Qj (Qr Rf eM (Qa (Ze (Qa (QP R.g1) (Qa (Qw (pv 1) Z) Qc))) (Qa Qi Qc))))) Qq)
  (Qb (bz 2 vP.nd (Qr WT (hr.mono Wa) (Qa (Qw (pv 1) Z) Qc)))
  (Qb (bz 3 vP.nd (Qr Wf hr (Qa (pv 2) Qc)))
  (Qb (QD (Q6 (ZV (pv 3))) (Qd (Qj (Qr Rf eM (Qa (pv 3) (Qa (QP R.g16) Qc))))) Qq)
  (Qd (Qj (Qr Ct eM (Qa (pv 2) Qc))))))))),?_⟩
 refine⟨_,Z,a,_,Z,.inl hS,_,_,Z,Z,_,Z,Qz (fun h1=>?_) (fun h1=>?_)⟩
 ·exfalso;have h1:(4194304:Int)<((bl t).length:Int):=Wj h1;rw[Ql]at h1;lia
 refine⟨_,Z,a,t,Z,hS,by lia,fun H1 p dx d B ad s1 S=>?_⟩;have D:=S.sc;refine⟨_,Z,p,dx,_,Z,D.ins,zP _ _ _ Wb Wb Wb,p,dx,a,d,t,_,B,ad,_,Z,S,?_⟩;unfold lW tU at k;cases hp:(decide (((QJ "" c0 t).1 "end").length=1)&&decide ((QJ "" c0 t).2=t.length)) with
 | false=>
  rw[hp,Wh Wa]at k;refine⟨_,Z,Qz (fun j=>?_) (fun j=>Wm Z j)⟩;refine⟨_,Z,p,C,dx,_,_,Z,D.ins,T.cl,T.nP,jJ _ _ _,(by show 2<=sizeLine;decide),fun q hq=>?_⟩;refine⟨q,(1,(QJ "" c0 t).2),0,Z,Qe,fun H2 l J h2=>k _ _ ((s1.trans (Qk _ hq)).trans J) h2⟩
 | true=>
  rw[hp,Wi Z]at k;refine⟨_,Z,Qz (fun j=>Wm j Wa) (fun j=>?_)⟩;have ht:=rZ t hl;have ab:=sF (QJ "" c0 t).1;refine⟨_,Z,p,C,dx,_,_,Z,D.ins,T.cl,T.nR,oN _ _ _,d,B,ad,_,Z,S.rws,S.nm,A6 ht,fun H2 o O _ h2=>?_⟩;have J:=s1.trans O;generalize Yh (QJ "" c0 t).1=b at *;refine⟨_,Z,o,b,Z,a'.of h2,by lia,fun H3 v I n=>?_⟩;have s3:=J.trans I;cases e2:rL ZW b with
  | some x=>
   rw[e2]at n k;obtain⟨z,rfl,hz⟩:=n;refine⟨_,Z,_,Z,Qz (fun j=>?_) (fun j=>Wm We j)⟩;exact⟨_,Z,z,x,16,Z,hz,fun H4 l4 s4 h4=>k _ _ (s3.trans s4) h4⟩
  | none=>
   rw[e2]at n k;have n:v=.bP:=n;subst n;refine⟨_,Z,_,Z,Qz (fun j=>Wm j We) (fun j=>?_)⟩;exact⟨_,Z,o,b,Z,I _ _ h2,by lia,fun H4 l4 s4 h4=>k _ _ (s3.trans s4) h4⟩
theorem pR{s:Str}{t:Tok}{vs:List V}{us:List Value}(h:QH vs us):QH (.str s::vs) (.str s t::us):=.cons ⟨t,Z⟩ h
def kZ(K:xz)(a:Addr)(s:String)(l:List String):Prop:=∃q:Addr,xY K a (xC s)=some (some (.ref q))/\Jh K q (l.map fun x=>V.str (xC x))
theorem tK{s:String}{l:List String}{q:Addr} (e:xY K a (xC s)=some (some (.ref q))) (t:Jh K q (l.map fun x=>V.str (xC x))):kZ K a s l:=⟨q,e,t⟩
inductive YC(K:xz)(a:Addr):List (String×List String)->Prop
 |nil:YC K a []
 |cons {s:String} {r:List String} {l:List (String×List String)}:kZ K a s r->YC K a l->YC K a ((s,r)::l)
theorem YC.mem:∀{l:List (String×List String)},YC K a l->∀s r,(s,r)∈l->kZ K a s r
 |_,.nil,s,r,h=>by cases h
 | _,.cons h t,s,r,m=>by
  rcases List.mem_cons.1 m with e|m
  ·lia
  ·exact t.mem s r m
theorem nt{s:String}{r:List String} {l:List (String×List String)} (h:kZ K a s r) (t:YC K a l):YC K a ((s,r)::l):=.cons h t
def xx(K:xz)(j:Params):Prop:=∃(a:Addr)(es:Array DictEntry)(n:Nat),xY K mainGlobals "FOLLOWERS" = some (some (.ref a))/\K.lookup a=some ⟨.type "dict",none,.dict es n,#[]⟩/\G7 j es.toList/\YC K a Xn
theorem oE{j:Params}{es:Array DictEntry}{n:Nat} (e:xY K mainGlobals "FOLLOWERS" = some (some (.ref a))) (l:K.lookup a=some ⟨.type "dict",none,.dict es n,#[]⟩) (k:G7 j es.toList) (r:YC K a Xn):xx K j:=⟨a,es,n,e,l,k,r⟩
inductive Z1:List DictEntry->List (String×List (Nat×Nat))->Prop
 |nil:Z1 [] []
 |cons {en:DictEntry} {s:String×List (Nat×Nat)} {es:List DictEntry} {l:List (String×List (Nat×Nat))}:(∃t,en.key=.str (xC s.1) t)->Z1 es l->Z1 (en::es) (s::l)
theorem Z1.len{es:List DictEntry} {l:List (String×List (Nat×Nat))} (h:Z1 es l):es.length=l.length:=by
 induction h with
 |nil=>rfl
 |cons _ _ j=>rw[xO,xO,j]
theorem Z1.at_{es:List DictEntry} {l:List (String×List (Nat×Nat))} (h:Z1 es l):∀(i:Nat)(en:DictEntry),es[i]?=some en->∃(s:String×List (Nat×Nat)) (t:Tok),l[i]?=some s/\en.key=.str (xC s.1) t:=by
 induction h with
 |nil=>intro i en h;simp at h
 | cons h _ j=>
  intro i en e;cases i with
  | zero=>
   cases e;obtain⟨t,h⟩:=h;exact⟨_,t,Z,h⟩
  |succ i=>exact j i en (by simpa using e)
theorem kb{en:DictEntry} {s:String×List (Nat×Nat)} {es:List DictEntry} {l:List (String×List (Nat×Nat))} {t:Tok} (h:en.key=.str (xC s.1) t) (k:Z1 es l):Z1 (en::es) (s::l):=.cons ⟨t,h⟩ k
def uS(K:xz):Prop:=∃(a:Addr)(es:Array DictEntry)(n:Nat),xY K mainGlobals "NUMBER_RUNS" = some (some (.ref a))/\(a==sysModules)=false/\K.lookup a=some ⟨.type "dict",none,.dict es n,#[]⟩/\Z1 es.toList QN
theorem vN{es:Array DictEntry}{n:Nat} (e:xY K mainGlobals "NUMBER_RUNS" = some (some (.ref a))) (o:(a==sysModules)=false) (l:K.lookup a=some ⟨.type "dict",none,.dict es n,#[]⟩) (k:Z1 es.toList QN):uS K:=⟨a,es,n,e,o,l,k⟩
inductive bU(K:xz)(a:Addr):List (String×List (Nat×Nat))->Prop
 |nil:bU K a []
 |no {s:String} {r:List (Nat×Nat)} {l:List (String×List (Nat×Nat))}:XU s=false->xY K a (xC s)=some none->bU K a l->bU K a ((s,r)::l)
 |yes {s:String} {r:List (Nat×Nat)} {l:List (String×List (Nat×Nat))} {t:Tok}:XU s=true->xY K a (xC s)=some (some (.int 65535 t))->bU K a l->bU K a ((s,r)::l)
theorem bU.none {l:List (String×List (Nat×Nat))} (h:bU K a l):∀s rs,(s,rs)∈l->XU s=false->xY K a (xC s)=some none:=by
 induction h with
 |nil=>intro s rs h;cases h
 | no h1 h2 _ j=>
  intro s rs m q;rcases List.mem_cons.1 m with e|m
  ·lia
  ·grind
 | yes h1 h2 _ j=>
  intro s rs m q;rcases List.mem_cons.1 m with e|m
  ·lia
  ·grind
theorem bU.some {l:List (String×List (Nat×Nat))} (h:bU K a l):∀s rs,(s,rs)∈l->XU s=true->∃t,xY K a (xC s)=.some (.some (.int 65535 t)):=by
 induction h with
 |nil=>intro s rs h;cases h
 | no h1 h2 _ j=>
  intro s rs m q;rcases List.mem_cons.1 m with e|m
  ·lia
  ·grind
 | yes h1 h2 _ j=>
  intro s rs m q;rcases List.mem_cons.1 m with e|m
  ·grind
  ·grind
def xu(K:xz)(j:Params):Prop:=∃(a:Addr)(es:Array DictEntry)(n:Nat),xY K mainGlobals "MOST_LINES" = some (some (.ref a))/\(a==sysModules)=false/\K.lookup a=some ⟨.type "dict",none,.dict es n,#[]⟩/\G7 j es.toList/\bU K a QN
theorem mZ{j:Params}{es:Array DictEntry}{n:Nat} (e:xY K mainGlobals "MOST_LINES" = some (some (.ref a))) (o:(a==sysModules)=false) (l:K.lookup a=some ⟨.type "dict",none,.dict es n,#[]⟩) (k:G7 j es.toList) (r:bU K a QN):xu K j:=⟨a,es,n,e,o,l,k,r⟩
def xw(K:xz):Prop:=∃(a:Addr)(es:Array DictEntry)(n:Nat),xY K mainGlobals "LARGEST" = some (some (.ref a))/\K.lookup a=some ⟨.type "dict",none,.dict es n,#[]⟩/\XA es.toList/\∀s∈[1,2,4,8],∃k,findBy Value.isInt es ((s:Nat):Int)=some (.int (lg s:Int) k)
theorem oG{es:Array DictEntry}{n:Nat} (e:xY K mainGlobals "LARGEST" = some (some (.ref a))) (l:K.lookup a=some ⟨.type "dict",none,.dict es n,#[]⟩) (k:XA es.toList) (r:∀s∈[1,2,4,8],∃k,findBy Value.isInt es ((s:Nat):Int)=some (.int (lg s:Int) k)):xw K:=⟨a,es,n,e,l,k,r⟩
theorem xg{es:Array DictEntry}{z:Int}{v:Value} (h:(es.toList.find? fun e=>Value.isInt z e.key).map (fun e=>e.val)=some v):findBy Value.isInt es z=some v:=by unfold findBy;grind
theorem vx{es:Array DictEntry}{k1 k2 k4 k8:Tok} (h1:(es.toList.find? fun e=>Value.isInt 1 e.key).map (fun e=>e.val)=some (.int 255 k1)) (h2:(es.toList.find? fun e=>Value.isInt 2 e.key).map (fun e=>e.val)=some (.int 65535 k2)) (n:(es.toList.find? fun e=>Value.isInt 4 e.key).map (fun e=>e.val)=some (.int 4294967295 k4)) (z:(es.toList.find? fun e=>Value.isInt 8 e.key).map (fun e=>e.val)=some (.int 18446744073709551615 k8)):∀s∈[1,2,4,8],∃k,findBy Value.isInt es ((s:Nat):Int)=some (.int (lg s:Int) k):=by
 intro s j;simp only[GY,GF,Ws]at j;rcases j with rfl|rfl|rfl|rfl
 ·exact⟨k1,xg h1⟩
 ·exact⟨k2,xg h2⟩
 ·exact⟨k4,xg n⟩
 ·exact⟨k8,xg z⟩
theorem kK{e:DictEntry}{r:List DictEntry}{x:Int}{t:Tok}(h1:e.key=.int x t)(h2:e.hash=hashInt x)(k:XA r):XA (e::r):=⟨⟨x,t,h1,h2⟩,k⟩
structure HI(K:xz)(C:Addr)(Pm:Params):Prop where
 cl:ro K "Scan" C
 nT:Q8 K C "text"
 nP:Q8 K C "place"
 nR:Q8 K C "rows"
 mI:Xa K C "__init__" "Scan.__init__" uM
 mOA:Xa K C "octet_ahead" "Scan.octet_ahead" HA
 mTk:Xa K C "takes" "Scan.takes" IL
 mIP:Xa K C "is_page" "Scan.is_page" Hy
 g10:Zx K "LINE_END" 10
 g32:Zx K "BLANK" 32
 g48:Zx K "ZERO" 48
 g57:Zx K "NINE" 57
 gM:Zx K "MOST_PAGE_BYTES" 4194304
 g6:Zx K "TOO_LONG" (-6)
 g5:Zx K "BROKEN_RULE" (-5)
 g1:Zx K "NO_PAGE" 1
 g16:Zx K "TOLD_RULES" 16
 runs:xt K Pm
 rk:uS K
 foll:xx K Pm
 most:xu K Pm
 larg:xw K
 dNs:QB K "number_sizes" "number_sizes" II
 dAC:QB K "agreeing_count" "agreeing_count" HV
 dTN:QB K "take_number" "take_number" Ic
 dOO:QB K "octets_of" "octets_of" IM
 dTNs:QB K "take_numbers" "take_numbers" Ck
 dTC:QB K "take_coats" "take_coats" Kl
 dWO:QB K "word_octets" "word_octets" F2
 dTW:QB K "take_word" "take_word" Ho
 dWB:QB K "words_behind" "words_behind" Kr
 dTL:QB K "take_line" "take_line" Ke
 dSO:QB K "scan_of" "scan_of" HX
 dJn:QB K "joined" "joined" Iy
 dRO:QB K "row_octets" "row_octets" Hh
 dCO:QB K "count_octets" "count_octets" Hj
 dCT:QB K "cartoon_told" "cartoon_told" Ie
 dPT:QB K "paintings_told" "paintings_told" Hn
 dWT:QB K "workshop_told" "workshop_told" Ip
 dRf:QB K "refusal" "refusal" Ig
 dCtd:QB K "counted" "counted" Ak
theorem uS.g{h:Heap}(j:K.In h)(G:h.Ns mainGlobals mg)(R:uS K):Ai K mg:=by
 obtain⟨a,es,n,e,o,l,k⟩:=R;refine⟨a,es,n,Uj j G e,o,l,?_,fun i en h=>?_⟩
 ·rw[<-VA];exact k.len
 ·exact k.at_ i en (by simpa using h)
theorem xx.g{j:Params}{h:Heap}(z:K.In h)(G:h.Ns mainGlobals mg)(R:xx K j):Ag K j mg:=by obtain⟨a,es,n,e,l,k,r⟩:=R;refine⟨a,es,n,Uj z G e,l,k,fun s x B=>?_⟩;obtain⟨q,F,t⟩:=r.mem s x B;exact⟨q,F,t.sq⟩
theorem xu.g{z:Params}{h:Heap}(B:K.In h)(G:h.Ns mainGlobals mg)(R:xu K z):wW K z mg:=by
 obtain⟨a,es,n,e,o,l,k,r⟩:=R;refine⟨a,es,n,Uj B G e,o,l,k,fun s rs h1 h2=>r.none s rs h1 h2,fun s j=>?_⟩
 have:∃rs,(s,rs)∈QN:=by
  unfold XU at j;simp only[Qag,beq_iff_eq]at j;rcases j with(rfl|rfl)|rfl
  ·exact⟨[(2,4)],by decide⟩
  ·exact⟨[(2,2)],by decide⟩
  ·exact⟨[(2,4),(2,2)],by decide⟩
 obtain⟨rs,F⟩:=this;exact r.some s rs F j
theorem xw.g{h:Heap}(j:K.In h)(G:h.Ns mainGlobals mg)(R:xw K):sj K mg:=by obtain⟨a,es,n,e,l,k,r⟩:=R;exact⟨a,es,n,Uj j G e,l,k,r⟩
theorem pF{mg:Str->Option Value}{h:Heap}{C D fa:Addr}(z:K.In h)(G:h.Ns mainGlobals mg) (af:mg "read" = some (.ref fa)) (T:XO K C) (Dr:QB K "read" "read" Bo) (j:HI K D w.params) :
  ∃fd:FuncData,(∀(s:Shared)(us:List Value),us.length=(["text"]:List Str).length->BindsTo s fd ⟨us,[]⟩ ((["text"]:List Str).zip us))/\∀base:Heap,K.In base->base.Ns mainGlobals mg->QC P w K mg base bB 10 fa fd ["text"] (vK K):=by
 obtain⟨f,oc,od,kV,dc,pm,an,cd,ct,sl,n,l,c,kp⟩:=Dr.ex;have e:=af.symm.trans (Uj z G n);cases e;have F:=yk (st:=Bo) l c kp;refine⟨G9 "read" "read" (bY Bo) (bQ Bo) (a6 Bo) .none kV dc pm an cd ct,fun s us hu=>match us,hu with | [_],_=>.of_eq rfl,fun base _ _=>?_⟩;have U:=T.txt z G;have S:JY K mg D:=⟨⟨j.cl.pg,j.cl.hd,j.cl.po,j.cl.sa⟩,j.nT,j.nP,j.nR,Uj z G j.cl.ns,j.g10.gi z G,j.g32.gi z G,j.g48.gi z G,j.g57.gi z G⟩;have aK:=j.larg.g z G;have R:=j.runs.g z G;have B:=j.mOA.has P w base (mg:=mg) fun F=>E1 F S U;have J:=j.mTk.has P w base (mg:=mg) fun F=>FG F S B;have ag:=j.mIP.has P w base (mg:=mg) fun F=>Ew F S U;have ah:=j.dNs.has P w base z G fun F=>DV F R;have ai:=j.dAC.has P w base z G fun F=>Fj F S U B;have M:=j.dTN.has P w base z G fun F=>FR F S B;have I:=j.dOO.has P w base z G fun F=>Es F U;have O:=j.dTNs.has P w base z G fun F=>Cs F S U aK J M I;have aj:=j.dTC.has P w base z G fun F=>FT F S U aK J M;have ak:=j.dWO.has P w base z G fun F=>DC F S U R;have ao:=j.dTW.has P w base z G fun F=>Ff F S U ak ai;have aq:=j.dWB.has P w base z G fun F=>DG F S U (j.foll.g z G) (j.most.g z G);have au:=j.dTL.has P w base z G fun F=>E4 F S ao ah aj O;obtain⟨fi,aB,aC,aD,aE,aF,aG,aH,aI,aJ,ni,ii,li,ci,av⟩:=j.mI.ex;have FI:=yk (st:=uM) li ci av;have bI:=FI.binds (ps:=["self","text"]) fun _ _ _ _ _ _=>FY fun _ _=>rfl;have aw:=j.dSO.has P w base z G fun F=>DY F S ⟨j.cl.mak,ni,ii,j.cl.kc⟩ bI (AL FI S (j.rk.g z G)) au aq;have aa:=j.dJn.has P w base z G EY;have ab:=j.dRO.has P w base z G fun F=>Eb F aa;have ac:=j.dCO.has P w base z G fun F=>Ep F U aa I;have ax:=j.dCT.has P w base z G fun F=>Ds F U (T.sgC.sgn z G) ab ac;have ay:=j.dPT.has P w base z G fun F=>El F U;have az:=j.dWT.has P w base z G fun F=>D9 F U (T.sgW.sgn z G) ab ac I ax ay;have aA:=j.dRf.has P w base z G fun F=>DZ F (j.g5.gi z G);have ad:=j.dCtd.has P w base z G fun F=>AB F U;exact DM F S ⟨j.gM.gi z G,j.g6.gi z G,j.g1.gi z G,j.g16.gi z G⟩ U aw ag aA az (T.Li z G) ad
end Gp
open PySem PySem.W PyProof.Rows
set_option maxRecDepth 100000 in
set_option maxHeartbeats 0 in
theorem PySem.Challenge.cw_glasspages_s03_read_holds : PySem.Challenge.rw_glasspages_s03_read.Holds := by
 w_on
 refine PySem.W.holds_os (q:=Hd.q) (loose:=Hd.ls) (Xt:=Hd.Xt) (XP:=PySem.W.XL Hd.q []) (Yf:=PySem.W.Hook.obs (Qac Hd.K Hd.as Hd.ae)) (Ya:=PySem.W.Hook.val (Qac Hd.K Hd.as Hd.ae)) (YP:=PySem.W.Hook.says (Qac Hd.K Hd.as Hd.ae)) (N:=8502) Hd.hl (PySem.W.Hook.of (Qac Hd.K Hd.as Hd.ae)) (PySem.W.Hook.keeps (Qac Hd.K Hd.as Hd.ae)) (fun s e=>PySem.W.xl_of s (Bool.and_eq_true_iff.mp e).1) PySem.W.XL.keeps Wg Wg Wg (fun s e=>PySem.W.recFacts_of (Bool.and_eq_true_iff.mp e).2) (PySem.W.os_shapes) (by first|assumption|decide +kernel) Wb ⟨Z,Z,Z,Z,Z,by decide +kernel⟩ ?hw ?hc
 (case hw=>exact⟨[.list []],by decide +kernel,by decide +kernel⟩)
 k_fillS
 refine L2.kE (r:=PySem.Challenge.rw_glasspages_s03_read) (k:=10) (CX:=L2.bB) (ps:=["text"]) (sp:=fun K=>Gp.vK K) Wb Z Z ⟨Z,by decide,by decide⟩ (fun w h Y=>PySem.W.kIn_of Y) ?F ?S (fun _ _ _ _ z=>z)
 case F=>
  intro w mg fa h Y KX G K2;refine' Gp.pF KX G K2 ?T ?D ?P
  (case D=>(refine' Gp.gY ?a ?b ?c ?d;(case a=>k_is);(case b=>k_is);(case c=>k_is);(case d=>k_is)))
  case T|P=>
   constructor
   all_goals first
    |((with_reducible refine' Gp.gY ?a ?b ?c ?d);(case a=>k_is);(case b=>k_is);(case c=>k_is);(case d=>k_is))
    |((with_reducible refine' Gp.sA ?a);(case a=>k_is))
    |((with_reducible refine' Gp.rq ?a);(case a=>k_is))
    |((with_reducible refine' Gp.ot ?a);(case a=>k_is))
    |((with_reducible refine' Gp.oo ?a ?i ?b ?c ?d);(case a=>k_is);(case i=>k_is);(case b=>k_is);(case c=>k_is);(case d=>k_is))
    |((with_reducible refine' Gp.ro.mk ?a ?b ?c ?d ?e ?f ?g);(case a=>k_is);(case b=>k_is);(case c=>k_is);(case d=>k_is);(case e=>k_is);(case f=>k_is);(case g=>k_is))
    |((with_reducible refine' Gp.sr ?n ?t);(case n=>k_is);(case t=>(refine' Gp.dC ?l ?z ?v;(case l=>k_is);(case z=>decide);(case v=>repeat first|exact .nil|refine' Gp.eA ?_))))
    |((with_reducible refine' Gp.nc ?n ?l ?z ?r);(case n=>k_is);(case l=>k_is);(case z=>decide);(case r=>(repeat (refine' Gp.tN ?h ?_;(case h=>(refine' Gp.dC ?l ?z ?v;(case l=>k_is);(case z=>decide);(case v=>repeat first|exact .nil|refine' Gp.eA ?_)))));exact .nil))
    |((with_reducible refine' Gp.mV ?e ?l ?k ?r);(case e=>k_is);(case l=>k_is);(case k=>k_keys);(case r=>(repeat (refine' Gp.i6 ?h ?_;(case h=>(refine' Gp.uj ?x ?y ?z ?s;(case x=>k_is);(case y=>k_is);(case z=>decide);(case s=>(repeat (refine' Gp.uA ?f ?_;(case f=>(refine' Gp.dC ?l ?z ?v;(case l=>k_is);(case z=>decide);(case v=>repeat first|exact .nil|refine' Gp.eA ?_)))));exact .nil)))));exact .nil))
    |((with_reducible refine' Gp.vN ?e ?o ?l ?k);(case e=>k_is);(case l=>k_is);(case o=>decide);(case k=>((repeat (refine' Gp.kb ?h ?_;(case h=>exact rfl)));exact .nil)))
    |((with_reducible refine' Gp.oE ?e ?l ?k ?r);(case e=>k_is);(case l=>k_is);(case k=>k_keys);(case r=>((repeat (refine' Gp.nt ?h ?_;(case h=>(refine' Gp.tK ?x ?y;(case x=>k_is);(case y=>(refine' Gp.dC ?l ?z ?v;(case l=>k_is);(case z=>decide);(case v=>repeat first|exact .nil|refine' Gp.pR ?_)))))));exact .nil)))
    |((with_reducible refine' Gp.mZ ?e ?o ?l ?k ?r);(case e=>k_is);(case l=>k_is);(case o=>decide);(case k=>k_keys);(case r=>((repeat first|(refine' Gp.bU.no ?a ?b ?_;(case a=>decide);(case b=>k_is))|(refine' Gp.bU.yes ?a ?b ?_;(case a=>decide);(case b=>k_is)));exact .nil)))
    |((with_reducible refine' Gp.oG ?e ?l ?k ?r);(case e=>k_is);(case l=>k_is);(case k=>((repeat (refine' Gp.kK ?a ?b ?_;(case a=>exact rfl);(case b=>decide +kernel)));exact trivial));(case r=>(refine' Gp.vx ?a ?b ?c ?d;(case a=>exact rfl);(case b=>exact rfl);(case c=>exact rfl);(case d=>exact rfl))))
 case S=>
  intro K H xs a hO K0 K3 hx;cases hx with
  | cons h1 h2=>
   cases h2;cases h1 with
   | lst hs ha=>
    have e:=L2.mC a.1 _ ha;subst e;have q:((Codec.inLen 0 40000 a.1&&a.1.all (Codec.inInt 0 255))&&true)=true:=K0;rw[Gf,Gf]at q;have hb:=Gp.B9 q.1.2;have hl:a.1.length<=40000:=(Codec.inNat_iff.mp q.1.1).2;refine⟨_,Gp.pk a.1,Z,by rw[Gp.rG _ hb];exact hs,by rw[Gp.mq];exact hl,fun H' l _ hp=>?_⟩;rw[Gp.pL hb hl]at hp;exact .lst (L2.a'.of hp) (L2.mr _)

