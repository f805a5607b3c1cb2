import PyProof.Rows.All
import Wide.All
import OpenK.AllK
import Wide.FinOn
import PyProof.EqAt
import PyProof.EqKinds
import PyProof.TupleCall
import KE.BitLaws
import Open.SpecLaws
import KE.OsHead
import KE.OsGo
import GlaPage
import PySem.Challenge.RW_glasspages_s05_with_cartoon
open List renaming length_map→yc,getElem?_eq_getElem→yd,getElem?_map→yi,range→yj,mem_cons_of_mem→ym,size_toArray→yn,getElem_mem→yo,length_append→yt,length_cons→yx,mem_singleton→yy,length_take→yB,map_cons→yD,length_drop→yG,mem_cons_self→yI,mem_of_getElem?→yO,filter_cons_of_pos→yS,mem_append_right→yW,length_range→yZ,find?_eq_none→y6,mem_of_mem_erase→jd,filter_cons_of_neg→jf,length_erase_of_mem→jn,take_append_getElem→jo,getElem?_set_ne→jv,getElem?_set_self→jy,drop_eq_nil_of_le→jz,length_singleton→jG,getElem?_eq_none→jH,any_eq_false→jO,find?_cons→jQ,nodup_cons→jR,map_append→jS,all_cons→jV,map_take→jW,lookup_cons→jY,take_length→jZ,getD_eq_getElem?_getD→j4,contains_iff_mem→j6,getElem?_append_left→j8,pairwise_iff_getElem→j9,getElem_append_right→xc,range_succ→xf,foldl_cons→xg,append_assoc→xh,mem_of_mem_take→xk,any_cons→xr,all_eq_true→xu,drop_zero→xw,find?_eq_some_iff_getElem→xx,any_eq_true→xz,length_pos_of_mem→xG,append_nil→xM,map_drop→xO,lookup→xQ,mem_erase_of_ne→xR,filterMap_cons→xV,drop_succ_cons→xW,getElem?_take_of_lt→xZ,getElem_append_left→x3,mem_filter→x8,zip_cons_cons→Ga,any_map→Gh,nodup_append→Gi,getElem_take→Gj,take_eq_take_iff→Gv,getElem_inj→Gw,mem_append_left→GC,mem_zipIdx_iff_getElem?→GD,map_map→GH,getElem?_append_right→GM,drop_eq_getElem_cons→GR,getElem_drop→GT,ext_getElem→G5,getElem_map→G6,nodup_range→G7,map_nil→Ub,range_succ_eq_map→Uc,mem_map→Ud,getElem_cons_succ→Ue,of_mem_zip→Ul,length_set→Um,length_nil→Uo,mem_append→Up,mem_cons→Uw
open Nat renaming le_refl→yl,ne_of_lt→yr,lt_of_lt_of_le→yu,le_trans→yE,lt_of_le_of_lt→yF,zero_le→yM,ne_of_gt→ji,lt_irrefl→jx,lt_trichotomy→jP,lt_succ_of_lt→xm,le_add_right→xA,lt_or_ge→xH,min_eq_left→x9,add_sub_cancel→Gb,le_of_lt→Gk,le_of_succ_le→Gm,add_comm→Gn,le_of_eq→GJ,lt_trans→GK,lt_succ_self→G8,succ_ne_self→G9,sub_zero→Uf,one_mul→Ut
open Int renaming mul_nonpos_of_nonneg_of_nonpos→yL,mul_neg_of_pos_of_neg→yN,mul_nonneg_of_nonpos_of_nonpos→yP,mul_neg_of_neg_of_pos→jl,zero_mul→jA,natCast_add→jC,mul_nonneg→jN,natCast_mul→jT,mul_pos→jX,mul_nonpos_of_nonpos_of_nonneg→j5,mul_comm→xn,mul_sub→xD,mul_le_mul_of_nonneg_left→xE,mul_zero→xI,lt_or_gt_of_ne→xJ,toNat_natCast→xP,toNat_of_nonneg→xX,mul_assoc→x4,neg_mul→Gd,mul_left_comm→Go,mul_le_mul_of_nonneg_right→Gx,le_of_mul_le_mul_left→GS,sub_mul→GU,le_refl→GV,le_total→Ug
open Bool renaming and_eq_true→yk,eq_iff_iff→yw,false_ne_true→yJ,noConfusion→yT,or_eq_true→y8,true_and→jh,false_and→jp,false_eq_true→jI,or_eq_false_iff→xS,not_eq_false'→GO,not_eq_true'→GW,and_true→G1,not_not→Uh,false_or→Ux
open Option renaming map_none→jD,map_eq_none_iff→Gq,isSome_map→GX,getD_some→Ua
open Array renaming getD_eq_getD_getElem?→yA,getElem?_eq_getElem→jF,setIfInBounds→xY,contains_iff_mem→Gr,length_toList→GF,getElem?_replicate→G3,toList→UB
open Gla renaming num→z9,partsAt→yb,Bytes→ye,dir→yg,turn→yh,within→yz,noneSeen→yC,firstAt→yH,edgePts→yK,dx→yQ,dy→yR,le→yU,chained→yX,judgePlan→ja,crosses→jb,lineBelow→jq,shopParts→jr,firstBad→ju,isOn→jw,spread→jB,frameOk→jE,parts→jJ,linePlace→jK,WORKSHOP→jL,clear→j3,touches→xo,between→xp,ptPlace→xq,markPlace→xt,Kind→xB,badCoat→xF,sooner→xK,seenFrom→xL,half→xN,Workshop→xT,writeShop→x5,onLines→Ge,FRONT→Gf,cuts→Gs,twice→Gy,numLe→Gz,judgeShop→GA,lightBytes→GP,sheetAt→GY,writePlan→G4,insideOf→Ui,kindAt→Uj,MAGIC→Uu,Sheet→Uv,fromLeast→Uy,twiceArea→Uz,bounds→UA,HEAD→UC
open PySem.W renaming Frag→z8,mg_none_of→yV,keepIn→yY,findIn→y9,fnOf→jj,emptyDict→jm,nsIn→jM,instObj→jU,codeIn→xC,plainGet→xU,mg_of→x6,callWith_K→Gc,hasDictIn→Gu,kHook→GB,length_le_weightAllW→GE,plainGet_of→GG,isFn→GL,lookIn→GQ,methodObj→GZ,plainOver→G0,cellsFrom_some→Uk,takerIn→Uq,makesIn→Ur,methodCall_KW→Us
open PySem.F renaming plainAttrs_list→jg,slot_list_append→js,type_list_append→jt
open Classical renaming byContradiction→yf,choose_spec→j7,propDecidable→Gg
set_option Elab.async false
set_option linter.all false
set_option maxRecDepth 100000
namespace L2
open PySem PySem.Spec PyProof.Rows
abbrev Key:=Sum Int Str
def zd:Key→Value→Bool
 | .inl k,v=>Value.isInt k v
 | .inr x,v=>Value.isStrOf x v
def keyH(w:World):Key→Int
 | .inl k=>hashInt k
 | .inr x=>hashStr w x
theorem Q2:∀ {k:Key} {v:Value},zd k v=true→(∃ i t,k=Sum.inl i∧v=Value.int i t)∨(∃ x t,k=Sum.inr x∧v=Value.str x t)
 | .inl i,v,h=>by
  obtain⟨t,e⟩:=Value.isInt_shape (k:=i) (v:=v) h
  exact .inl ⟨i,t,rfl,e⟩
 | .inr x,v,h=>by
  obtain⟨t,e⟩:=Value.isStrOf_shape (x:=x) (v:=v) h
  exact .inr ⟨x,t,rfl,e⟩
theorem keyIs_int(i:Int)(t:Tok):zd (.inl i) (.int i t)=true:=by simp[zd,Value.isInt]
theorem keyIs_str(x:Str)(t:Tok):zd (.inr x) (.str x t)=true:=by simp[zd,Value.isStrOf]
theorem key_ll(a b:Int):decide ((Sum.inl a:Key)=Sum.inl b)=(a==b):=by
 by_cases e:a=b
 ·subst e;simp
 ·have h:¬ (Sum.inl a:Key)=Sum.inl b:=fun q=>e (Sum.inl.inj q)
  rw[decide_eq_false h]
  exact (beq_eq_false_iff_ne.mpr e).symm
theorem key_rr(a b:Str):decide ((Sum.inr a:Key)=Sum.inr b)=decide (a=b):=by
 by_cases e:a=b
 ·subst e;simp
 ·have h:¬ (Sum.inr a:Key)=Sum.inr b:=fun q=>e (Sum.inr.inj q)
  rw[decide_eq_false h,decide_eq_false e]
theorem key_lr(a:Int)(b:Str):decide ((Sum.inl a:Key)=Sum.inr b)=false:=decide_eq_false (fun q=>nomatch q)
theorem key_rl(a:Str)(b:Int):decide ((Sum.inr a:Key)=Sum.inl b)=false:=decide_eq_false (fun q=>nomatch q)
def Q8(prog : Program)(w : World) : PySem.KeyKind prog w Key where
  is := zd
  hash := keyH w
  inj := fun v a b ha hb => by
    rcases Q2 ha with ⟨i, t, rfl, rfl⟩ | ⟨x, t, rfl, rfl⟩
    · rcases Q2 hb with ⟨j, u, rfl, e⟩ | ⟨y, u, rfl, e⟩
      · injection e with e1 _; rw [e1]
      · exact nomatch e
    · rcases Q2 hb with ⟨j, u, rfl, e⟩ | ⟨y, u, rfl, e⟩
      · exact nomatch e
      · injection e with e1 _; rw [e1]
  byValue := fun k v h => by
    rcases Q2 h with ⟨i, t, rfl, rfl⟩ | ⟨x, t, rfl, rfl⟩ <;> rfl
  pyHash := fun hv h => by
    rcases Q2 hv with ⟨i, t, rfl, rfl⟩ | ⟨x, t, rfl, rfl⟩
    · exact wpAny_pyHash_int h
    · exact wpAny_pyHash_str h
  eqBool := fun hu hv h => by
    rcases Q2 hu with ⟨i, t, rfl, rfl⟩ | ⟨x, t, rfl, rfl⟩
    · rcases Q2 hv with ⟨j, u, rfl, rfl⟩ | ⟨y, u, rfl, rfl⟩
      · rw [key_ll] at h; exact wpAny_eqBool_int h
      · rw [key_lr] at h; exact SeqAt.EqAt.int_str i t y u _ _ _ _ h
    · rcases Q2 hv with ⟨j, u, rfl, rfl⟩ | ⟨y, u, rfl, rfl⟩
      · rw [key_rl] at h; exact SeqAt.EqAt.str_int x t j u _ _ _ _ h
      · rw [key_rr] at h; exact wpAny_eqBool_str h
  «strs» := fun k x t v h => by
    rcases Q2 h with ⟨i, u, rfl, e⟩ | ⟨y, u, rfl, e⟩
    · exact nomatch e
    · injection e with e1 _
      subst e1
      cases v <;> rfl
theorem mixKind_int(prog:Program)(w:World)(i:Int)(t:Tok):(Q8 prog w).is (.inl i) (.int i t)=true:=keyIs_int i t
theorem mixKind_str(prog:Program)(w:World)(x:Str)(t:Tok):(Q8 prog w).is (.inr x) (.str x t)=true:=keyIs_str x t
end L2
namespace L2
open PySem PySem.Spec PyProof.Rows
inductive V where
 | non | bl (b:Bool) | int (i:Int) | str (x:Str) | byt (b:Array UInt8) | flt (b:UInt64) | ref (a:Addr) | ty (n:String)
 deriving DecidableEq
def QT:V→Value→Prop
 | .non,u=>u=Value.none
 | .bl b,u=>u=Value.bool b
 | .int i,u=>∃ t,u=Value.int i t
 | .str x,u=>∃ t,u=Value.str x t
 | .byt b,u=>∃ t,u=Value.bytes b t
 | .flt b,u=>∃ t,u=Value.float b t
 | .ref a,u=>u=Value.ref a
 | .ty n,u=>u=Value.type n
abbrev QF:List V→List Value→Prop:=Paired QT
theorem QF.length{xs:List V}{us:List Value}(r:QF xs us):xs.length=us.length:=Paired.length r
theorem QF.get:∀ {xs:List V} {us:List Value} {i:Nat} {x:V},QF xs us→xs[i]?=some x→∃ u,us[i]?=some u∧QT x u
 | _,_,_,_,.nil,e=>by simp at e
 | _,_,0,_,.cons r _,e=>by simp at e;subst e;exact⟨_,rfl,r⟩
 | _,_,i+1,x,.cons _ t,e=>by
  obtain⟨u,h1,h2⟩:=QF.get (i:=i) (x:=x) t (by simpa using e)
  exact⟨u,by simpa using h1,h2⟩
theorem QF.append:∀ {xs ys:List V} {us ws:List Value},QF xs us→QF ys ws→QF (xs++ys) (us++ws)
 | _,_,_,_,.nil,s=>s
 | _,_,_,_,.cons r t,s=>.cons r (QF.append t s)
theorem QF.take:∀ {xs:List V} {us:List Value} (n:Nat),QF xs us→QF (xs.take n) (us.take n)
 | _,_,0,_=>.nil
 | _,_,_+1,.nil=>.nil
 | _,_,n+1,.cons r t=>.cons r (QF.take n t)
theorem QF.drop:∀ {xs:List V} {us:List Value} (n:Nat),QF xs us→QF (xs.drop n) (us.drop n)
 | _,_,0,r=>r
 | _,_,_+1,.nil=>.nil
 | _,_,n+1,.cons _ t=>QF.drop n t
theorem QF.none_of:∀ {xs:List V} {us:List Value} {i:Nat},QF xs us→xs[i]?=none→us[i]?=none:=fun {xs us i} r e=>by
 have h1:=r.length
 have h2:xs.length≤i:=List.getElem?_eq_none_iff.mp e
 exact List.getElem?_eq_none_iff.mpr (by omega)
def Yx:Option V→Option Value→Prop
 | some v,some u=>QT v u
 | none,none=>True
 | _,_=>False
def KV{κ:Type}:List (κ×V)→List (κ×Value)→Prop:=Paired fun (p:κ×V) (q:κ×Value)=>p.1=q.1∧QT p.2 q.2
def kV:Key→V
 | .inl i=>.int i
 | .inr x=>.str x
inductive HO where
 | lst (xs:List V)
 | tup (xs:List V)
 | dK (kvs:List (Key×V)) | dT (kvs:List (List Key×V))
 | set (S:Int→Bool) (n:Nat)
 | ins (C dx:Addr) (fs:List (Str×V))
 | own (x:Addr)
 | xd (fs:List (Str×V))
 | met (f x:Addr)
 | rng (lo hi:Int)
 | frz (o:Obj) (u:HO)
 | tbl (ps:Array Value)
 | ext (φ:Heap→Prop)
abbrev Hp:=Addr→Option HO
def upd(H:Hp)(a:Addr)(o:HO):Hp:=fun b=>if b=a then some o else H b
theorem Qh{H:Hp}{a:Addr}{o:HO}:upd H a o a=some o:=by unfold upd;rw[if_pos rfl]
theorem Qq{H:Hp}{a b:Addr}{o:HO}(h:b≠a):upd H a o b=H b:=by unfold upd;rw[if_neg h]
theorem q5{H:Hp}{a b:Addr}{o u:HO}(h:H a=some o)(h':H b=some u)(d:o≠u):a≠b:=by
 intro e;subst e;rw[h] at h';exact d (Option.some.inj h')
theorem Qn{H:Hp}{a b:Addr}{o:HO}(h:H a=some o)(h':H b=none):a≠b:=by
 intro e;subst e;rw[h] at h';cases h'
section
variable (P:Program) (w:World)
def Q3(H:Hp)(h:Heap)(a:Addr):HO→Prop
 | .lst xs=>xs.length≤sizeLine∧∃(its:List Value)(n:Nat),QF xs its∧h.get? a=some { cls:=.type "list",data:=.seq its.toArray n }
 | .tup xs=>xs.length≤sizeLine∧∃ its:List Value,QF xs its∧IsTup h a its.toArray
 | .dK kvs=>kvs.length≤sizeLine∧(a==sysModules)=false∧∃ vs,KV kvs vs∧h.DictOf (Q8 P w) a vs
 | .dT kvs=>kvs.length≤sizeLine∧(a==sysModules)=false∧∃ xs:List (List Key×Addr×Value),
   Paired (fun (p:List Key×V) (q:List Key×Addr×Value)=>p.1=q.1∧H q.2.1=some (.tup (p.1.map kV))∧QT p.2 q.2.2) kvs xs∧
   ∃ o es ep,h.get? a=some o∧o.ExactDict∧o.data=.dict es ep∧es.toList=xs.map (entryOfKey (tupleKind (Q8 P w)))∧(xs.map (·.1)).Nodup
 | .set S n=>h.SetOf (intKind P w) a S n
 | .ins C dx fs=>H dx=some (.own a)∧fs.length≤1000∧dx≠a∧h.get? a=some (jU C dx)∧
   ∃ mA,h.Ns1 dx mA∧(∀ f,Yx (fs.lookup f) (mA f))∧PySem.Within mA (fs.map (·.1))
 | .own _=>∃ o,h.get? a=some o
 | .xd fs=>∃ mA,h.Ns1 a mA∧∀ f,Yx (fs.lookup f) (mA f)
 | .rng lo hi=>∃ t u v,h.get? a=some { cls:=.type "range",data:=.fields #[.int lo t,.int hi u,.int 1 v] }
 | .frz o u=>h.get? a=some o∧Q3 H h a u
 | .tbl ps=>h.get? a=some { cls:=.none,data:=.fields ps }
 | .met f x=>h.get? a=some (GZ (.ref f) (.ref x))
 | .ext φ=>φ h∧(∃ o,h.get? a=some o)∧∀ h1 h2:Heap,φ h1→(∀ o,h1.get? a=some o→h2.get? a=some o)→φ h2
def HOk(H:Hp)(h:Heap):Prop:=∀ a o,H a=some o→Q3 P w H h a o
end
section
variable {P:Program} {w:World} {H H':Hp} {h h':Heap} {a:Addr} {o:HO}
theorem Q3.lt(x:Q3 P w H h a o):a<h.objs.size:=by
 cases o with
 | lst xs=>obtain⟨_,_,_,_,e⟩:=x;exact Heap.lt_size e
 | tup xs=>obtain⟨_,_,_,p⟩:=x;exact p.lt
 | dK kvs=>obtain⟨_,_,_,_,o,_,_,e,_⟩:=x;exact Heap.lt_size e
 | dT kvs=>obtain⟨_,_,_,_,o,_,_,e,_⟩:=x;exact Heap.lt_size e
 | set S n=>obtain⟨o,_,_,_,e,_⟩:=x;exact Heap.lt_size e
 | ins C dx fs=>obtain⟨_,_,_,e,_⟩:=x;exact Heap.lt_size e
 | own y=>obtain⟨_,e⟩:=x;exact Heap.lt_size e
 | xd fs=>obtain⟨_,⟨_,_,_,e,_⟩,_⟩:=x;exact Heap.lt_size e
 | rng lo hi=>obtain⟨_,_,_,e⟩:=x;exact Heap.lt_size e
 | frz ob u=>obtain⟨e,_⟩:=x;exact Heap.lt_size e
 | tbl ps=>exact Heap.lt_size (show h.get? a=some _ from x)
 | met f y=>exact Heap.lt_size (show h.get? a=some _ from x)
 | ext φ=>obtain⟨_,⟨_,e⟩,_⟩:=x;exact Heap.lt_size e
theorem Paired.mapP{α β:Type}{F G:α→β→Prop}:∀ {l₁:List α} {l₂:List β},Paired F l₁ l₂→(∀ a b,F a b→G a b)→Paired G l₁ l₂
 | _,_,.nil,_=>.nil
 | _,_,.cons r t,f=>.cons (f _ _ r) (Paired.mapP t f)
theorem Q3.stay(x:Q3 P w H h a o) (k:∀ b u,(b=a∨H b=some (.own a))→h.get? b=some u→h'.get? b=some u)
  (ho:∀ b,H b=some (.own a)→H' b=some (.own a)) (ht:∀ b xs,H b=some (.tup xs)→H' b=some (.tup xs)):Q3 P w H' h' a o:=by
 induction o with
 | lst xs=>obtain⟨z,its,n,r,e⟩:=x;exact⟨z,its,n,r,k _ _ (.inl rfl) e⟩
 | tup xs=>obtain⟨z,its,r,ob,e,c⟩:=x;exact⟨z,its,r,ob,k _ _ (.inl rfl) e,c⟩
 | dK kvs=>obtain⟨z,y,vs,r,ob,es,ep,e,c⟩:=x;exact⟨z,y,vs,r,ob,es,ep,k _ _ (.inl rfl) e,c⟩
 | dT kvs=>
  obtain⟨z,y,xs,r,ob,es,ep,e,c⟩:=x
  exact⟨z,y,xs,Paired.mapP r fun p q z=>⟨z.1,ht _ _ z.2.1,z.2.2⟩,ob,es,ep,k _ _ (.inl rfl) e,c⟩
 | set S n=>obtain⟨ob,es,ep,t,e,c⟩:=x;exact⟨ob,es,ep,t,k _ _ (.inl rfl) e,c⟩
 | ins C dx fs=>
  obtain⟨d,z,ne,e,mA,⟨od,es,ep,e2,c⟩,r⟩:=x
  exact⟨ho _ d,z,ne,k _ _ (.inl rfl) e,mA,⟨od,es,ep,k _ _ (.inr d) e2,c⟩,r⟩
 | own y=>obtain⟨ob,e⟩:=x;exact⟨ob,k _ _ (.inl rfl) e⟩
 | xd fs=>obtain⟨mA,⟨od,es,ep,e,c⟩,r⟩:=x;exact⟨mA,⟨od,es,ep,k _ _ (.inl rfl) e,c⟩,r⟩
 | rng lo hi=>obtain⟨t,u,v,e⟩:=x;exact⟨t,u,v,k _ _ (.inl rfl) e⟩
 | frz ob u ih=>obtain⟨e,q⟩:=x;exact⟨k _ _ (.inl rfl) e,ih q⟩
 | tbl ps=>
  have e:h.get? a=some { cls:=.none,data:=.fields ps }:=x
  show h'.get? a=some { cls:=.none,data:=.fields ps }
  exact k a _ (.inl rfl) e
 | met f y=>
  have e:h.get? a=some (GZ (.ref f) (.ref y)):=x
  show h'.get? a=some (GZ (.ref f) (.ref y))
  exact k a _ (.inl rfl) e
 | ext φ=>obtain⟨p,⟨o,e⟩,st⟩:=x;exact⟨st _ _ p fun o q=>k _ _ (.inl rfl) q,⟨o,k _ _ (.inl rfl) e⟩,st⟩
theorem HOk.lt(x:HOk P w H h)(e:H a=some o):a<h.objs.size:=(x a o e).lt
theorem HOk.fresh(x:HOk P w H h)(e:h.objs.size≤a):H a=none:=by
 cases q:H a with
 | none=>rfl
 | some u=>exact absurd (yu (x.lt q) e) (jx _)
theorem HOk.kept(x:HOk P w H h)(k:∀ b u,h.get? b=some u→h'.get? b=some u):HOk P w H h':=fun a o e=>
 (x a o e).stay (fun b u _ q=>k b u q) (fun _ q=>q) fun _ _ q=>q
theorem HOk.laid(x:HOk P w H h)(k:∀ b u,h.get? b=some u→h'.get? b=some u)(hp:h.objs.size≤a) (new:Q3 P w (upd H a o) h' a o):HOk P w (upd H a o) h':=fun b u e=>by
 have hn:=x.fresh hp
 by_cases hb:b=a
 ·subst hb;rw[Qh] at e;cases e;exact new
 ·rw[Qq hb] at e
  exact (x b u e).stay (fun c v _ q=>k c v q) (fun c q=>by rw[Qq (Qn q hn)];exact q) fun c xs q=>by rw[Qq (Qn q hn)];exact q
end
def Rd(H:Hp)(a:Addr)(u:HO):Prop:=H a=some u∨∃ o,H a=some (.frz o u)
theorem Rd.ok{P:Program}{w:World}{H:Hp}{h:Heap}{a:Addr}{u:HO}(r:Rd H a u)(x:HOk P w H h):Q3 P w H h a u:=by
 rcases r with r | ⟨o,r⟩
 ·exact x a u r
 ·obtain⟨_,q⟩:=x a _ r
  exact q
def Mut:Option HO→Prop
 | some (.lst _)=>True
 | some (.dK _)=>True
 | some (.dT _)=>True
 | some (.set _ _)=>True
 | some (.ins _ _ _)=>True
 | some (.ext _)=>True
 | _=>False
section
variable {P:Program} {w:World} {H:Hp} {h h':Heap} {x e:Addr} {o':HO}
theorem HOk.write(ok:HOk P w H h) (mu:Mut (H x)) (he:e=x∨H e=some (.own x)) (k:∀ b u,b≠e→h.get? b=some u→h'.get? b=some u) (heo:∃ u,h'.get? e=some u)
  (new:Q3 P w (upd H x o') h' x o'):HOk P w (upd H x o') h':=fun b u q=>by
 have nown:∀ c y,H c=some (.own y)→c≠x:=fun c y r z=>by subst z;rw[r] at mu;exact mu
 have ntup:∀ c xs,H c=some (.tup xs)→c≠x:=fun c xs r z=>by subst z;rw[r] at mu;exact mu
 by_cases hb:b=x
 ·subst hb;rw[Qh] at q;cases q;exact new
 ·rw[Qq hb] at q
  by_cases hbe:b=e
  ·have q':H b=some (.own x):=by
    rcases he with z | z
    ·exact absurd (hbe.trans z) hb
    ·rw[hbe];exact z
   rw[q] at q';cases q'
   obtain⟨v,hv⟩:=heo
   exact⟨v,by rw[hbe];exact hv⟩
  ·refine (ok b u q).stay (fun c v hc r=>k c v ?_ r) (fun c r=>by rw[Qq (nown c b r)];exact r) fun c xs r=>by rw[Qq (ntup c xs r)];exact r
   rcases hc with rfl | hc
   ·exact hbe
   ·rintro rfl
    rcases he with z | z
    ·exact nown c b hc z
    ·rw[hc] at z;cases z;exact hb rfl
end
structure Un(fs ex:List Addr)(H H':Hp)(h h':Heap):Prop where
 keep:∀ b o,h.get? b=some o→H b=none→b∉fs→b∉ex→h'.get? b=some o
 slot:∀ b o,h.get? b=some o→H b=none→b∈fs→b∉ex→∃ sl,h'.get? b=some { o with slots:=sl }
 free:∀ b o,h.get? b=some o→H b=none→b∉ex→H' b=none
 there:∀ b o,h.get? b=some o→b∉ex→∃ o',h'.get? b=some o'
 tups:∀ b xs,H b=some (.tup xs)→H' b=some (.tup xs)
 frzs:∀ b o u,H b=some (.frz o u)→H' b=some (.frz o u)
 tbls:∀ b ps,H b=some (.tbl ps)→∃ more,H' b=some (.tbl (ps++more))
section
variable {fs fs' ex ex':List Addr} {H H1 H2:Hp} {h h1 h2 h':Heap} {a x e:Addr} {o:HO}
theorem Un.any(u:Un fs ex H H1 h h1){b:Addr}{ob:Obj}(q:h.get? b=some ob)(n:H b=none)(hx:b∉ex):∃ sl,h1.get? b=some { ob with slots:=sl }:=by
 by_cases hb:b∈fs
 ·exact u.slot b ob q n hb hx
 ·exact⟨ob.slots,u.keep b ob q n hb hx⟩
theorem Un.trans(a:Un fs ex H H1 h h1)(b:Un fs ex H1 H2 h1 h2):Un fs ex H H2 h h2 where
 keep:=fun c ob q n hc hx=>b.keep c ob (a.keep c ob q n hc hx) (a.free c ob q n hx) hc hx
 slot:=fun c ob q n hc hx=>by
  obtain⟨sl,e1⟩:=a.slot c ob q n hc hx
  obtain⟨sl',e2⟩:=b.slot c _ e1 (a.free c ob q n hx) hc hx
  exact⟨sl',e2⟩
 free:=fun c ob q n hx=>by
  obtain⟨o',e1⟩:=a.there c ob q hx
  exact b.free c o' e1 (a.free c ob q n hx) hx
 there:=fun c ob q hx=>by
  obtain⟨o',e1⟩:=a.there c ob q hx
  exact b.there c o' e1 hx
 tups:=fun c xs q=>b.tups c xs (a.tups c xs q)
 frzs:=fun c ob xs q=>b.frzs c ob xs (a.frzs c ob xs q)
 tbls:=fun c ps q=>by
  obtain⟨m1,e1⟩:=a.tbls c ps q
  obtain⟨m2,e2⟩:=b.tbls c _ e1
  exact⟨m1++m2,by rw[e2,Array.append_assoc]⟩
theorem Un.kept(k:∀ b u,h.get? b=some u→h'.get? b=some u):Un fs ex H H h h':=
 ⟨fun b ob q _ _ _=>k b ob q,fun b ob q _ _ _=>⟨ob.slots,k b ob q⟩,fun _ _ _ n _=>n,fun b ob q _=>⟨ob,k b ob q⟩,fun _ _ q=>q,fun _ _ _ q=>q,fun _ ps q=>⟨#[],by rw[q];simp⟩⟩
theorem Un.refl:Un fs ex H H h h:=Un.kept fun _ _ q=>q
theorem Un.laid(k:∀ b u,h.get? b=some u→h'.get? b=some u)(hp:h.objs.size≤a)(hn:H a=none):Un fs ex H (upd H a o) h h' where
 keep:=fun b u q _ _ _=>k b u q
 slot:=fun b u q _ _ _=>⟨u.slots,k b u q⟩
 free:=fun b u q n _=>by rw[Qq (yr (yu (Heap.lt_size q) hp))];exact n
 there:=fun b u q _=>⟨u,k b u q⟩
 tups:=fun b xs q=>by rw[Qq (Qn q hn)];exact q
 frzs:=fun b u xs q=>by rw[Qq (Qn q hn)];exact q
 tbls:=fun b ps q=>⟨#[],by rw[Qq (Qn q hn),q];simp⟩
theorem Un.write (mu:Mut (H x)) (he:e=x∨H e=some (.own x)) (k:∀ b u,b≠e→h.get? b=some u→h'.get? b=some u) (heo:∃ u,h'.get? e=some u):Un fs ex H (upd H x o) h h':=by
 have hx:∀ b,H b=none→b≠x:=fun b n z=>by subst z;rw[n] at mu;exact mu
 have hb:∀ b,H b=none→b≠e:=fun b n z=>by
  subst z
  rcases he with r | r
  ·exact hx b n r
  ·rw[n] at r;cases r
 have hm:∀ b u,H b=some u→¬ Mut (some u)→b≠x:=fun b u q nm z=>by subst z;rw[q] at mu;exact nm mu
 refine⟨fun b u q n _ _=>k b u (hb b n) q,fun b u q n _ _=>⟨u.slots,k b u (hb b n) q⟩,fun b u q n _=>by rw[Qq (hx b n)];exact n,fun b u q _=>?_,
  fun b xs q=>by rw[Qq (hm b _ q fun z=>z)];exact q,fun b u xs q=>by rw[Qq (hm b _ q fun z=>z)];exact q,fun b ps q=>⟨#[],by rw[Qq (hm b _ q fun z=>z),q];simp⟩⟩
 by_cases hbe:b=e
 ·subst hbe;exact heo
 ·exact⟨u,k b u hbe q⟩
theorem Un.mono(u:Un fs ex H H1 h h1)(hs:∀ b∈fs,b∈fs')(hx:∀ b∈ex,b∈ex'):Un fs' ex' H H1 h h1:=
 ⟨fun b ob q n hb he=>u.keep b ob q n (fun z=>hb (hs b z)) fun z=>he (hx b z),fun _ _ q n _ he=>u.any q n fun z=>he (hx _ z),fun b ob q n he=>u.free b ob q n fun z=>he (hx b z),fun b ob q he=>u.there b ob q fun z=>he (hx b z),u.tups,u.frzs,u.tbls⟩
end
def trk(h:Heap)(H:Hp):List Addr:=(yj h.objs.size).filter fun a=>(H a).isSome
def zQ(h:Heap)(H:Hp):Heap:=PySem.W.hideAll h (trk h H)
theorem hidT_size(h:Heap)(H:Hp):(zQ h H).objs.size=h.objs.size:=PySem.W.hideAll_size _ _
theorem hidT_get{h:Heap}{H:Hp}{b:Addr}{o:Obj}(e:h.get? b=some o)(n:H b=none):(zQ h H).get? b=some o:=
 PySem.W.hideAll_get _ e fun hm=>by
  have q:(H b).isSome=true:=(List.mem_filter.mp hm).2
  rw[n] at q;simp at q
theorem of_hidT{h:Heap}{H:Hp}{b:Addr}{o:Obj} (e:(zQ h H).get? b=some o):h.get? b=some o∧H b=none:=by
 have e':h.get? b=some o:=PySem.W.of_hideAll (trk h H) e
 refine⟨e',?_⟩
 cases q:H b with
 | none=>rfl
 | some x=>
  have hm:b∈trk h H:=List.mem_filter.mpr ⟨List.mem_range.mpr (Heap.lt_size e'),by simp[q]⟩
  have z:(zQ h H).get? b=none:=PySem.W.hideAll_none (trk h H) hm
  rw[z] at e;cases e
def allNews(g h:Heap)(L:Addr):List (Addr×Obj):=(yj h.objs.size).filterMap fun a=>if a=L∨(g.get? a).isSome=true then none else (h.get? a).map fun o=>(a,o)
def YL(g h:Heap)(L d:Addr):List (Addr×Obj):=(allNews g h L).filter fun p=>decide (p.1≠d)
end L2
namespace L2
open PySem PySem.Spec PyProof.Rows
structure Mod(K:z8)(mg:Str→Option Value)(base:Heap):Prop where
 kin:K.In base
 glob:base.Ns mainGlobals mg
 blt:∃ mb,base.Ns builtinsNs mb∧∀ x:Str,x ≠ "__name__" → mb x=bootBuiltins x
 nolimit:base.NoLimit
structure Cx where
 prog:Program
 w:World
 K:z8
 mg:Str→Option Value
 base:Heap
 A:Around
 N:List Str
 s_0:Shared
 H_0:Hp
 env:Env
 outer:List Env
 stack:List Env
 ex:List Addr
 fn:Str→Bool
 calm:Bool
 pn:List (Addr×Obj)
 xe:Value→Shared→Prop
def frs(l:List Env):List Addr:=l.filterMap (·.frame)
abbrev Cx.fs(X:Cx):List Addr:=frs X.outer
def Vis(sc:Scope)(x:Str):Prop:=sc.names.lookup x=some .local∨sc.names.lookup x=some .cell∨sc.names.lookup x=some .free
def Loc(sc:Scope)(x:Str):Prop:=sc.names.lookup x=some .local∨sc.names.lookup x=some .cell
def Look(env:Env)(h:Heap)(m:Str→Option Value)(x:Str)(u:Value):Prop:=
 (env.kindOf x=some .local∧m x=some u)∨((env.kindOf x=some .cell∨env.kindOf x=some .free)∧∃ c,env.cells.lookup x=some c∧h.IsCell c (some u))
structure Cx.Ok(X:Cx):Prop where
 mod:Mod X.K X.mg X.base
 kind:X.env.scope.kind=.function
 glob:X.env.globals=mainGlobals
 blt:X.env.builtins=builtinsNs
 above:X.s_0.heap.objs.size≤X.env.locals
 inj:∀ x y c,X.env.cells.lookup x=some c→X.env.cells.lookup y=some c→x=y
 has:∀ x,(X.env.kindOf x=some .cell∨X.env.kindOf x=some .free)→∃ c,X.env.cells.lookup x=some c
 cab:∀ x c,X.fn x=true→X.env.cells.lookup x=some c→X.s_0.heap.objs.size≤c
 hd:X.calm=true→X.A.handled=none
 frames:X.A.frames=some X.stack
 stk:X.stack=X.outer∨(X.stack=X.env::X.outer∧X.env.frame=some X.env.locals)
 exf:∀ b∈X.ex,b≠X.env.locals∧∀ x c,X.env.cells.lookup x=some c→c≠b
 bs:∀ b o,X.base.get? b=some o→X.s_0.heap.get? b=some o∧X.H_0 b=none
 bsz:X.base.objs.size≤X.s_0.heap.objs.size
 noex:∀ b o,X.base.get? b=some o→b∉X.ex
 exfs:∀ b∈X.ex,b∉X.fs
 funs:X.s_0.heap.FunFrames X.base X.outer
 frf:∀ b∈X.fs,X.H_0 b=none
structure Inv(X:Cx) (pins:List (Addr×Obj)) (σ:List (Option V)) (H:Hp) (s:Shared):Prop where
 ok:X.Ok
 os:s.os=X.s_0.os
 bare:AllBare s.gens
 base:Un X.fs X.ex X.H_0 H X.s_0.heap s.heap
 loc:∃ m,s.heap.Ns X.env.locals m∧∀(i:Nat)(x:Str)(v:V),X.N[i]?=some x→σ[i]?=some (some v)→Vis X.env.scope x→∃ u,QT v u∧Look X.env s.heap m x u
 cell:∀ x c,X.env.cells.lookup x=some c→∃ v,s.heap.IsCell c v
 free:H X.env.locals=none
 freeC:∀ x c,X.env.cells.lookup x=some c→H c=none
 pin:∀ p∈X.pn++pins,s.heap.get? p.1=some p.2∧H p.1=none∧p.1≠X.env.locals∧p.1∉X.fs∧∀ v,p.2.data≠.cell v
 hok:HOk X.prog X.w H s.heap
 len:σ.length=X.N.length
section
variable {X:Cx} {pins:List (Addr×Obj)} {σ:List (Option V)} {H H':Hp} {s:Shared} {h':Heap}
theorem Cx.Ok.nofr(ok:X.Ok){b:Addr}{o:Obj}(e:X.base.get? b=some o):b∉X.fs:=fun hb=>by
 have:=(ok.funs.mem hb).1
 rw[e] at this;cases this
theorem Inv.bs(I:Inv X pins σ H s):∀ b o,X.base.get? b=some o→s.heap.get? b=some o∧H b=none:=fun b o e=>
 ⟨I.base.keep b o (I.ok.bs b o e).1 (I.ok.bs b o e).2 (I.ok.nofr e) (I.ok.noex b o e),I.base.free b o (I.ok.bs b o e).1 (I.ok.bs b o e).2 (I.ok.noex b o e)⟩
theorem Inv.bk(I:Inv X pins σ H s):∀ b o,X.base.get? b=some o→s.heap.get? b=some o:=fun b o e=>(I.bs b o e).1
theorem Inv.mod(I:Inv X pins σ H s):Mod X.K X.mg X.base:=I.ok.mod
theorem Inv.kIn(I:Inv X pins σ H s):X.K.In s.heap:=I.ok.mod.kin.keeps I.bk
theorem Inv.nolimit(I:Inv X pins σ H s):s.heap.NoLimit:=I.ok.mod.nolimit.keeps I.bk
theorem Inv.lt(I:Inv X pins σ H s):X.env.locals<s.heap.objs.size:=let ⟨_,hn,_⟩:=I.loc;hn.lt
theorem Inv.sz(I:Inv X pins σ H s):X.s_0.heap.objs.size≤s.heap.objs.size:=yE I.ok.above (Gk I.lt)
theorem Inv.nofs(I:Inv X pins σ H s){a:Addr}(h:s.heap.objs.size≤a):a∉X.fs:=fun hb=>by
 obtain⟨_,o,ho,_⟩:=I.ok.funs.mem hb
 exact absurd (yu (Heap.lt_size ho) (yE I.sz h)) (jx _)
theorem Inv.cne(I:Inv X pins σ H s):∀ x c,X.env.cells.lookup x=some c→c≠X.env.locals:=fun x c e z=>by
 obtain⟨v,o,ho,hd⟩:=I.cell x c e
 obtain⟨m,⟨o',es,ep,ho',hd',_⟩,_⟩:=I.loc
 rw[z,ho'] at ho;cases ho;rw[hd'] at hd;cases hd
theorem Inv.funs(I:Inv X pins σ H s):s.heap.FunFrames X.base X.outer:=by
 have all:∀(l:List Env),(∀ b∈frs l,b∈X.fs)→X.s_0.heap.FunFrames X.base l→s.heap.FunFrames X.base l:=by
  intro l
  induction l with
  | nil=>intro _ _;trivial
  | cons env r ih=>
   intro hs hl
   obtain⟨hk,⟨L,o,hf,hn,ho,hd⟩,hr⟩:=hl
   have hL:L∈X.fs:=hs L (by unfold frs;rw[xV,hf];exact yI)
   obtain⟨sl,e⟩:=I.base.slot L o ho (I.ok.frf L hL) hL fun z=>I.ok.exfs L z hL
   exact⟨hk,⟨L,_,hf,hn,e,hd⟩,ih (fun b hb=>hs b (by unfold frs;rw[xV,hf];exact ym _ hb)) hr⟩
 exact all X.outer (fun _ hb=>hb) I.ok.funs
theorem Inv.stack(I:Inv X pins σ H s):s.heap.FunFrames X.base X.stack:=by
 rcases I.ok.stk with e | ⟨e,hf⟩
 ·rw[e];exact I.funs
 ·rw[e]
  obtain⟨m,hn,_⟩:=I.loc
  refine .cons (by rw[I.ok.kind];decide) hf hn ?_ I.funs
  exact Heap.get?_none_of_le (yE I.ok.bsz I.ok.above)
theorem Inv.stkSub(I:Inv X pins σ H s):∀ b∈frs X.stack,b∈X.env.locals::X.fs:=fun b hb=>by
 rcases I.ok.stk with e | ⟨e,hf⟩
 ·rw[e] at hb;exact ym _ hb
 ·rw[e] at hb
  unfold frs at hb
  rw[xV,hf] at hb
  exact hb
theorem Inv.stkFree(I:Inv X pins σ H s):∀ b∈frs X.stack,H b=none:=fun b hb=>by
 rcases List.mem_cons.mp (I.stkSub b hb) with e | hb
 ·rw[e];exact I.free
 ·obtain⟨_,o,ho,_⟩:=I.ok.funs.mem hb
  exact I.base.free b o ho (I.ok.frf b hb) fun z=>I.ok.exfs b z hb
theorem Inv.step{g':Array GenState}{t':Nat}{d':Drawn}{ch:List Addr}(I:Inv X pins σ H s)
  (hch:∀ b∈ch,(b∈X.ex∨X.s_0.heap.objs.size≤b)∧b≠X.env.locals∧(∀ x c,X.env.cells.lookup x=some c→c≠b)∧∀ p∈X.pn++pins,p.1≠b)
  (keep:∀ b o,b≠X.env.locals→b∉X.fs→b∉ch→s.heap.get? b=some o→H b=none→h'.get? b=some o)
  (slot:∀ b o,b≠X.env.locals→b∈X.fs→b∉ch→s.heap.get? b=some o→H b=none→∃ sl,h'.get? b=some { o with slots:=sl }) (free:∀ b o,b∉ch→s.heap.get? b=some o→H b=none→H' b=none)
  (there:∀ b o,b∉ch→s.heap.get? b=some o→∃ o',h'.get? b=some o')
  (tups:∀ b xs,H b=some (.tup xs)→H' b=some (.tup xs)) (frzs:∀ b o u,H b=some (.frz o u)→H' b=some (.frz o u)) (tbls:∀ b ps,H b=some (.tbl ps)→∃ more,H' b=some (.tbl (ps++more)))
  (ns:∀ m,s.heap.Ns X.env.locals m→h'.Ns X.env.locals m) (hok:HOk X.prog X.w H' h') (hg:AllBare g') :
  Inv X pins σ H' { s with heap:=h',gens:=g',drawn:=d',toks:=t' }:=by
 have neL:∀ b o,X.s_0.heap.get? b=some o→b≠X.env.locals:=fun b o e=>yr (yu (Heap.lt_size e) I.ok.above)
 have neC:∀ b o,X.s_0.heap.get? b=some o→b∉X.ex→b∉ch:=fun b o e hx hb=>by
  rcases (hch b hb).1 with z | z
  ·exact hx z
  ·exact absurd (yu (Heap.lt_size e) z) (jx _)
 have cellK:∀ x c,X.env.cells.lookup x=some c→∀ v,s.heap.IsCell c v→h'.IsCell c v:=fun x c e v ⟨o,ho,hd⟩=>by
  have nch:c∉ch:=fun z=>(hch c z).2.2.1 x c e rfl
  by_cases hc:c∈X.fs
  ·obtain⟨sl,q⟩:=slot c o (I.cne x c e) hc nch ho (I.freeC x c e)
   exact⟨_,q,hd⟩
  ·exact⟨o,keep c o (I.cne x c e) hc nch ho (I.freeC x c e),hd⟩
 refine⟨I.ok,I.os,hg,⟨fun b o e n hb hx=>?_,fun b o e n hb hx=>?_,fun b o e n hx=>?_,fun b o e hx=>?_,fun b xs e=>tups b xs (I.base.tups b xs e),fun b o xs e=>frzs b o xs (I.base.frzs b o xs e),fun b ps e=>?_⟩,?_,fun x c e=>?_,?_,fun x c e=>?_,fun p hp=>?_,hok,I.len⟩
 ·exact keep b o (neL b o e) hb (neC b o e hx) (I.base.keep b o e n hb hx) (I.base.free b o e n hx)
 ·obtain⟨sl,e1⟩:=I.base.slot b o e n hb hx
  obtain⟨sl',e2⟩:=slot b _ (neL b o e) hb (neC b o e hx) e1 (I.base.free b o e n hx)
  exact⟨sl',e2⟩
 ·obtain⟨o',e1⟩:=I.base.there b o e hx
  exact free b o' (neC b o e hx) e1 (I.base.free b o e n hx)
 ·obtain⟨o',e1⟩:=I.base.there b o e hx
  exact there b o' (neC b o e hx) e1
 ·obtain⟨m1,e1⟩:=I.base.tbls b ps e
  obtain⟨m2,e2⟩:=tbls b _ e1
  exact⟨m1++m2,by rw[e2,Array.append_assoc]⟩
 ·obtain⟨m,hn,hl⟩:=I.loc
  refine⟨m,ns m hn,fun i x v e1 e2 e3=>?_⟩
  obtain⟨u,r,l⟩:=hl i x v e1 e2 e3
  refine⟨u,r,?_⟩
  rcases l with l | ⟨k,c,e,z⟩
  ·exact .inl l
  ·exact .inr ⟨k,c,e,cellK x c e _ z⟩
 ·obtain⟨v,z⟩:=I.cell x c e
  exact⟨v,cellK x c e v z⟩
 ·obtain⟨m,⟨o,_,_,ho,_⟩,_⟩:=I.loc
  exact free _ o (fun z=>(hch _ z).2.1 rfl) ho I.free
 ·obtain⟨v,o,ho,hd⟩:=I.cell x c e
  exact free c o (fun z=>(hch c z).2.2.1 x c e rfl) ho (I.freeC x c e)
 ·obtain⟨e,n,ne,nf,d⟩:=I.pin p hp
  have nch:p.1∉ch:=fun z=>(hch p.1 z).2.2.2 p hp rfl
  exact⟨keep p.1 p.2 ne nf nch e n,free p.1 p.2 nch e n,ne,nf,d⟩
theorem Inv.un{t':Nat}(I:Inv X pins σ H s)(u:Un X.fs [] H H' s.heap h')(hok:HOk X.prog X.w H' h'):Inv X pins σ H' { s with heap:=h',toks:=t' }:=by
 obtain⟨m,⟨o,es,ep,ho,r⟩,_⟩:=id I.loc
 obtain⟨sl,hL⟩:=u.any ho I.free (by simp)
 exact I.step (g':=s.gens) (d':=s.drawn) (ch:=[]) (fun _ z=>nomatch z) (fun b o _ hb _ e n=>u.keep b o e n hb (by simp)) (fun b o _ hb _ e n=>u.slot b o e n hb (by simp)) (fun b o _ e n=>u.free b o e n (by simp)) (fun b o _ e=>u.there b o e (by simp)) u.tups u.frzs u.tbls (fun m' hm=>by
  obtain⟨o',es',ep',ho',r'⟩:=hm
  rw[ho] at ho';cases ho'
  exact⟨_,es',ep',hL,r'⟩) hok I.bare
theorem Inv.call{g':Array GenState}{t':Nat}{d':Drawn}{ch:List Addr}(I:Inv X pins σ H s) (u:Un (frs X.stack) ch H H' s.heap h') (hok:HOk X.prog X.w H' h') (hg:AllBare g')
  (hch:∀ b∈ch,(b∈X.ex∨X.s_0.heap.objs.size≤b)∧b≠X.env.locals∧(∀ x c,X.env.cells.lookup x=some c→c≠b)∧∀ p∈X.pn++pins,p.1≠b) :
  Inv X pins σ H' { s with heap:=h',gens:=g',drawn:=d',toks:=t' }:=by
 obtain⟨m,⟨o,es,ep,ho,r⟩,_⟩:=id I.loc
 obtain⟨sl,hL⟩:=u.any ho I.free fun z=>(hch _ z).2.1 rfl
 exact I.step (ch:=ch) hch (fun b o hL hb hc e n=>u.keep b o e n (fun z=>(List.mem_cons.mp (I.stkSub b z)).elim hL hb) hc) (fun b o _ _ hc e n=>u.any e n hc) (fun b o hc e n=>u.free b o e n hc) (fun b o hc e=>u.there b o e hc) u.tups u.frzs u.tbls (fun m' hm=>by
  obtain⟨o',es',ep',ho',r'⟩:=hm
  rw[ho] at ho';cases ho'
  exact⟨_,es',ep',hL,r'⟩) hok hg
theorem Inv.turned{t':Nat}{it:Addr}(I:Inv X pins σ H s)(k:∀ b o,b≠it→s.heap.get? b=some o→h'.get? b=some o)(hn:H it=none)(hL:it≠X.env.locals)
  (h1:it∈X.ex∨X.s_0.heap.objs.size≤it) (h2:∀ x c,X.env.cells.lookup x=some c→c≠it) (h3:∀ p∈X.pn++pins,p.1≠it):Inv X pins σ H { s with heap:=h',toks:=t' }:=by
 have nit:∀ b u,H b=some u→b≠it:=fun b u e z=>by rw[z,hn] at e;cases e
 refine I.step (g':=s.gens) (d':=s.drawn) (ch:=[it]) (fun b hb=>?_) (fun b o _ _ hc e _=>k b o (fun z=>hc (by simp[z])) e) (fun b o _ _ hc e _=>⟨o.slots,k b o (fun z=>hc (by simp[z])) e⟩) (fun _ _ _ _ n=>n)
  (fun b o hc e=>⟨o,k b o (fun z=>hc (by simp[z])) e⟩) (fun _ _ e=>e) (fun _ _ _ e=>e) (fun b ps e=>⟨#[],by rw[e];simp⟩) (fun m hm=>?_) (fun b u e=>?_) I.bare
 ·have e:b=it:=by simpa using hb
  subst e
  exact⟨h1,hL,h2,h3⟩
 ·obtain⟨o,es,ep,ho,r⟩:=hm
  exact⟨o,es,ep,k _ o (Ne.symm hL) ho,r⟩
 ·refine (I.hok b u e).stay (fun c v hc q=>k c v ?_ q) (fun _ q=>q) fun _ _ q=>q
  rcases hc with z | z
  ·rw[z];exact nit b u e
  ·exact nit c _ z
theorem Inv.tok(I:Inv X pins σ H s)(t:Nat):Inv X pins σ H { s with toks:=t }:=I.un (h':=s.heap) (t':=t) Un.refl I.hok
theorem Inv.kept{t':Nat}(I:Inv X pins σ H s)(k:∀ b u,s.heap.get? b=some u→h'.get? b=some u):Inv X pins σ H { s with heap:=h',toks:=t' }:=I.un (Un.kept k) (I.hok.kept k)
theorem Inv.laid{a:Addr}{o:HO}{t':Nat}(I:Inv X pins σ H s)(k:∀ b u,s.heap.get? b=some u→h'.get? b=some u)(hp:s.heap.objs.size≤a) (new:Q3 X.prog X.w (upd H a o) h' a o) :
  Inv X pins σ (upd H a o) { s with heap:=h',toks:=t' }:=I.un (Un.laid k hp (I.hok.fresh hp)) (I.hok.laid k hp new)
theorem Inv.write{x e:Addr}{o:HO}{t':Nat}(I:Inv X pins σ H s) (mu:Mut (H x)) (he:e=x∨H e=some (.own x)) (k:∀ b u,b≠e→s.heap.get? b=some u→h'.get? b=some u) (heo:∃ u,h'.get? e=some u)
  (new:Q3 X.prog X.w (upd H x o) h' x o):Inv X pins σ (upd H x o) { s with heap:=h',toks:=t' }:=I.un (Un.write mu he k heo) (I.hok.write mu he k heo new)
theorem Inv.weak {σ':List (Option V)} (I:Inv X pins σ H s) (hl:σ'.length=σ.length) (w:∀ (i:Nat) v,σ'[i]?=some (some v)→σ[i]?=some (some v)):Inv X pins σ' H s:=
 ⟨I.ok,I.os,I.bare,I.base,let ⟨m,hn,hl'⟩:=I.loc;⟨m,hn,fun i x v e1 e2 e3=>hl' i x v e1 (w i v e2) e3⟩,I.cell,I.free,I.freeC,I.pin,I.hok,hl.trans I.len⟩
theorem Inv.pins_of {pins':List (Addr×Obj)} (I:Inv X pins σ H s) (h:∀ p∈pins',s.heap.get? p.1=some p.2∧H p.1=none∧p.1≠X.env.locals∧p.1∉X.fs∧∀ v,p.2.data≠.cell v):Inv X pins' σ H s:=
 ⟨I.ok,I.os,I.bare,I.base,I.loc,I.cell,I.free,I.freeC,fun p hp=>(List.mem_append.mp hp).elim (fun z=>I.pin p (GC _ z)) (h p),I.hok,I.len⟩
theorem qe{N:List Str}(hN:N.Nodup){i j:Nat}{x:Str}(a:N[i]?=some x)(b:N[j]?=some x):i=j:=by
 obtain⟨h1,e1⟩:=List.getElem?_eq_some_iff.mp a
 obtain⟨h2,e2⟩:=List.getElem?_eq_some_iff.mp b
 exact (Gw hN).mp (e1.trans e2.symm)
theorem qO{M:Model}{A:Around}{E:Value→Shared→Prop}{i:Nat}{x:Str}{v:V}{u:Value}{Q:Unit→Shared→Prop}(I:Inv X pins σ H s)(hN:X.N.Nodup)(hi:X.N[i]?=some x)(hx:Loc X.env.scope x)(r:QT v u)
  (h:∀ s',Inv X pins (σ.set i (some v)) H s'→(∃ a,Heap.SameBut a s.heap s'.heap∧(a=X.env.locals∨X.env.cells.lookup x=some a))→Q () s') (hf:X.fn x=true∨X.env.scope.names.lookup x=some .local:=by first | exact .inl rfl | exact .inr rfl | assumption):wpAny M A (storeName X.env x u) Q E s:=by
 obtain⟨m,hn,hl⟩:=id I.loc
 have hcls:(X.env.scope.kind==.class || (X.env.scope.kind==.module&&X.env.locals != X.env.globals))=false:=by rw[I.ok.kind];rfl
 have hiσ:i<σ.length:=by rw[I.len];exact (List.getElem?_eq_some_iff.mp hi).1
 have cne:=I.cne
 have tracked:∀ {a:Addr} {h':Heap},(∃ o,s.heap.get? a=some o∧H a=none)→Heap.SameBut a s.heap h'→HOk X.prog X.w H h':=fun {a h'} ha hs b ob e=>by
  obtain⟨_,_,hfree⟩:=ha
  refine (I.hok b ob e).stay (fun c w' hc q=>(hs.2 c ?_).trans q) (fun _ q=>q) fun _ _ q=>q
  rintro rfl
  rcases hc with rfl | hc
  ·rw[hfree] at e;cases e
  ·rw[hfree] at hc;cases hc
 rcases hx with hk | hk
 ·refine wpAny_storeName_local hk hn (fun h' hn' hs=>?_) hcls
  obtain⟨oL,_,_,hoL,_⟩:=id hn
  refine h _ ⟨I.ok,I.os,I.bare,⟨fun b o e n hb hx=>?_,fun b o e n hb hx=>?_,I.base.free,fun b o e hx=>?_,I.base.tups,I.base.frzs,I.base.tbls⟩,⟨_,hn',fun j y v' e1 e2 e3=>?_⟩,fun y c e=>?_,I.free,I.freeC,fun p hp=>?_,tracked ⟨oL,hoL,I.free⟩ hs,by simpa using I.len⟩ ⟨_,hs,.inl rfl⟩
  ·exact (hs.2 b (yr (yu (Heap.lt_size e) I.ok.above))).trans (I.base.keep b o e n hb hx)
  ·obtain⟨sl,e1⟩:=I.base.slot b o e n hb hx
   exact⟨sl,(hs.2 b (yr (yu (Heap.lt_size e) I.ok.above))).trans e1⟩
  ·obtain⟨o',e1⟩:=I.base.there b o e hx
   exact⟨o',(hs.2 b (yr (yu (Heap.lt_size e) I.ok.above))).trans e1⟩
  ·by_cases hj:j=i
   ·subst hj
    rw[hi] at e1;cases e1
    rw[jy hiσ] at e2
    cases e2
    exact⟨u,r,.inl ⟨hk,by simp⟩⟩
   ·rw[jv (Ne.symm hj)] at e2
    obtain⟨u',r',q⟩:=hl j y v' e1 e2 e3
    refine⟨u',r',?_⟩
    rcases q with ⟨k,e⟩ | ⟨k,c,e,z⟩
    ·refine .inl ⟨k,?_⟩
     have:y≠x:=fun e=>hj (qe hN e1 (e▸hi))
     simp[this,e]
    ·exact .inr ⟨k,c,e,z.sameBut hs (cne y c e)⟩
  ·obtain⟨w',z⟩:=I.cell y c e
   exact⟨w',z.sameBut hs (cne y c e)⟩
  ·obtain⟨e,n,ne,nf,d⟩:=I.pin p hp
   exact⟨(hs.2 p.1 ne).trans e,n,ne,nf,d⟩
 ·have hfn:X.fn x=true:=by
   rcases hf with z | z
   ·exact z
   ·rw[z] at hk;cases hk
  obtain⟨c,hc⟩:=I.ok.has x (.inl hk)
  obtain⟨w',z⟩:=I.cell x c hc
  refine wpAny_storeName_cell I.ok.kind hk hc z (fun h' hc' hs=>?_)
  obtain⟨oc,hoc,hocd⟩:=id z
  refine h { s with heap:=h' } ⟨I.ok,I.os,I.bare,⟨fun b o e n hb hx=>?_,fun b o e n hb hx=>?_,I.base.free,fun b o e hx=>?_,I.base.tups,I.base.frzs,I.base.tbls⟩,⟨m,hn.sameBut hs (Ne.symm (cne x c hc)),fun j y v' e1 e2 e3=>?_⟩,fun y c' e=>?_,I.free,I.freeC,fun p hp=>?_,tracked ⟨oc,hoc,I.freeC x c hc⟩ hs,by simpa using I.len⟩ ⟨c,hs,.inr hc⟩
  ·exact (hs.2 b (yr (yu (Heap.lt_size e) (I.ok.cab x c hfn hc)))).trans (I.base.keep b o e n hb hx)
  ·obtain⟨sl,e1⟩:=I.base.slot b o e n hb hx
   exact⟨sl,(hs.2 b (yr (yu (Heap.lt_size e) (I.ok.cab x c hfn hc)))).trans e1⟩
  ·obtain⟨o',e1⟩:=I.base.there b o e hx
   exact⟨o',(hs.2 b (yr (yu (Heap.lt_size e) (I.ok.cab x c hfn hc)))).trans e1⟩
  ·by_cases hj:j=i
   ·subst hj
    rw[hi] at e1;cases e1
    rw[jy hiσ] at e2
    cases e2
    exact⟨u,r,.inr ⟨.inl hk,c,hc,hc'⟩⟩
   ·rw[jv (Ne.symm hj)] at e2
    obtain⟨u',r',q⟩:=hl j y v' e1 e2 e3
    refine⟨u',r',?_⟩
    rcases q with q | ⟨k,c',e,z'⟩
    ·exact .inl q
    ·refine .inr ⟨k,c',e,z'.sameBut hs ?_⟩
     rintro rfl
     exact hj (qe hN e1 (I.ok.inj _ _ _ e hc▸hi))
  ·by_cases hcc:c'=c
   ·subst hcc;exact⟨_,hc'⟩
   ·obtain⟨w2,z2⟩:=I.cell y c' e
    exact⟨w2,z2.sameBut hs hcc⟩
  ·obtain⟨e,n,ne,nf,d⟩:=I.pin p hp
   refine⟨(hs.2 p.1 ?_).trans e,n,ne,nf,d⟩
   intro q
   rw[q,hoc] at e
   have q':oc=p.2:=Option.some.inj e
   exact d w' (by rw[←q'];exact hocd)
theorem store_ok{M:Model}{A:Around}{E:Value→Shared→Prop}{i:Nat}{x:Str}{v:V}{u:Value}{Q:Unit→Shared→Prop}(I:Inv X pins σ H s)(hN:X.N.Nodup)(hi:X.N[i]?=some x)(hx:Loc X.env.scope x)(r:QT v u)
  (h:∀ s',Inv X pins (σ.set i (some v)) H s'→Q () s') (hf:X.fn x=true∨X.env.scope.names.lookup x=some .local:=by first | exact .inl rfl | exact .inr rfl | assumption):wpAny M A (storeName X.env x u) Q E s:=
 qO I hN hi hx r (fun s' I' _=>h s' I') hf
theorem Inv.call'{s':Shared}{ch:List Addr}(I:Inv X pins σ H s)(ho:s'.os=s.os) (u:Un (frs X.stack) ch H H' s.heap s'.heap) (hok:HOk X.prog X.w H' s'.heap) (hg:AllBare s'.gens)
  (hch:∀ b∈ch,(b∈X.ex∨X.s_0.heap.objs.size≤b)∧b≠X.env.locals∧(∀ x c,X.env.cells.lookup x=some c→c≠b)∧∀ p∈X.pn++pins,p.1≠b):Inv X pins σ H' s':=by
 obtain⟨h',g',d',t',o'⟩:=s'
 have e:o'=s.os:=ho
 subst e
 exact I.call (g':=g') (t':=t') (d':=d') u hok hg hch
end
abbrev XK:=Value→Option Addr→Hp→Prop
abbrev St:=List (Option V)
abbrev VK:=V→Hp→Prop
abbrev TE:=St→Hp→VK→Prop
abbrev TT:=St→Hp→(Bool→Hp→Prop)→Prop
abbrev TA:=St→Hp→(List V→Hp→Prop)→Prop
structure Jx where
 nx:St→Hp→Prop
 rt:VK
 bk:St→Hp→Prop:=fun _ _=>False
 ct:St→Hp→Prop:=fun _ _=>False
abbrev TS:=Jx→St→Hp→Prop
def EP(X:Cx) (pins:List (Addr×Obj)) (σ:St) (Q:VK) (u:Value) (s':Shared):Prop:=∃ v H',Inv X pins σ H' s'∧QT v u∧Q v H'
def TP(X:Cx) (pins:List (Addr×Obj)) (σ:St) (Q:Bool→Hp→Prop) (b:Bool) (s':Shared):Prop:=∃ H',Inv X pins σ H' s'∧Q b H'
def AP(X:Cx) (pins:List (Addr×Obj)) (σ:St) (Q:List V→Hp→Prop) (us:List Value) (s':Shared):Prop:=∃ vs H',Inv X pins σ H' s'∧QF vs us∧Q vs H'
def SP(X:Cx) (pins:List (Addr×Obj)) (D:Jx) (f:Flow) (s':Shared):Prop:=
 match f with
 | .next=>∃ σ' H',Inv X pins σ' H' s'∧D.nx σ' H'
 | .brk=>∃ σ' H',Inv X pins σ' H' s'∧D.bk σ' H'
 | .cont=>∃ σ' H',Inv X pins σ' H' s'∧D.ct σ' H'
 | .ret u=>∃ v σ' H',Inv X pins σ' H' s'∧QT v u∧D.rt v H'
def PE(X:Cx)(e:Expr)(t:TE):Prop:=
 ∀ (pins:List (Addr×Obj)) (s:Shared) (σ:St) (H:Hp) (Q:VK),Inv X pins σ H s→t σ H Q→wpAny (model X.prog X.w) X.A (eval e X.env) (EP X pins σ Q) X.xe s
def PT(X:Cx)(e:Expr)(t:TT):Prop:=
 ∀ (pins:List (Addr×Obj)) (s:Shared) (σ:St) (H:Hp) (Q:Bool→Hp→Prop),Inv X pins σ H s→t σ H Q→wpAny (model X.prog X.w) X.A (isTrue e X.env (eval e X.env)) (TP X pins σ Q) X.xe s
def PW(X:Cx)(e:Expr)(t:TT):Prop:=
 ∀ (whole:Sem Value) (pins:List (Addr×Obj)) (s:Shared) (σ:St) (H:Hp) (Q:Bool→Hp→Prop),Inv X pins σ H s→t σ H Q→wpAny (model X.prog X.w) X.A (isTrue e X.env whole) (TP X pins σ Q) X.xe s
theorem PW.pt{X:Cx}{e:Expr}{t:TT}(h:PW X e t):PT X e t:=h _
def PA(X:Cx)(es:List Expr)(t:TA):Prop:=
 ∀ (pos:Pos) (pins:List (Addr×Obj)) (s:Shared) (σ:St) (H:Hp) (Q:List V→Hp→Prop),Inv X pins σ H s→t σ H Q→wpAny (model X.prog X.w) X.A (spliced (backTo pos (starEach es X.env))) (AP X pins σ Q) X.xe s
def PS(X:Cx)(st:Stmt)(t:TS):Prop:=
 ∀ (pins:List (Addr×Obj)) (s:Shared) (σ:St) (H:Hp) (D:Jx),Inv X pins σ H s→t D σ H→wpAny (model X.prog X.w) X.A (exec st X.env) (SP X pins D) X.xe s
def PSs(X:Cx)(st:List Stmt)(t:TS):Prop:=
 ∀ (pins:List (Addr×Obj)) (s:Shared) (σ:St) (H:Hp) (D:Jx),Inv X pins σ H s→t D σ H→wpAny (model X.prog X.w) X.A (execs st X.env) (SP X pins D) X.xe s
theorem thn{α:Type}{t:Sem α}{Q Q':α→Shared→Prop}{M:Model}{A:Around}{E:Value→Shared→Prop}{s:Shared}(h:wpAny M A t Q E s)(hQ:∀ a s,Q a s→Q' a s):wpAny M A t Q' E s:=wpAny_mono h hQ fun _ _ x=>x
end L2
namespace L2
open PySem PySem.Spec PyProof.Rows
section
variable {X:Cx}
def Zt(i:Nat):TE:=fun σ H Q=>∃ v,σ[i]?=some (some v)∧Q v H
def tC(v:V):TE:=fun _ H Q=>Q v H
theorem zH{i:Nat}{x:Str}{pos:Pos}(hN:X.N[i]?=some x)(hv:Vis X.env.scope x) (hd:(x==("__debug__" : Str))=false:=by decide) (hcd:(x==("__classdict__" : Str))=false:=by decide):PE X (.Name x pos) (Zt i):=by
 intro pins s σ H Q I h
 obtain⟨v,e,h⟩:=h
 obtain⟨m,hn,hl⟩:=I.loc
 obtain⟨u,r,l⟩:=hl i x v hN e hv
 have fin:EP X pins σ Q u s:=⟨v,H,I,r,h⟩
 rcases l with ⟨hk,hm⟩ | ⟨hk,c,hc,hcell⟩
 ·exact wpAny_Name (wpAny_loadName_local I.ok.kind hk hn hm fin) hd
 ·rcases hk with hk | hk
  ·exact wpAny_Name (wpAny_loadName_cell I.ok.kind hk hc hcell fin) hd
  ·exact wpAny_Name (wpAny_loadName_free I.ok.kind hk hc hcell fin hcd) hd
theorem Qg{i j pos}:PE X (.Constant (.int i) j pos) (tC (.int i)):=fun _ _ _ H _ I h=>wpAny_Constant_int ⟨.int i,H,I.tok _,⟨_,rfl⟩,h⟩
theorem Xl{b j pos}:PE X (.Constant (.bool b) j pos) (tC (.bl b)):=fun _ _ _ H _ I h=>Constant_bool ⟨.bl b,H,I,rfl,h⟩
theorem Q5{j pos}:PE X (.Constant .none j pos) (tC .non):=fun _ _ _ H _ I h=>Constant_none ⟨.non,H,I,rfl,h⟩
def Gl(X:Cx)(x:Str):Prop:=X.env.kindOf x=some .globalImplicit
theorem zJ{E:Value→Shared→Prop} {pins:List (Addr×Obj)} {s:Shared} {σ:St} {H:Hp} {x:Str} {u:Value} {pos:Pos} {Q:Value→Shared→Prop} (I:Inv X pins σ H s) (hg:Gl X x) (hm:X.mg x=some u) (h:Q u s)
  (hd:(x==("__debug__" : Str))=false:=by decide):wpAny (model X.prog X.w) X.A (eval (.Name x pos) X.env) Q E s:=
 Calls.Name_function_global I.ok.kind hg (Calls.loadGlobal_global (by rw[I.ok.glob];exact I.mod.glob.keeps I.bk) hm h) hd
theorem Xv{E:Value→Shared→Prop} {pins:List (Addr×Obj)} {s:Shared} {σ:St} {H:Hp} {x:Str} {u:Value} {pos:Pos} {Q:Value→Shared→Prop} (I:Inv X pins σ H s) (hg:Gl X x) (hm:X.mg x=none) (hv:bootBuiltins x=some u) (h:Q u s)
  (hn:x ≠ "__name__" := by decide) (hd:(x==("__debug__" : Str))=false:=by decide):wpAny (model X.prog X.w) X.A (eval (.Name x pos) X.env) Q E s:=by
 obtain⟨mb,h1,h2⟩:=I.mod.blt
 exact Calls.Name_function_global I.ok.kind hg (Calls.loadGlobal_builtin (by rw[I.ok.glob];exact I.mod.glob.keeps I.bk) hm (by rw[I.ok.blt];exact h1.keeps I.bk) ((h2 x hn).trans hv) h) hd
theorem Q7{x:Str}{v:V}{u:Value}{pos:Pos}(hg:Gl X x)(hm:X.mg x=some u)(r:QT v u) (hd:(x==("__debug__" : Str))=false:=by decide):PE X (.Name x pos) (tC v):=
 fun _ _ _ H _ I h=>zJ I hg hm ⟨v,H,I,r,h⟩ hd
variable {a b:Expr} {ta tb:TE} {pos:Pos}
def PC(X:Cx)(op:CmpOp)(a b:Expr)(t:TE):Prop:=
 ∀ (pins:List (Addr×Obj)) (s:Shared) (σ:St) (H:Hp) (Q:VK),Inv X pins σ H s→t σ H Q→
  wpAny (model X.prog X.w) X.A (eval a X.env) (fun v s₁=>wpAny (model X.prog X.w) X.A (eval b X.env) (fun u s₂=>wpAny (model X.prog X.w) X.A (compareOp op v u) (EP X pins σ Q) X.xe s₂) X.xe s₁) X.xe s
theorem nobehind(b:Expr){op:CmpOp}(h:op≠.In)(h2:op≠.NotIn):behindInMarks op b=false:=by
 have e1:(op==CmpOp.In)=false:=by cases op <;> first | rfl | exact absurd rfl h
 have e2:(op==CmpOp.NotIn)=false:=by cases op <;> first | rfl | exact absurd rfl h2
 cases b <;> simp[behindInMarks,e1,e2]
def tIsN(ta:TE):TE:=fun σ H Q=>ta σ H fun x H1=>Q (.bl (decide (x=.non))) H1
def tNotN(ta:TE):TE:=fun σ H Q=>ta σ H fun x H1=>Q (.bl (!decide (x=.non))) H1
theorem QT.none_iff{x:V}{v:Value}(r:QT x v):(v==Value.none)=decide (x=.non):=by
 cases x with
 | non=>cases r;rfl
 | bl _=>cases r;rfl
 | int _=>obtain⟨t,rfl⟩:=r;rfl
 | str _=>obtain⟨t,rfl⟩:=r;rfl
 | byt _=>obtain⟨t,rfl⟩:=r;rfl
 | flt _=>obtain⟨t,rfl⟩:=r;rfl
 | ref _=>cases r;rfl
 | ty _=>cases r;rfl
theorem pc_isN{j pos'}(ha:PE X a ta):PC X .Is a (.Constant .none j pos') (tIsN ta):=by
 intro pins s σ H Q I h
 refine thn (ha pins s σ H _ I h) fun v s1 ⟨x,H1,I1,r1,q1⟩=>?_
 exact Constant_none (is_none_gen ⟨.bl _,H1,I1,by rw[r1.none_iff];rfl,q1⟩)
theorem ZR{j pos'}(ha:PE X a ta):PC X .IsNot a (.Constant .none j pos') (tNotN ta):=by
 intro pins s σ H Q I h
 refine thn (ha pins s σ H _ I h) fun v s1 ⟨x,H1,I1,r1,q1⟩=>?_
 exact Constant_none (isnot_none_gen ⟨.bl _,H1,I1,by rw[r1.none_iff];rfl,q1⟩)
def tB(t:TE):TT:=fun σ H Q=>t σ H fun x H1=>∃ c,x=.bl c∧Q c H1
theorem Zg{op:CmpOp}{t:TE}(h:PC X op a b t) (h1:behindInMarks op b=false:=by first | exact nobehind _ (by decide) (by decide) | rfl):PT X (.Compare a [op] [b] pos) (tB t):=by
 intro pins s σ H Q I hw
 refine wpAny_isTrue_Compare1 (thn (h pins s σ H _ I hw) fun v s1 h1=>thn h1 fun u s2 h2=>thn h2 fun c s3 ⟨x,H1,I1,r1,q1⟩=>?_) h1
 obtain⟨d,rfl,q⟩:=q1
 cases r1
 exact wpAny_truthy_bool ⟨H1,I1,q⟩
theorem Zf{e:Expr}{t:TE}(h:PE X e t) (he:∀ whole,isTrue e X.env whole=(do let v ← whole;standAt e.pos;holding [v] (truthy v)):=by intro _;rfl):PT X e (tB t):=by
 intro pins s σ H Q I hw
 refine isTrue_plain (thn (h pins s σ H _ I hw) fun v s1 ⟨x,H1,I1,r1,q1⟩=>?_) (he _)
 obtain⟨d,rfl,q⟩:=q1
 cases r1
 exact wpAny_truthy_bool ⟨H1,I1,q⟩
variable {tA tB':TT} {YL:List Expr}
def tAnd(t u:TT):TT:=fun σ H Q=>t σ H fun c H1=>if c=true then u σ H1 Q else Q false H1
def tOr(t u:TT):TT:=fun σ H Q=>t σ H fun c H1=>if c=true then Q true H1 else u σ H1 Q
def tNot(t:TT):TT:=fun σ H Q=>t σ H fun c H1=>Q (!c) H1
theorem Ym(ha:PT X a tA):PW X (.BoolOp .And [a] pos) tA:=by
 intro wh pins s σ H Q I h
 refine isTrue_and (thn (ha pins s σ H Q I h) fun c s1 e=>?_)
 cases c with
 | true=>exact isTrue_and_nil e
 | false=>exact e
theorem Z9(ha:PT X a tA):PW X (.BoolOp .Or [a] pos) tA:=by
 intro wh pins s σ H Q I h
 refine isTrue_or (thn (ha pins s σ H Q I h) fun c s1 e=>?_)
 cases c with
 | false=>exact isTrue_or_nil e
 | true=>exact e
theorem Jm(ha:PT X a tA) (hb:PW X (.BoolOp .And (b::YL) pos) tB'):PW X (.BoolOp .And (a::b::YL) pos) (tAnd tA tB'):=by
 intro wh pins s σ H Q I h
 refine isTrue_and (thn (ha pins s σ H _ I h) fun c s1 ⟨H1,I1,q1⟩=>?_)
 cases c with
 | true=>exact hb wh pins s1 σ H1 Q I1 q1
 | false=>exact⟨H1,I1,q1⟩
theorem Yb(ha:PT X a tA) (hb:PW X (.BoolOp .Or (b::YL) pos) tB'):PW X (.BoolOp .Or (a::b::YL) pos) (tOr tA tB'):=by
 intro wh pins s σ H Q I h
 refine isTrue_or (thn (ha pins s σ H _ I h) fun c s1 ⟨H1,I1,q1⟩=>?_)
 cases c with
 | true=>exact⟨H1,I1,q1⟩
 | false=>exact hb wh pins s1 σ H1 Q I1 q1
theorem YM(ha:PT X a tA):PT X (.UnaryOp .Not a pos) (tNot tA):=by
 intro pins s σ H Q I h
 exact isTrue_not (ha pins s σ H (fun c H1=>Q (!c) H1) I h)
def tAndV(ta tb:TE):TE:=fun σ H Q=>ta σ H fun x H1=>∃ c,x=.bl c∧if c=true then tb σ H1 Q else Q (.bl false) H1
def tOrV(ta tb:TE):TE:=fun σ H Q=>ta σ H fun x H1=>∃ c,x=.bl c∧if c=true then Q (.bl true) H1 else tb σ H1 Q
theorem YN{op}{t:TE}(h:PE X a t):PE X (.BoolOp op [a] pos) t:=fun pins s σ H Q I hw=>BoolOp_one (h pins s σ H Q I hw)
theorem YO(ha:PE X a ta) (hb:PE X (.BoolOp .And (b::YL) pos) tb):PE X (.BoolOp .And (a::b::YL) pos) (tAndV ta tb):=by
 intro pins s σ H Q I h
 refine BoolOp_and (thn (ha pins s σ H _ I h) fun v s1 ⟨x,H1,I1,r1,q1⟩=>?_)
 obtain⟨c,rfl,q1⟩:=q1
 cases r1
 refine wpAny_truthy_bool ?_
 cases c with
 | true=>exact hb pins s1 σ H1 Q I1 q1
 | false=>exact⟨.bl false,H1,I1,rfl,q1⟩
theorem pe_or(ha:PE X a ta) (hb:PE X (.BoolOp .Or (b::YL) pos) tb):PE X (.BoolOp .Or (a::b::YL) pos) (tOrV ta tb):=by
 intro pins s σ H Q I h
 refine BoolOp_or (thn (ha pins s σ H _ I h) fun v s1 ⟨x,H1,I1,r1,q1⟩=>?_)
 obtain⟨c,rfl,q1⟩:=q1
 cases r1
 refine wpAny_truthy_bool ?_
 cases c with
 | false=>exact hb pins s1 σ H1 Q I1 q1
 | true=>exact⟨.bl true,H1,I1,rfl,q1⟩
def tIf(t:TT)(ta tb:TE):TE:=fun σ H Q=>t σ H fun c H1=>if c=true then ta σ H1 Q else tb σ H1 Q
theorem qd{c:Expr}(hc:PT X c tA)(ha:PE X a ta)(hb:PE X b tb):PE X (.IfExp c a b pos) (tIf tA ta tb):=by
 intro pins s σ H Q I h
 refine wpAny_IfExp (thn (hc pins s σ H _ I h) fun d s1 ⟨H1,I1,q1⟩=>?_)
 cases d with
 | true=>exact ha pins s1 σ H1 Q I1 q1
 | false=>exact hb pins s1 σ H1 Q I1 q1
end
end L2
namespace L2
open PySem PySem.Spec PyProof.Rows
def SqL(K:z8)(H:Hp)(a:Addr)(xs:List V):Prop:=
 Rd H a (.lst xs)∨
  ∃(o:Obj)(its:Array Value)(n:Nat),K.lookup a=some o∧o.cls=.type "list" ∧ o.dict=none∧o.data=.seq its n∧its.size≤sizeLine∧QF xs its.toList
def SqT(K:z8)(H:Hp)(a:Addr)(xs:List V):Prop:=
 Rd H a (.tup xs)∨
  ∃(o:Obj)(its:Array Value)(n:Nat),K.lookup a=some o∧o.cls=.type "tuple" ∧ o.data=.seq its n∧its.size≤sizeLine∧QF xs its.toList
def absV:Value→Option V
 | .none=>some .non
 | .bool b=>some (.bl b)
 | .int i _=>some (.int i)
 | .str x _=>some (.str x)
 | .bytes b _=>some (.byt b)
 | .float b _=>some (.flt b)
 | .ref a=>some (.ref a)
 | .type n=>some (.ty n)
 | _=>none
theorem QT.abs{x:V}{u:Value}(r:QT x u):absV u=some x:=by
 cases x with
 | non=>cases r;rfl
 | bl _=>cases r;rfl
 | int _=>obtain⟨t,rfl⟩:=r;rfl
 | str _=>obtain⟨t,rfl⟩:=r;rfl
 | byt _=>obtain⟨t,rfl⟩:=r;rfl
 | flt _=>obtain⟨t,rfl⟩:=r;rfl
 | ref _=>cases r;rfl
 | ty _=>cases r;rfl
theorem QT.inj{x y:V}{u:Value}(r:QT x u)(q:QT y u):x=y:=Option.some.inj (r.abs.symm.trans q.abs)
theorem QF.inj:∀ {xs ys:List V} {us:List Value},QF xs us→QF ys us→xs=ys
 | _,_,_,.nil,.nil=>rfl
 | _,_,_,.cons r t,.cons r' t'=>by rw[r.inj r',QF.inj t t']
section
variable {X:Cx} {pins:List (Addr×Obj)} {σ:St} {H:Hp} {s:Shared} {a:Addr} {xs ys:List V}
theorem SqL.of{K:z8} (h:H a=some (.lst xs)):SqL K H a xs:=.inl (.inl h)
theorem SqT.of{K:z8} (h:H a=some (.tup xs)):SqT K H a xs:=.inl (.inl h)
theorem Inv.list(I:Inv X pins σ H s)(h:SqL X.K H a xs):∃ its:List Value,QF xs its∧PlainL s.heap a its.toArray∧xs.length≤sizeLine:=by
 rcases h with h | ⟨o,its,n,hk,hc,hd,hs,hz,r⟩
 ·obtain⟨z,its,n,r,e⟩:=h.ok I.hok
  exact⟨its,r,⟨_,n,e,rfl,rfl,rfl⟩,z⟩
 ·refine⟨its.toList,r,⟨o,n,I.kIn a o hk,hc,hd,by simpa using hs⟩,?_⟩
  have e:=r.length
  simp only[GF] at e
  omega
theorem Inv.tuple(I:Inv X pins σ H s)(h:SqT X.K H a xs):∃ its:List Value,QF xs its∧IsTup s.heap a its.toArray∧xs.length≤sizeLine:=by
 rcases h with h | ⟨o,its,n,hk,hc,hs,hz,r⟩
 ·obtain⟨z,its,r,p⟩:=h.ok I.hok
  exact⟨its,r,p,z⟩
 ·refine⟨its.toList,r,⟨o,I.kIn a o hk,hc,n,by simpa using hs⟩,?_⟩
  have e:=r.length
  simp only[GF] at e
  omega
theorem Inv.list_inj(I:Inv X pins σ H s)(h:SqL X.K H a xs)(h':SqL X.K H a ys):xs=ys:=by
 obtain⟨its,r,⟨o,n,e,_,_,d⟩,_⟩:=I.list h
 obtain⟨its',r',⟨o',n',e',_,_,d'⟩,_⟩:=I.list h'
 rw[e] at e';cases e'
 rw[d] at d'
 injection d' with d1 _
 have:its=its':=by simpa using congrArg UB d1
 subst this
 exact r.inj r'
theorem Inv.tuple_inj(I:Inv X pins σ H s)(h:SqT X.K H a xs)(h':SqT X.K H a ys):xs=ys:=by
 obtain⟨its,r,⟨o,e,_,n,d⟩,_⟩:=I.tuple h
 obtain⟨its',r',⟨o',e',_,n',d'⟩,_⟩:=I.tuple h'
 rw[e] at e';cases e'
 rw[d] at d'
 injection d' with d1 _
 have:its=its':=by simpa using congrArg UB d1
 subst this
 exact r.inj r'
end
abbrev Cx.wish(X:Cx)(E:Value→Shared→Prop):Cx:={ X with xe:=E }
abbrev Cx.nox(X:Cx):Cx:=X.wish fun _ _=>False
theorem Cx.Ok.wish{X:Cx}(ok:X.Ok)(E:Value→Shared→Prop):(X.wish E).Ok:=
 ⟨ok.mod,ok.kind,ok.glob,ok.blt,ok.above,ok.inj,ok.has,ok.cab,ok.hd,ok.frames,ok.stk,ok.exf,ok.bs,ok.bsz,ok.noex,ok.exfs,ok.funs,ok.frf⟩
theorem Cx.Ok.unwish{X:Cx}{E:Value→Shared→Prop} (ok:(X.wish E).Ok):X.Ok:=
 ⟨ok.mod,ok.kind,ok.glob,ok.blt,ok.above,ok.inj,ok.has,ok.cab,ok.hd,ok.frames,ok.stk,ok.exf,ok.bs,ok.bsz,ok.noex,ok.exfs,ok.funs,ok.frf⟩
section
variable {X:Cx} {pins:List (Addr×Obj)} {σ:St} {H:Hp} {s:Shared} {E:Value→Shared→Prop}
theorem Inv.wish(I:Inv X pins σ H s)(E:Value→Shared→Prop):Inv (X.wish E) pins σ H s:=⟨I.ok.wish E,I.os,I.bare,I.base,I.loc,I.cell,I.free,I.freeC,I.pin,I.hok,I.len⟩
theorem Inv.unwish (I:Inv (X.wish E) pins σ H s):Inv X pins σ H s:=⟨I.ok.unwish,I.os,I.bare,I.base,I.loc,I.cell,I.free,I.freeC,I.pin,I.hok,I.len⟩
theorem SP.unwish{D:Jx}{f:Flow}{s':Shared} (h:SP (X.wish E) pins D f s'):SP X pins D f s':=by
 cases f with
 | next=>obtain⟨σ',H',I,q⟩:=h;exact⟨σ',H',I.unwish,q⟩
 | brk=>obtain⟨σ',H',I,q⟩:=h;exact⟨σ',H',I.unwish,q⟩
 | cont=>obtain⟨σ',H',I,q⟩:=h;exact⟨σ',H',I.unwish,q⟩
 | ret u=>obtain⟨v,σ',H',I,r,q⟩:=h;exact⟨v,σ',H',I.unwish,r,q⟩
theorem PSs.nox{st:List Stmt}{t:TS}(h:PSs X.nox st t):PSs X st t:=fun pins s σ H D I hw=>
 wpAny_mono (h pins s σ H D (I.wish _) hw) (fun _ _ q=>q.unwish) fun _ _ z=>False.elim z
end
section
variable {X:Cx} {st:Stmt} {YL:List Stmt} {t u:TS} {e:Expr} {te:TE} {pos:Pos}
def tNext:TS:=fun D σ H=>D.nx σ H
def tSeq(t u:TS):TS:=fun D σ H=>t { D with nx:=u D } σ H
theorem Qr:PSs X [] tNext:=fun _ _ σ H _ I h=>wpAny_execs_nil ⟨σ,H,I,h⟩
theorem Qb(h1:PS X st t)(h2:PSs X YL u):PSs X (st::YL) (tSeq t u):=by
 intro pins s σ H D I h
 refine wpAny_execs_cons (thn (h1 pins s σ H { D with nx:=u D } I h) fun f s1 q=>?_)
 cases f with
 | next=>
  obtain⟨σ',H',I',q⟩:=q
  exact h2 pins s1 σ' H' D I' q
 | ret v=>exact q
 | brk=>exact q
 | cont=>exact q
theorem Qe(h1:PS X st t):PSs X [st] t:=by
 intro pins s σ H D I h
 refine wpAny_execs_cons (thn (h1 pins s σ H D I h) fun f s1 q=>?_)
 cases f with
 | next=>exact wpAny_execs_nil q
 | ret v=>exact q
 | brk=>exact q
 | cont=>exact q
theorem Inv.quiet {pins:List (Addr×Obj)} {σ:St} {H:Hp} {s:Shared} (I:Inv X pins σ H s):interactive X.env=false:=by simp[interactive,I.ok.kind]
def tDrop(te:TE):TS:=fun D σ H=>te σ H fun _ H1=>D.nx σ H1
theorem Yn(he:PE X e te)(hs:swapsWith e none pos.line X.env=pure false:=by rfl):PS X (.Expr e pos) (tDrop te):=by
 intro pins s σ H D I h
 exact wpAny_Expr_any (thn (he pins s σ H _ I h) fun v s1 ⟨x,H1,I1,r1,q1⟩=>⟨σ,H1,I1,q1⟩) I.quiet hs
def tRet(te:TE):TS:=fun D σ H=>te σ H D.rt
theorem Qi(he:PE X e te):PS X (.Return (some e) pos) (tRet te):=by
 intro pins s σ H D I h
 exact wpAny_Return_some (thn (he pins s σ H _ I h) fun v s1 ⟨x,H1,I1,r1,q1⟩=>⟨x,σ,H1,I1,r1,q1⟩)
def tIfS(c:TT)(t u:TS):TS:=fun D σ H=>c σ H fun b H1=>if b=true then t D σ H1 else u D σ H1
theorem QH{c:Expr}{a b:List Stmt}{tc:TT}(hc:PT X c tc)(ha:PSs X a t)(hb:PSs X b u):PS X (.If c a b pos) (tIfS tc t u):=by
 intro pins s σ H D I h
 refine wpAny_If (thn (hc pins s σ H _ I h) fun d s1 ⟨H1,I1,q1⟩=>?_)
 cases d with
 | true=>exact ha pins s1 σ H1 D I1 q1
 | false=>exact hb pins s1 σ H1 D I1 q1
end
abbrev TG:=V→St→Hp→(St→Hp→Prop)→Prop
abbrev TGs:=List V→St→Hp→(St→Hp→Prop)→Prop
def PG(X:Cx)(target:Expr)(t:TG):Prop:=
 ∀ (pins:List (Addr×Obj)) (s:Shared) (σ:St) (H:Hp) (v:V) (u:Value) (Q:St→Hp→Prop),Inv X pins σ H s→QT v u→t v σ H Q→
  wpAny (model X.prog X.w) X.A (assign target X.env u) (fun _ s'=>∃ σ' H',Inv X pins σ' H' s'∧Q σ' H') X.xe s
def PGs(X:Cx)(ts:List Expr)(t:TGs):Prop:=
 ∀ (pins:List (Addr×Obj)) (s:Shared) (σ:St) (H:Hp) (vs:List V) (us:List Value) (Q:St→Hp→Prop),Inv X pins σ H s→QF vs us→t vs σ H Q→
  wpAny (model X.prog X.w) X.A (assignInOrder ((assignEach ts X.env).map (·.2)) us) (fun _ s'=>∃ σ' H',Inv X pins σ' H' s'∧Q σ' H') X.xe s
section
variable {X:Cx} {pos:Pos}
def Zp(i:Nat):TG:=fun v σ H Q=>Q (σ.set i (some v)) H
theorem Qv{i:Nat}{x:Str}(hN:X.N.Nodup)(hi:X.N[i]?=some x)(hx:Loc X.env.scope x)(hf:X.fn x=true∨X.env.scope.names.lookup x=some .local:=by first | exact .inl rfl | exact .inr rfl | assumption):PG X (.Name x pos) (Zp i):=by
 intro pins s σ H v u Q I r h
 exact wpAny_assign_Name (store_ok I hN hi hx r (fun s' I'=>⟨_,H,I',h⟩) hf)
def zS:TGs:=fun vs σ H Q=>vs=[]∧Q σ H
def ZT(t:TG)(u:TGs):TGs:=fun vs σ H Q=>∃ v r,vs=v::r∧t v σ H fun σ' H'=>u r σ' H' Q
theorem Zj:PGs X [] zS:=by
 intro pins s σ H vs us Q I r h
 obtain⟨e,h⟩:=h
 subst e
 cases r
 exact assignInOrder_nil ⟨σ,H,I,h⟩
theorem QK{e:Expr}{es:List Expr}{t:TG}{u:TGs}(h1:PG X e t)(h2:PGs X es u)
  (hs:(assignEach (e::es) X.env).map (·.2)=assign e X.env::(assignEach es X.env).map (·.2):=by rfl):PGs X (e::es) (ZT t u):=by
 intro pins s σ H vs us Q I r h
 obtain⟨v,vr,e1,h⟩:=h
 subst e1
 cases r with
 | cons r rr=>
  rw[hs]
  refine assignInOrder_cons (thn (h1 pins s σ H _ _ _ I r h) fun _ s1 ⟨σ1,H1,I1,q1⟩=>?_)
  exact h2 pins s1 σ1 H1 _ _ Q I1 rr q1
def zR(K:z8)(n:Nat)(t:TGs):TG:=fun v σ H Q=>∃ a xs,v=.ref a∧SqT K H a xs∧xs.length=n∧t xs σ H Q
theorem ZM{es:List Expr}{k:Nat}{t:TGs}{n:Nat}(hc:X.calm=true)(h:PGs X es t)
  (hn:(assignEach es X.env).length=n:=by rfl) (hst:(assignEach es X.env).findIdx? (·.1)=none:=by rfl):PG X (.Tuple es k pos) (zR X.K n t):=by
 intro pins s σ H v u Q I r hw
 obtain⟨a,xs,e1,hq,hl,hw⟩:=hw
 subst e1
 cases r
 obtain⟨its,rv,ht,hz⟩:=I.tuple hq
 refine assign_Tuple_tuple (I.ok.hd hc) ht (by simp[hn,←hl,rv.length]) hst fun h' hx=>?_
 have I1:Inv X pins σ H { s with heap:=h' }:=I.kept (t':=s.toks) fun b o e=>hx b o (yr (Heap.lt_size e)) e
 exact h pins _ σ H xs _ Q I1 (by simpa using rv) hw
def tAsg(te:TE)(g:TG):TS:=fun D σ H=>te σ H fun x H1=>g x σ H1 D.nx
theorem Qs{i:Nat}{x:Str}{e:Expr}{te:TE}{pos':Pos}(hN:X.N.Nodup)(hi:X.N[i]?=some x)(hx:Loc X.env.scope x)(he:PE X e te) (hs:swapsWith e (some (.Name x pos')) pos.line X.env=pure false:=by rfl) (hf:X.fn x=true∨X.env.scope.names.lookup x=some .local:=by first | exact .inl rfl | exact .inr rfl | assumption) :
  PS X (.Assign [.Name x pos'] e pos) (tAsg te (Zp i)):=by
 intro pins s σ H D I h
 refine wpAny_Assign_Name (thn (he pins s σ H _ I h) fun v s1 ⟨y,H1,I1,r1,q1⟩=>?_) hs
 exact store_ok I1 hN hi hx r1 (fun s2 I2=>⟨_,H1,I2,q1⟩) hf
end
section
variable {X:Cx} {pos:Pos}
def tWhile(c:TT)(tb:TS):TS:=fun D σ H=>∃ W:Nat→St→Hp→Prop,(∃ m,W m σ H)∧∀ m σ H,W m σ H→
 c σ H fun b H1=>if b=true then ∃ N:St→Hp→Prop,(∀ σ' H',N σ' H'→∃ m',m'<m∧W m' σ' H')∧tb { D with nx:=N,ct:=N,bk:=D.nx } σ H1 else D.nx σ H1
theorem J9{c:Expr}{body:List Stmt}{tc:TT}{tb:TS} (hp:PassesOwn (model X.prog X.w) X.A X.env X.xe) (hc:PT X c tc) (hb:PSs X body tb):PS X (.While c body [] pos) (tWhile tc tb):=by
 intro pins s σ H D I h
 obtain⟨W,⟨m0,w0⟩,turn⟩:=h
 refine wpAny_While (codeAny_whileLoop (fun n s'=>∃ σ' H',Inv X pins σ' H' s'∧W n σ' H') ?_ m0 ⟨σ,H,I,w0⟩)
 rintro n s1 ⟨σ1,H1,I1,w1⟩
 refine wpAny_passesOwn hp (thn (hc pins s1 σ1 H1 _ I1 (turn n σ1 H1 w1)) fun b s2 ⟨H2,I2,q2⟩=>?_)
 cases b with
 | true=>
  obtain⟨N,hN,q2⟩:=q2
  rw[if_pos rfl]
  refine wpAny_passesOwn hp (thn (hb pins s2 σ1 H2 _ I2 q2) fun f s3 q3=>?_)
  cases f with
  | next=>
   obtain⟨σ3,H3,I3,n3⟩:=q3
   obtain⟨m',hm,w3⟩:=hN σ3 H3 n3
   exact⟨m',hm,σ3,H3,I3,w3⟩
  | cont=>
   obtain⟨σ3,H3,I3,n3⟩:=q3
   obtain⟨m',hm,w3⟩:=hN σ3 H3 n3
   exact⟨m',hm,σ3,H3,I3,w3⟩
  | brk=>exact q3
  | ret v=>exact q3
 | false=>
  rw[if_neg yJ]
  exact wpAny_execs_nil ⟨σ1,H2,I2,q2⟩
end
structure It where
 go:Nat→Hp→Prop
 yld:Nat→Hp→V→Hp→Prop
 stop:Nat→Hp→Prop
def JL(X:Cx) (pins:List (Addr×Obj)) (H:Hp) (b:Addr):Prop:=
 H b=none∧b≠X.env.locals∧b∉X.fs∧(b∈X.ex∨X.s_0.heap.objs.size≤b)∧(∀ x c,X.env.cells.lookup x=some c→c≠b)∧∀ p∈X.pn++pins,p.1≠b
theorem Inv.fpOk{X:Cx} {pins:List (Addr×Obj)} {σ:St} {H H':Hp} {s:Shared} {b:Addr} (I:Inv X pins σ H s) (hb:s.heap.objs.size≤b) (hn:H' b=none):JL X pins H' b:=by
 refine⟨hn,ji (yu I.lt hb),I.nofs hb,.inr (yE I.sz hb),fun x c e z=>?_,fun p hp z=>?_⟩
 ·obtain⟨v,q⟩:=I.cell x c e
  exact absurd (yu q.lt (by rw[z];exact hb)) (jx _)
 ·exact absurd (yu (Heap.lt_size (I.pin p hp).1) (by rw[z];exact hb)) (jx _)
structure qI(P:Program)(w:World)(K:z8)(tg:Expr)(J:It)(fp:List Addr)(it:Addr)(tn:Nat→Heap→Prop):Prop where
 mem:it∈fp
 obj:∀ i h,tn i h→∀ b∈fp,∃ o,h.get? b=some o∧∀ v,o.data≠.cell v
 keep:∀ i h h',tn i h→(∀ b∈fp,∀ o,h.get? b=some o→h'.get? b=some o)→tn i h'
 item:∀(X:Cx),X.prog=P→X.w=w→X.K=K→X.calm=true→∀ (i:Nat) (pins:List (Addr×Obj)) (s:Shared) (σ:St) (H:Hp) (E:Value→Shared→Prop),Inv X pins σ H s→(∀ b∈fp,JL X pins H b)→tn i s.heap→J.go i H→
  wpAny (model P w) X.A (pyNext (.ref it)) (fun r s1=>∃ u,r=some u∧
   wpAny (model P w) X.A (letOwnedTupleGo tg (.ref it) u) (fun _ s2=>∃ x H',Inv X pins σ H' s2∧QT x u∧J.yld i H x H'∧tn (i+1) s2.heap∧∀ b∈fp,H' b=none) E s1) E s
 done:∀(X:Cx),X.prog=P→X.w=w→X.K=K→X.calm=true→∀ (i:Nat) (pins:List (Addr×Obj)) (s:Shared) (σ:St) (H:Hp) (E:Value→Shared→Prop),Inv X pins σ H s→(∀ b∈fp,JL X pins H b)→tn i s.heap→J.stop i H→
  wpAny (model P w) X.A (pyNext (.ref it)) (fun r s1=>r=none∧Inv X pins σ H s1) E s
 self:∀(A:Around)(i:Nat)(s:Shared)(Q:Value→Shared→Prop)(E:Value→Shared→Prop),tn i s.heap→Q (.ref it) s→wpAny (model P w) A (pyIter (.ref it)) Q E s
abbrev TI:=St→Hp→(It→Hp→Prop)→Prop
def PIE(X:Cx) (pins:List (Addr×Obj)) (σ:St) (tg:Expr) (R:It→Hp→Prop) (itv:Value) (s2:Shared):Prop:=
 ∃(it:Addr)(fp:List Addr)(tn:Nat→Heap→Prop)(J:It)(H':Hp),itv=.ref it∧Inv X pins σ H' s2∧qI X.prog X.w X.K tg J fp it tn∧tn 0 s2.heap∧(∀ b∈fp,JL X pins H' b)∧R J H'
def PI(X:Cx)(tg iter:Expr)(wi:TI):Prop:=
 ∀ (pins:List (Addr×Obj)) (s:Shared) (σ:St) (H:Hp) (R:It→Hp→Prop),Inv X pins σ H s→wi σ H R→
  wpAny (model X.prog X.w) X.A (eval iter X.env) (fun v s1=>wpAny (model X.prog X.w) X.A (pyIter v) (PIE X pins σ tg R) X.xe s1) X.xe s
theorem go_of{M : Model}{A : Around}{E : Value → Shared → Prop}{s : Shared}{tg : Expr}{it : Addr}{u : Value}{o : Obj}{n : String}{vs : Array Value}{Q : Unit → Shared → Prop}(ho : s.heap.get? it = some o)(hc : o.cls = .type n)(hd : o.data = .fields vs)
    (hn : ["enumerate", "zip", "dict_itemiterator", "dict_reverseitemiterator", "odict_iterator", "itertools.zip_longest", "itertools.pairwise"].contains n = false) (hQ : Q () s) : wpAny M A (letOwnedTupleGo tg (.ref it) u) Q E s := by
  unfold letOwnedTupleGo
  cases tg <;> first
    | exact wpAny_pure hQ
    | (cases u <;> first
        | exact wpAny_pure hQ
        | (refine wpAny_bind (wpAny_load ho ?_)
           rw [hc, hd]
           show wpAny M A (if (["enumerate", "zip", "dict_itemiterator", "dict_reverseitemiterator", "odict_iterator", "itertools.zip_longest", "itertools.pairwise"].contains n && vs[0]? == some (rawInt _)) = true then _ else _) Q E s
           rw [if_neg (by intro h; rw [hn, jp] at h; cases h)]
           exact wpAny_pure hQ))
def Itl(K:z8)(a:Addr):It:=
 ⟨fun i H=>∃ xs x,SqL K H a xs∧xs[i]?=some x,fun i H x H'=>H'=H∧∀ xs,SqL K H a xs→xs[i]?=some x,fun i H=>∃ xs,SqL K H a xs∧xs.length≤i⟩
def Itt(K:z8)(a:Addr):It:=
 ⟨fun i H=>∃ xs x,SqT K H a xs∧xs[i]?=some x,fun i H x H'=>H'=H∧∀ xs,SqT K H a xs→xs[i]?=some x,fun i H=>∃ xs,SqT K H a xs∧xs.length≤i⟩
def Itr(lo:Int)(n:Nat):It:=⟨fun i _=>i<n,fun i H x H'=>H'=H∧x=.int (lo+i),fun i _=>n≤i⟩
theorem turn_list{P:Program}{w:World}{K:z8}{tg:Expr}(a it:Addr):qI P w K tg (Itl K a) [it] it (fun i h=>h.IsListIter it a i) where
 mem:=by simp
 obj:=fun i h st b hb=>by
  have e:b=it:=by simpa using hb
  subst e
  obtain⟨o,e,c,d⟩:=st
  exact⟨o,e,fun v z=>by rw[d] at z;cases z⟩
 keep:=fun i h h' st k=>st.at fun o e=>k it (by simp) o e
 item:=by
  intro X hP hw hK hc i pins s σ H E I hf st hg
  subst hP hw hK
  obtain⟨xs,x,hq,hx⟩:=hg
  obtain⟨its,rv,p,hz⟩:=I.list hq
  obtain⟨u,hu,ru⟩:=rv.get hx
  obtain⟨f0,f1,f2,f3,f4,f5⟩:=hf it (by simp)
  refine wpAny_pyNext_list_item st p.isList (x:=u) (by simpa using hu) fun h' st' sb=>?_
  have I1:Inv X pins σ H { s with heap:=h' }:=I.turned (t':=s.toks) (fun b o hb e=>(sb.2 b hb).trans e) f0 f1 f3 f4 f5
  obtain⟨o,e,c,d⟩:=id st'
  exact⟨u,rfl,go_of (s:={ s with heap:=h' }) e c d (by decide) ⟨x,H,I1,ru,⟨rfl,fun ys hy=>by rw[I.list_inj hy hq];exact hx⟩,st',fun b hb=>(hf b hb).1⟩⟩
 done:=by
  intro X hP hw hK hc i pins s σ H E I hf st hg
  subst hP hw hK
  obtain⟨xs,hq,hx⟩:=hg
  obtain⟨its,rv,p,hz⟩:=I.list hq
  obtain⟨f0,f1,f2,f3,f4,f5⟩:=hf it (by simp)
  have hl:=rv.length
  exact wpAny_pyNext_list_end (I.ok.hd hc) st p.isList (by simp;omega) fun h' eb=>⟨rfl,I.turned (t':=s.toks) (fun b o hb e=>eb b o hb e) f0 f1 f3 f4 f5⟩
 self:=fun _ _ _ _ _ st h=>wpAny_pyIter_listiter st h
theorem turn_tuple{P:Program}{w:World}{K:z8}{tg:Expr}(a it:Addr):qI P w K tg (Itt K a) [it] it (fun i h=>h.IsTupleIter it a i) where
 mem:=by simp
 obj:=fun i h st b hb=>by
  have e:b=it:=by simpa using hb
  subst e
  obtain⟨o,e,c,d⟩:=st
  exact⟨o,e,fun v z=>by rw[d] at z;cases z⟩
 keep:=fun i h h' st k=>st.at fun o e=>k it (by simp) o e
 item:=by
  intro X hP hw hK hc i pins s σ H E I hf st hg
  subst hP hw hK
  obtain⟨xs,x,hq,hx⟩:=hg
  obtain⟨its,rv,p,hz⟩:=I.tuple hq
  obtain⟨u,hu,ru⟩:=rv.get hx
  obtain⟨f0,f1,f2,f3,f4,f5⟩:=hf it (by simp)
  refine wpAny_pyNext_tuple_item st (show s.heap.IsTuple a its.toArray from p) (x:=u) (by simpa using hu) fun h' st' sb=>?_
  have I1:Inv X pins σ H { s with heap:=h' }:=I.turned (t':=s.toks) (fun b o hb e=>(sb.2 b hb).trans e) f0 f1 f3 f4 f5
  obtain⟨o,e,c,d⟩:=id st'
  exact⟨u,rfl,go_of (s:={ s with heap:=h' }) e c d (by decide) ⟨x,H,I1,ru,⟨rfl,fun ys hy=>by rw[I.tuple_inj hy hq];exact hx⟩,st',fun b hb=>(hf b hb).1⟩⟩
 done:=by
  intro X hP hw hK hc i pins s σ H E I hf st hg
  subst hP hw hK
  obtain⟨xs,hq,hx⟩:=hg
  obtain⟨its,rv,p,hz⟩:=I.tuple hq
  obtain⟨f0,f1,f2,f3,f4,f5⟩:=hf it (by simp)
  have hl:=rv.length
  exact wpAny_pyNext_tuple_end (I.ok.hd hc) st (show s.heap.IsTuple a its.toArray from p) (by simp;omega) fun h' eb=>⟨rfl,I.turned (t':=s.toks) (fun b o hb e=>eb b o hb e) f0 f1 f3 f4 f5⟩
 self:=fun _ _ _ _ _ st h=>wpAny_pyIter_tupleiter st h
theorem turn_range{P:Program}{w:World}{K:z8}{tg:Expr}(it:Addr)(lo:Int)(n:Nat):qI P w K tg (Itr lo n) [it] it (fun i h=>IsRangeIter h it (lo+(i:Nat)*1) ((n:Int)-(i:Nat)) 1) where
 mem:=by simp
 obj:=fun i h st b hb=>by
  have e:b=it:=by simpa using hb
  subst e
  exact⟨_,st,fun v z=>by
   have z':Data.fields _=Data.cell v:=z
   cases z'⟩
 keep:=fun i h h' st k=>k it (by simp) _ st
 item:=by
  intro X hP hw hK hc i pins s σ H E I hf st hg
  subst hP hw hK
  obtain⟨f0,f1,f2,f3,f4,f5⟩:=hf it (by simp)
  have W:=Walks.range (prog:=X.prog) (w:=X.w) (I.ok.hd hc) it lo 1 n
  refine W.item i s _ _ hg st fun v h' tk hv st' kk=>?_
  obtain⟨t,rfl⟩:=hv
  have I1:Inv X pins σ H { s with heap:=h',toks:=tk }:=I.turned (fun b o hb e=>kk b o (by simpa using hb) e) f0 f1 f3 f4 f5
  refine⟨_,rfl,go_of (s:={ s with heap:=h',toks:=tk }) (n := "range_iterator") st' rfl rfl (by decide) ⟨.int (lo+i),H,I1,⟨t,?_⟩,⟨rfl,rfl⟩,st',fun b hb=>(hf b hb).1⟩⟩
  rw[Int.mul_one]
 done:=by
  intro X hP hw hK hc i pins s σ H E I hf st hg
  subst hP hw hK
  obtain⟨f0,f1,f2,f3,f4,f5⟩:=hf it (by simp)
  exact wpAny_pyNext_range_end (I.ok.hd hc) st (by have:n≤i:=hg;omega) fun h' eb=>⟨rfl,I.turned (t':=s.toks) (fun b o hb e=>eb b o hb e) f0 f1 f3 f4 f5⟩
 self:=fun _ _ _ _ _ st h=>wpAny_pyIter_rangeiter st h
end L2
namespace L2
open PySem PySem.Spec PyProof.Rows
section
variable {X:Cx} {tg:Expr}
def iList(K:z8)(tl:TE):TI:=fun σ H R=>tl σ H fun x H1=>∃ a,x=.ref a∧(∃ xs,SqL K H1 a xs)∧R (Itl K a) H1
def iTup(K:z8)(tl:TE):TI:=fun σ H R=>tl σ H fun x H1=>∃ a,x=.ref a∧(∃ xs,SqT K H1 a xs)∧R (Itt K a) H1
theorem Q6{l:Expr}{tl:TE}(hl:PE X l tl):PI X tg l (iList X.K tl):=by
 intro pins s σ H R I h
 refine thn (hl pins s σ H _ I h) fun v s1 ⟨x,H1,I1,r1,q1⟩=>?_
 obtain⟨a,e,⟨xs,hq⟩,q⟩:=q1
 subst e
 cases r1
 obtain⟨its,rv,p,hz⟩:=I1.list hq
 refine wpAny_pyIter_list p.isList ?_
 refine⟨s1.heap.objs.size,[s1.heap.objs.size],_,_,H1,rfl,I1.kept (t':=s1.toks) fun b o e=>Heap.get?_push_of_some _ e,turn_list a _,⟨_,Heap.get?_push_size _ rfl,rfl,rfl⟩,fun b hb=>?_,q⟩
 have e:b=s1.heap.objs.size:=by simpa using hb
 subst e
 exact I1.fpOk (yl _) (I1.hok.fresh (yl _))
theorem pi_tup{l:Expr}{tl:TE}(hl:PE X l tl):PI X tg l (iTup X.K tl):=by
 intro pins s σ H R I h
 refine thn (hl pins s σ H _ I h) fun v s1 ⟨x,H1,I1,r1,q1⟩=>?_
 obtain⟨a,e,⟨xs,hq⟩,q⟩:=q1
 subst e
 cases r1
 obtain⟨its,rv,p,hz⟩:=I1.tuple hq
 refine wpAny_pyIter_tuple (show s1.heap.IsTuple a its.toArray from p) ?_
 refine⟨s1.heap.objs.size,[s1.heap.objs.size],_,_,H1,rfl,I1.kept (t':=s1.toks) fun b o e=>Heap.get?_push_of_some _ e,turn_tuple a _,⟨_,Heap.get?_push_size _ rfl,rfl,rfl⟩,fun b hb=>?_,q⟩
 have e:b=s1.heap.objs.size:=by simpa using hb
 subst e
 exact I1.fpOk (yl _) (I1.hok.fresh (yl _))
theorem range_it {pins:List (Addr×Obj)} {σ:St} {H:Hp} {s:Shared} {R:It→Hp→Prop} {E:Value→Shared→Prop} {lo hi:Int} {t u v:Tok} {tk:Nat} (I:Inv X pins σ H s) (h1 : -(2 ^ 62)≤lo) (h2:lo<2 ^ 62) (h3 : -(2 ^ 62)≤hi) (h4:hi<2 ^ 62)
  (q:R (Itr lo (hi-lo).toNat) H):wpAny (model X.prog X.w) X.A (pyIter (.ref s.heap.objs.size)) (PIE X pins σ tg R) E { s with heap:=s.heap.push { cls:=.type "range",data:=.fields #[.int lo t,.int hi u,.int 1 v] },toks:=tk }:=by
 refine wpAny_pyIter_range (IsRange.new ..) (small_one h1 h2 h3 h4) ?_
 have I1:Inv X pins σ H { s with heap:=s.heap.push { cls:=.type "range",data:=.fields #[.int lo t,.int hi u,.int 1 v] },toks:=tk }:=I.kept fun b o e=>Heap.get?_push_of_some _ e
 refine⟨(s.heap.push { cls:=.type "range",data:=.fields #[.int lo t,.int hi u,.int 1 v] }).objs.size,[(s.heap.push { cls:=.type "range",data:=.fields #[.int lo t,.int hi u,.int 1 v] }).objs.size],_,_,H,rfl,
  I1.kept (t':=tk) fun b o e=>Heap.get?_push_of_some _ e,turn_range _ lo (hi-lo).toNat,?_,fun b hb=>?_,q⟩
 ·have e1:lo+((0:Nat):Int)*1=lo:=by simp
  have e2:(((hi-lo).toNat:Nat):Int)-((0:Nat):Int)=Builtin.Range.rangeSize lo hi 1:=by rw[rangeSize_one];split <;> omega
  show IsRangeIter _ _ (lo+((0:Nat):Int)*1) ((((hi-lo).toNat:Nat):Int)-((0:Nat):Int)) 1
  rw[e1,e2]
  exact Heap.get?_push_size _ rfl
 ·have e:b=(s.heap.push { cls:=.type "range",data:=.fields #[.int lo t,.int hi u,.int 1 v] }).objs.size:=by simpa using hb
  subst e
  exact I1.fpOk (yl _) (I1.hok.fresh (yl _))
def iRng1(ta:TA):TI:=fun σ H R=>ta σ H fun vs H1=>∃ j:Int,vs=[.int j]∧-(2 ^ 62)≤j∧j<2 ^ 62∧R (Itr 0 j.toNat) H1
theorem Yq{a:Expr}{ta:TA}{p pos:Pos}(hg:Gl X "range")(hm:X.mg "range" = none)(ha:PA X [a] ta) (hs:starEach [a] X.env=[(false,eval a X.env)]:=by rfl):PI X tg (.Call (.Name "range" p) [a] [] pos) (iRng1 ta):=by
 intro pins s σ H R I h
 refine Call_ (Xv I hg hm boot_range (PyProof.Rows.callWith_type1 (thn (ha pos pins s σ H _ I h) fun us s1 ⟨vs,H1,I1,r1,q1⟩=>?_) hs rfl))
 obtain⟨j,e,q1,q2,q⟩:=q1
 subst e
 cases r1 with
 | cons r rr=>
  cases rr
  obtain⟨t,rfl⟩:=r
  exact call_range_1 (range_it I1 (by omega) (by omega) q1 q2 (by simpa using q))
def tFor(wi:TI)(g:TG)(tb:TS):TS:=fun D σ H=>wi σ H fun J H1=>∃ W:Nat→Nat→St→Hp→Prop,(∃ m,W 0 m σ H1)∧∀ i m σ H,W i m σ H→
 (J.stop i H∧D.nx σ H)∨(J.go i H∧∃ N:St→Hp→Prop,(∀ σ' H',N σ' H'→∃ m',m'<m∧W (i+1) m' σ' H')∧∀ x H',J.yld i H x H'→g x σ H' fun σ2 H2=>tb { D with nx:=N,ct:=N,bk:=D.nx } σ2 H2)
def qc(fp:List Addr)(h:Heap):List (Addr×Obj):=fp.filterMap fun b=>(h.get? b).map fun o=>(b,o)
theorem YQ{fp:List Addr}{h:Heap}{b:Addr}{o:Obj}(hb:b∈fp)(e:h.get? b=some o):(b,o)∈qc fp h:=List.mem_filterMap.mpr ⟨b,hb,by rw[e];rfl⟩
theorem of_pinsAt{fp:List Addr}{h:Heap}{p:Addr×Obj}(hp:p∈qc fp h):p.1∈fp∧h.get? p.1=some p.2:=by
 obtain⟨b,hb,e⟩:=List.mem_filterMap.mp hp
 cases q:h.get? b with
 | none=>rw[q] at e;cases e
 | some o=>
  rw[q] at e
  have e':(b,o)=p:=Option.some.inj e
  subst e'
  exact⟨hb,q⟩
theorem Inv.pinned {pins:List (Addr×Obj)} {σ:St} {H:Hp} {s:Shared} {fp:List Addr} (I:Inv X pins σ H s) (hf:∀ b∈fp,JL X pins H b) (ho:∀ b∈fp,∃ o,s.heap.get? b=some o∧∀ v,o.data≠.cell v):Inv X (pins++qc fp s.heap) σ H s:=
 I.pins_of fun p hp=>(List.mem_append.mp hp).elim (fun z=>I.pin p (yW _ z)) fun z=>by
  obtain⟨hb,e⟩:=of_pinsAt z
  obtain⟨f0,f1,f2,_⟩:=hf p.1 hb
  obtain⟨o,e',d⟩:=ho p.1 hb
  rw[e] at e';cases e'
  exact⟨e,f0,f1,f2,d⟩
theorem Inv.unpinned {pins pl:List (Addr×Obj)} {σ:St} {H:Hp} {s:Shared} (I:Inv X (pins++pl) σ H s):Inv X pins σ H s:=I.pins_of fun p hp=>I.pin p (yW _ (GC _ hp))
theorem QQ{iter:Expr}{body:List Stmt}{wi:TI}{g:TG}{tb:TS}{pos:Pos} (hp:PassesOwn (model X.prog X.w) X.A X.env X.xe) (hc:X.calm=true) (hi:PI X tg iter wi) (hg:PG X tg g) (hb:PSs X body tb)
  (hs:∀ x,foldedSetIterable iter X.env x=pure x:=by intro _;rfl):PS X (.For tg iter body [] pos) (tFor wi g tb):=by
 intro pins s σ H D I h
 refine wpAny_For (thn (hi pins s σ H _ I h) fun v s1 h1=>thn h1 fun itv s2 h2=>?_) hs
 obtain⟨it,fp,tn,J,H2,e,I2,T,st2,f2,W,⟨m0,w0⟩,turn⟩:=h2
 subst e
 have stat:∀ {H':Hp},(∀ b∈fp,H' b=none)→∀ b∈fp,JL X pins H' b:=fun hn b hb=>⟨hn b hb,(f2 b hb).2⟩
 refine codeAny_forLoop_any (fun n s'=>∃ i σ' H',Inv X pins σ' H' s'∧tn i s'.heap∧(∀ b∈fp,H' b=none)∧W i n σ' H') ?_ m0 ⟨0,σ,H2,I2,st2,fun b hb=>(f2 b hb).1,w0⟩
 rintro n s3 ⟨i,σ3,H3,I3,st3,fr3,w3⟩
 rcases turn i n σ3 H3 w3 with ⟨stop,qn⟩ | ⟨go,N,hN,step⟩
 ·refine wpAny_passesOwn hp (thn (T.done X rfl rfl rfl hc i pins s3 σ3 H3 X.xe I3 (stat fr3) st3 stop) fun r s4 ⟨hr,I4⟩=>?_)
  subst hr
  exact wpAny_execs_nil ⟨σ3,H3,I4,qn⟩
 ·refine wpAny_passesOwn hp (thn (T.item X rfl rfl rfl hc i pins s3 σ3 H3 X.xe I3 (stat fr3) st3 go) fun r s4 ⟨u,hr,h4⟩=>?_)
  subst hr
  refine wpAny_passesOwn hp (thn h4 fun _ s5 ⟨x,H5,I5,r5,y5,st5,fr5⟩=>?_)
  have I5':=I5.pinned (stat fr5) (T.obj _ _ st5)
  refine wpAny_passesOwn hp (thn (hg _ s5 σ3 H5 x u _ I5' r5 (step x H5 y5)) fun _ s6 ⟨σ6,H6,I6,q6⟩=>?_)
  refine wpAny_passesOwn hp (thn (hb _ s6 σ6 H6 _ I6 q6) fun f s7 q7=>?_)
  have again:∀ {σ7:St} {H7:Hp},Inv X (pins++qc fp s5.heap) σ7 H7 s7→N σ7 H7→∃ m,m<n∧∃ i σ' H',Inv X pins σ' H' s7∧tn i s7.heap∧(∀ b∈fp,H' b=none)∧W i m σ' H':=fun {σ7 H7} I7 n7=>by
   obtain⟨m',hm,w7⟩:=hN σ7 H7 n7
   refine⟨m',hm,i+1,σ7,H7,I7.unpinned,T.keep _ _ _ st5 fun b hb o e=>(I7.pin (b,o) (yW _ (yW _ (YQ hb e)))).1,fun b hb=>?_,w7⟩
   obtain⟨o,e,d⟩:=T.obj _ _ st5 b hb
   exact (I7.pin (b,o) (yW _ (yW _ (YQ hb e)))).2.1
  cases f with
  | next=>obtain⟨σ7,H7,I7,n7⟩:=q7;exact again I7 n7
  | cont=>obtain⟨σ7,H7,I7,n7⟩:=q7;exact again I7 n7
  | brk=>obtain⟨σ7,H7,I7,q7⟩:=q7;exact⟨σ7,H7,I7.unpinned,q7⟩
  | ret v=>obtain⟨x7,σ7,H7,I7,r7,q7⟩:=q7;exact⟨x7,σ7,H7,I7.unpinned,r7,q7⟩
end
theorem Zq{K:z8}{a:Addr}{xs:List V}{g:TG}{tb:TS}{D:Jx}{σ:St}{H:Hp}(Pv:Nat→St→Hp→Prop)(h0:Pv 0 σ H)(hl:∀ i σ H,i≤xs.length→Pv i σ H→SqL K H a xs)
  (hs:∀ i x σ H,xs[i]?=some x→Pv i σ H→g x σ H fun σ2 H2=>tb { D with nx:=Pv (i+1),ct:=Pv (i+1),bk:=D.nx } σ2 H2) (hd:∀ σ H,Pv xs.length σ H→D.nx σ H) :
  ∃ W:Nat→Nat→St→Hp→Prop,(∃ m,W 0 m σ H)∧∀ i m σ H,W i m σ H→
   ((Itl K a).stop i H∧D.nx σ H)∨((Itl K a).go i H∧∃ N:St→Hp→Prop,(∀ σ' H',N σ' H'→∃ m',m'<m∧W (i+1) m' σ' H')∧∀ x H',(Itl K a).yld i H x H'→g x σ H' fun σ2 H2=>tb { D with nx:=N,ct:=N,bk:=D.nx } σ2 H2):=by
 refine⟨fun i m σ H=>m=xs.length-i∧i≤xs.length∧Pv i σ H,⟨xs.length,by simp,yM _,h0⟩,?_⟩
 rintro i m σ H ⟨rfl,hi,p⟩
 have q:=hl i σ H hi p
 by_cases hlt:i<xs.length
 ·refine .inr ⟨⟨xs,xs[i],q,by simp[hlt]⟩,Pv (i+1),fun σ' H' p'=>⟨xs.length-(i+1),by omega,rfl,hlt,p'⟩,fun x H' y=>?_⟩
  obtain⟨e,y⟩:=y
  subst e
  exact hs i x σ _ (y xs q) p
 ·have e:i=xs.length:=by omega
  subst e
  exact .inl ⟨⟨xs,q,yl _⟩,hd σ H p⟩
theorem for_tup{K:z8}{a:Addr}{xs:List V}{g:TG}{tb:TS}{D:Jx}{σ:St}{H:Hp}(Pv:Nat→St→Hp→Prop)(h0:Pv 0 σ H)(hl:∀ i σ H,i≤xs.length→Pv i σ H→SqT K H a xs)
  (hs:∀ i x σ H,xs[i]?=some x→Pv i σ H→g x σ H fun σ2 H2=>tb { D with nx:=Pv (i+1),ct:=Pv (i+1),bk:=D.nx } σ2 H2) (hd:∀ σ H,Pv xs.length σ H→D.nx σ H) :
  ∃ W:Nat→Nat→St→Hp→Prop,(∃ m,W 0 m σ H)∧∀ i m σ H,W i m σ H→
   ((Itt K a).stop i H∧D.nx σ H)∨((Itt K a).go i H∧∃ N:St→Hp→Prop,(∀ σ' H',N σ' H'→∃ m',m'<m∧W (i+1) m' σ' H')∧∀ x H',(Itt K a).yld i H x H'→g x σ H' fun σ2 H2=>tb { D with nx:=N,ct:=N,bk:=D.nx } σ2 H2):=by
 refine⟨fun i m σ H=>m=xs.length-i∧i≤xs.length∧Pv i σ H,⟨xs.length,by simp,yM _,h0⟩,?_⟩
 rintro i m σ H ⟨rfl,hi,p⟩
 have q:=hl i σ H hi p
 by_cases hlt:i<xs.length
 ·refine .inr ⟨⟨xs,xs[i],q,by simp[hlt]⟩,Pv (i+1),fun σ' H' p'=>⟨xs.length-(i+1),by omega,rfl,hlt,p'⟩,fun x H' y=>?_⟩
  obtain⟨e,y⟩:=y
  subst e
  exact hs i x σ _ (y xs q) p
 ·have e:i=xs.length:=by omega
  subst e
  exact .inl ⟨⟨xs,q,yl _⟩,hd σ H p⟩
theorem Yt{lo:Int}{n:Nat}{g:TG}{tb:TS}{D:Jx}{σ:St}{H:Hp}(Pv:Nat→St→Hp→Prop)(h0:Pv 0 σ H)
  (hs:∀ i σ H,i<n→Pv i σ H→g (.int (lo+i)) σ H fun σ2 H2=>tb { D with nx:=Pv (i+1),ct:=Pv (i+1),bk:=D.nx } σ2 H2) (hd:∀ σ H,Pv n σ H→D.nx σ H) :
  ∃ W:Nat→Nat→St→Hp→Prop,(∃ m,W 0 m σ H)∧∀ i m σ H,W i m σ H→
   ((Itr lo n).stop i H∧D.nx σ H)∨((Itr lo n).go i H∧∃ N:St→Hp→Prop,(∀ σ' H',N σ' H'→∃ m',m'<m∧W (i+1) m' σ' H')∧∀ x H',(Itr lo n).yld i H x H'→g x σ H' fun σ2 H2=>tb { D with nx:=N,ct:=N,bk:=D.nx } σ2 H2):=by
 refine⟨fun i m σ H=>m=n-i∧i≤n∧Pv i σ H,⟨n,by simp,yM _,h0⟩,?_⟩
 rintro i m σ H ⟨rfl,hi,p⟩
 by_cases hlt:i<n
 ·refine .inr ⟨hlt,Pv (i+1),fun σ' H' p'=>⟨n-(i+1),by omega,rfl,hlt,p'⟩,fun x H' y=>?_⟩
  obtain⟨e,y⟩:=y
  subst e y
  exact hs i σ _ hlt p
 ·have e:i=n:=by omega
  subst e
  exact .inl ⟨yl _,hd σ H p⟩
end L2
namespace L2
open PySem PySem.Spec PyProof.Rows
abbrev R2:=V→V→Hp→VK→Prop
def OpR(X:Cx)(f:Value→Value→Sem Value)(r:R2):Prop:=
 ∀ (pins:List (Addr×Obj)) (s:Shared) (σ:St) (H:Hp) (x y:V) (v u:Value) (Q:VK),Inv X pins σ H s→QT x v→QT y u→r x y H Q→
  wpAny (model X.prog X.w) X.A (f v u) (EP X pins σ Q) X.xe s
def UnR(X:Cx)(f:Value→Sem Value)(r:V→Hp→VK→Prop):Prop:=
 ∀ (pins:List (Addr×Obj)) (s:Shared) (σ:St) (H:Hp) (x:V) (v:Value) (Q:VK),Inv X pins σ H s→QT x v→r x H Q→
  wpAny (model X.prog X.w) X.A (f v) (EP X pins σ Q) X.xe s
def zp(X:Cx)(f:Value)(r:List V→Hp→VK→Prop):Prop:=
 ∀ (pins:List (Addr×Obj)) (s:Shared) (σ:St) (H:Hp) (xs:List V) (us:List Value) (Q:VK),Inv X pins σ H s→QF xs us→r xs H Q→
  wpAny (model X.prog X.w) X.A (call f us) (EP X pins σ Q) X.xe s
def tOp(r:R2)(ta tb:TE):TE:=fun σ H Q=>ta σ H fun x H1=>tb σ H1 fun y H2=>r x y H2 Q
def tUn(r:V→Hp→VK→Prop)(ta:TE):TE:=fun σ H Q=>ta σ H fun x H1=>r x H1 Q
def rI(C:Int→Int→Prop)(g:Int→Int→V):R2:=fun x y H Q=>∃ i j,x=.int i∧y=.int j∧C i j∧Q (g i j) H
def rI0(g:Int→Int→V):R2:=fun x y H Q=>∃ i j,x=.int i∧y=.int j∧Q (g i j) H
def rU(g:Int→V):V→Hp→VK→Prop:=fun x H Q=>∃ i,x=.int i∧Q (g i) H
section
variable {X:Cx} {a b c:Expr} {ta tb tc:TE} {pos:Pos}
theorem binT(ha:PE X a ta)(hb:PE X b tb) {pins:List (Addr×Obj)} {s:Shared} {σ:St} {H:Hp} {R:V→V→Hp→Prop} (I:Inv X pins σ H s)
  (h:ta σ H fun x H1=>tb σ H1 fun y H2=>R x y H2) {Q:Value→Shared→Prop} {f:Value→Value→Sem Value}
  (hf:∀ v u s2 x y H2,Inv X pins σ H2 s2→QT x v→QT y u→R x y H2→wpAny (model X.prog X.w) X.A (f v u) Q X.xe s2) :
  wpAny (model X.prog X.w) X.A (eval a X.env) (fun v s₁=>wpAny (model X.prog X.w) X.A (eval b X.env) (fun u s₂=>wpAny (model X.prog X.w) X.A (f v u) Q X.xe s₂) X.xe s₁) X.xe s:=by
 refine thn (ha pins s σ H _ I h) fun v s1 ⟨x,H1,I1,r1,q1⟩=>?_
 refine thn (hb pins s1 σ H1 _ I1 q1) fun u s2 ⟨y,H2,I2,r2,q2⟩=>?_
 exact hf v u s2 x y H2 I2 r1 r2 q2
theorem QD{op:Operator}{r:R2} (ho:OpR X (binaryOp op) r) (ha:PE X a ta) (hb:PE X b tb):PE X (.BinOp a op b pos) (tOp r ta tb):=by
 intro pins s σ H Q I h
 exact wpAny_BinOp (binT ha hb I h fun v u s2 x y H2 I2 rx ry q=>ho pins s2 σ H2 x y v u Q I2 rx ry q)
theorem pe_un{op:UnaryOp}{r:V→Hp→VK→Prop} (ho:UnR X (unaryOp op) r) (ha:PE X a ta):PE X (.UnaryOp op a pos) (tUn r ta):=by
 intro pins s σ H Q I h
 exact UnaryOp_ (thn (ha pins s σ H _ I h) fun v s1 ⟨x,H1,I1,r1,q1⟩=>ho pins s1 σ H1 x v Q I1 r1 q1)
theorem opI{f:Value→Value→Sem Value}{C:Int→Int→Prop}{g:Int→Int→Int}
  (rule:∀(i j:Int)(t u:Tok)(s:Shared)(Q:Value→Shared→Prop)(E:Value→Shared→Prop),C i j→Q (.int (g i j) s.toks) { s with toks:=s.toks+1 }→wpAny (model X.prog X.w) X.A (f (.int i t) (.int j u)) Q E s) :
  OpR X f (rI C fun i j=>.int (g i j)):=by
 intro pins s σ H x y v u Q I rx ry h
 obtain⟨i,j,rfl,rfl,hc,q⟩:=h
 obtain⟨t,rfl⟩:=rx
 obtain⟨t',rfl⟩:=ry
 exact rule i j t t' s _ _ hc ⟨.int (g i j),H,I.tok _,⟨_,rfl⟩,q⟩
theorem opI0{f:Value→Value→Sem Value}{g:Int→Int→Int}
  (rule:∀(i j:Int)(t u:Tok)(s:Shared)(Q:Value→Shared→Prop)(E:Value→Shared→Prop),Q (.int (g i j) s.toks) { s with toks:=s.toks+1 }→wpAny (model X.prog X.w) X.A (f (.int i t) (.int j u)) Q E s) :
  OpR X f (rI0 fun i j=>.int (g i j)):=by
 intro pins s σ H x y v u Q I rx ry h
 obtain⟨i,j,rfl,rfl,q⟩:=h
 obtain⟨t,rfl⟩:=rx
 obtain⟨t',rfl⟩:=ry
 exact rule i j t t' s _ _ ⟨.int (g i j),H,I.tok _,⟨_,rfl⟩,q⟩
theorem opB0{f:Value→Value→Sem Value}{g:Int→Int→Bool}
  (rule:∀(i j:Int)(t u:Tok)(s:Shared)(Q:Value→Shared→Prop)(E:Value→Shared→Prop),Q (.bool (g i j)) s→wpAny (model X.prog X.w) X.A (f (.int i t) (.int j u)) Q E s) :
  OpR X f (rI0 fun i j=>.bl (g i j)):=by
 intro pins s σ H x y v u Q I rx ry h
 obtain⟨i,j,rfl,rfl,q⟩:=h
 obtain⟨t,rfl⟩:=rx
 obtain⟨t',rfl⟩:=ry
 exact rule i j t t' s _ _ ⟨.bl (g i j),H,I,rfl,q⟩
def CDiv(i j:Int):Prop:=0<j∧j<1073741824
def CMul(i j:Int):Prop:=(-(2 ^ 64)<i∧i<2 ^ 64)∨(-(2 ^ 64)<j∧j<2 ^ 64)
theorem CMul.ok{i j:Int}(h:CMul i j):IntMulOk i j:=by
 rcases h with ⟨h1,h2⟩ | ⟨h1,h2⟩
 ·exact .of_left (intBits_le_64 h1 h2)
 ·exact .of_right (intBits_le_64 h1 h2)
theorem QU:OpR X (binaryOp .Add) (rI0 fun i j=>.int (i+j)):=opI0 fun _ _ _ _ _ _ _ q=>add_int q
theorem Xu:OpR X (binaryOp .Sub) (rI0 fun i j=>.int (i-j)):=opI0 fun _ _ _ _ _ _ _ q=>sub_int q
theorem ZF:OpR X (binaryOp .Mult) (rI CMul fun i j=>.int (i*j)):=opI fun _ _ _ _ _ _ _ hc q=>mul_int q hc.ok
theorem op_fdiv:OpR X (binaryOp .FloorDiv) (rI CDiv fun i j=>.int (i/j)):=opI fun i j _ _ _ _ _ hc q=>by
 have h1:(0:Int)<j:=hc.1
 have h2:j<1073741824:=hc.2
 exact floordiv_int (by omega) (by rw[Int.fdiv_eq_ediv_of_nonneg i (by omega)];exact q) (.inl (PyProof.noPylong_small (by omega)))
theorem op_mod:OpR X (binaryOp .Mod) (rI (fun _ j=>0<j) fun i j=>.int (i%j)):=opI fun i j _ _ _ _ _ hc q=>by
 have h1:(0:Int)<j:=hc
 exact mod_int' (by omega) (by rw[Int.fmod_eq_emod_of_nonneg i (by omega)];exact q)
theorem unI{f:Value→Sem Value}{g:Int→Int}
  (rule:∀(i:Int)(t:Tok)(s:Shared)(Q:Value→Shared→Prop)(E:Value→Shared→Prop),Q (.int (g i) s.toks) { s with toks:=s.toks+1 }→wpAny (model X.prog X.w) X.A (f (.int i t)) Q E s) :
  UnR X f (rU fun i=>.int (g i)):=by
 intro pins s σ H x v Q I rx h
 obtain⟨i,rfl,q⟩:=h
 obtain⟨t,rfl⟩:=rx
 exact rule i t s _ _ ⟨.int (g i),H,I.tok _,⟨_,rfl⟩,q⟩
theorem un_neg:UnR X (unaryOp .USub) (rU fun i=>.int (-i)):=unI fun _ _ _ _ _ q=>neg_int q
end
def scal:V→V→Bool
 | .non,.non=>true | .non,.int _=>true | .int _,.non=>true | .non,.bl _=>true | .bl _,.non=>true | .non,.str _=>true | .str _,.non=>true
 | .int _,.int _=>true | .bl _,.bl _=>true | .str _,.str _=>true | .byt _,.byt _=>true
 | .int _,.str _=>true | .str _,.int _=>true | .bl _,.str _=>true | .str _,.bl _=>true
 | _,_=>false
def rEq:R2:=fun x y H Q=>scal x y=true∧Q (.bl (decide (x=y))) H
def rNe:R2:=fun x y H Q=>scal x y=true∧Q (.bl (!decide (x=y))) H
theorem JU{i j:Int}:decide (V.int i=V.int j)=(i==j):=by
 rw[yw]
 simp
theorem dec_bl{i j:Bool}:decide (V.bl i=V.bl j)=(i==j):=by
 rw[yw]
 simp
theorem dec_str{i j:Str}:decide (V.str i=V.str j)=(i==j):=by
 rw[yw]
 simp
theorem dec_byt{i j:Array UInt8}:decide (V.byt i=V.byt j)=(i.toList==j.toList):=by
 rw[yw]
 cases i
 cases j
 simp
section
variable {X:Cx} {a b c:Expr} {ta tb tc:TE} {pos:Pos}
theorem QP {pins:List (Addr×Obj)} {σ:St} {H:Hp} {s:Shared} {Q:VK} {k k':Bool} (I:Inv X pins σ H s) (q:Q (.bl k) H) (e:k=k'):EP X pins σ Q (.bool k') s:=by
 subst e
 exact⟨.bl k,H,I,rfl,q⟩
theorem YA:OpR X (compareOp .Eq) rEq:=by
 intro pins s σ H x y v u Q I rx ry h
 obtain⟨hs,q⟩:=h
 cases x with
 | non=>
  cases rx
  cases y with
  | non=>cases ry;exact PySem.EqNone.eq_none_none (QP I q (by simp))
  | bl j=>cases ry;exact PySem.EqNone.eq_none_bool (QP I q (by simp))
  | int j=>obtain⟨t',rfl⟩:=ry;exact PySem.EqNone.eq_none_int (QP I q (by simp))
  | str j=>obtain⟨t',rfl⟩:=ry;exact PySem.EqNone.eq_none_str (QP I q (by simp))
  | _=>exact absurd (show false=true from hs) yJ
 | bl i=>
  cases rx
  cases y with
  | non=>cases ry;exact PySem.EqNone.eq_bool_none (QP I q (by simp))
  | bl j=>cases ry;exact eq_bool (QP I q dec_bl)
  | str j=>obtain⟨t',rfl⟩:=ry;exact PySem.EqMixed.eq_bool_str (QP I q (by simp))
  | _=>exact absurd (show false=true from hs) yJ
 | int i=>
  obtain⟨t,rfl⟩:=rx
  cases y with
  | non=>cases ry;exact PySem.EqNone.eq_int_none (QP I q (by simp))
  | int j=>obtain⟨t',rfl⟩:=ry;exact eq_int (QP I q JU)
  | str j=>obtain⟨t',rfl⟩:=ry;exact PySem.EqMixed.eq_int_str (QP I q (by simp))
  | _=>exact absurd (show false=true from hs) yJ
 | str i=>
  obtain⟨t,rfl⟩:=rx
  cases y with
  | non=>cases ry;exact PySem.EqNone.eq_str_none (QP I q (by simp))
  | bl j=>cases ry;exact PySem.EqMixed.eq_str_bool (QP I q (by simp))
  | int j=>obtain⟨t',rfl⟩:=ry;exact PySem.EqMixed.eq_str_int (QP I q (by simp))
  | str j=>obtain⟨t',rfl⟩:=ry;exact eq_str (QP I q dec_str)
  | _=>exact absurd (show false=true from hs) yJ
 | byt i=>
  obtain⟨t,rfl⟩:=rx
  cases y with
  | byt j=>obtain⟨t',rfl⟩:=ry;exact PySem.W.eq_bytes (QP I q dec_byt)
  | _=>exact absurd (show false=true from hs) yJ
 | _=>cases y <;> exact absurd (show false=true from hs) yJ
theorem Y3:OpR X (compareOp .NotEq) rNe:=by
 intro pins s σ H x y v u Q I rx ry h
 obtain⟨hs,q⟩:=h
 cases x with
 | non=>
  cases rx
  cases y with
  | non=>cases ry;exact PySem.EqNone.ne_none_none (QP I q (by simp))
  | bl j=>cases ry;exact PySem.EqNone.ne_none_bool (QP I q (by simp))
  | int j=>obtain⟨t',rfl⟩:=ry;exact PySem.EqNone.ne_none_int (QP I q (by simp))
  | str j=>obtain⟨t',rfl⟩:=ry;exact PySem.EqNone.ne_none_str (QP I q (by simp))
  | _=>exact absurd (show false=true from hs) yJ
 | bl i=>
  cases rx
  cases y with
  | non=>cases ry;exact PySem.EqNone.ne_bool_none (QP I q (by simp))
  | bl j=>cases ry;exact ne_bool (QP I q (congrArg not dec_bl))
  | str j=>obtain⟨t',rfl⟩:=ry;exact PySem.EqMixed.ne_bool_str (QP I q (by simp))
  | _=>exact absurd (show false=true from hs) yJ
 | int i=>
  obtain⟨t,rfl⟩:=rx
  cases y with
  | non=>cases ry;exact PySem.EqNone.ne_int_none (QP I q (by simp))
  | int j=>obtain⟨t',rfl⟩:=ry;exact ne_int (QP I q (congrArg not JU))
  | str j=>obtain⟨t',rfl⟩:=ry;exact PySem.EqMixed.ne_int_str (QP I q (by simp))
  | _=>exact absurd (show false=true from hs) yJ
 | str i=>
  obtain⟨t,rfl⟩:=rx
  cases y with
  | non=>cases ry;exact PySem.EqNone.ne_str_none (QP I q (by simp))
  | bl j=>cases ry;exact PySem.EqMixed.ne_str_bool (QP I q (by simp))
  | int j=>obtain⟨t',rfl⟩:=ry;exact PySem.EqMixed.ne_str_int (QP I q (by simp))
  | str j=>obtain⟨t',rfl⟩:=ry;exact ne_str (QP I q (congrArg not dec_str))
  | _=>exact absurd (show false=true from hs) yJ
 | byt i=>
  obtain⟨t,rfl⟩:=rx
  cases y with
  | byt j=>obtain⟨t',rfl⟩:=ry;exact PySem.W.ne_bytes (QP I q (congrArg not dec_byt))
  | _=>exact absurd (show false=true from hs) yJ
 | _=>cases y <;> exact absurd (show false=true from hs) yJ
theorem ZL:OpR X (compareOp .Lt) (rI0 fun i j=>.bl (decide (i<j))):=opB0 fun _ _ _ _ _ _ _ q=>lt_int q
theorem q4:OpR X (compareOp .LtE) (rI0 fun i j=>.bl (decide (i≤j))):=opB0 fun _ _ _ _ _ _ _ q=>le_int q
theorem Ze:OpR X (compareOp .Gt) (rI0 fun i j=>.bl (decide (j<i))):=opB0 fun _ _ _ _ _ _ _ q=>gt_int q
theorem op_ge:OpR X (compareOp .GtE) (rI0 fun i j=>.bl (decide (j≤i))):=opB0 fun _ _ _ _ _ _ _ q=>ge_int q
theorem Qo(b:Expr){op:CmpOp}(h:op≠.In:=by decide)(h2:op≠.NotIn:=by decide):behindInMarks op b=false:=by
 have e1:(op==CmpOp.In)=false:=by cases op <;> first | rfl | exact absurd rfl h
 have e2:(op==CmpOp.NotIn)=false:=by cases op <;> first | rfl | exact absurd rfl h2
 cases b <;> simp[behindInMarks,e1,e2]
theorem QO{op:CmpOp}{r:R2} (ho:OpR X (compareOp op) r) (ha:PE X a ta) (hb:PE X b tb) (hm:behindInMarks op b=false):PE X (.Compare a [op] [b] pos) (tOp r ta tb):=by
 intro pins s σ H Q I h
 exact wpAny_Compare1 (binT ha hb I h fun v u s2 x y H2 I2 rx ry q=>ho pins s2 σ H2 x y v u Q I2 rx ry q) hm
def tTest(t:TE):TT:=fun σ H Q=>t σ H fun x H'=>∃ k,x=.bl k∧Q k H'
theorem Qu{op:CmpOp}{r:R2} (ho:OpR X (compareOp op) r) (ha:PE X a ta) (hb:PE X b tb) (hm:behindInMarks op b=false):PT X (.Compare a [op] [b] pos) (tTest (tOp r ta tb)):=by
 intro pins s σ H Q I h
 refine wpAny_isTrue_Compare1 (thn (ha pins s σ H _ I h) fun v s1 ⟨x,H1,I1,r1,q1⟩=>thn (hb pins s1 σ H1 _ I1 q1) fun u s2 ⟨y,H2,I2,r2,q2⟩=>
  thn (ho pins s2 σ H2 x y v u _ I2 r1 r2 q2) fun c s3 ⟨z,H3,I3,r3,k,e,q3⟩=>?_) hm
 subst e
 cases r3
 exact wpAny_truthy_bool ⟨H3,I3,q3⟩
theorem line63:(sizeLine:Nat)<2 ^ 63:=by rw[sizeLine_eq];decide
theorem vals1{x:V}{us:List Value}(r:QF [x] us):∃ u,us=[u]∧QT x u:=by
 cases r with
 | cons r1 r2=>cases r2;exact⟨_,rfl,r1⟩
end
end L2
namespace L2
open PySem PySem.Spec PyProof.Rows
structure ObjM(h:Heap)(x dx C:Addr)(mA:Str→Option Value):Prop where
 obj:h.get? x=some (jU C dx)
 ns:h.Ns1 dx mA
 ne:dx≠x
theorem lookIn_ns{h:Heap}{dx:Addr}{mA:Str→Option Value}(n:h.Ns1 dx mA):∃ od,h.get? dx=some od∧∀ name,GQ name od=some (mA name):=by
 obtain⟨o,es,ep,ho,hd,hk,_,hm⟩:=n
 refine⟨o,ho,fun name=>?_⟩
 have e:=hm name
 unfold nsFind findBy at e
 rw[←Array.find?_toList] at e
 unfold GQ
 rw[hd]
 dsimp only
 split
 ·rename_i y q
  rw[q] at e
  exact congrArg some e
 ·rename_i q
  rw[q] at e
  have a:es.toList.any (·.refKey)=false:=by
   rw[jO]
   intro y hy
   obtain⟨z,t,hkey⟩:=hk y (Array.mem_toList_iff.mp hy)
   simp[DictEntry.refKey,hkey]
  have a':¬ es.toList.any (·.refKey)=true:=by rw[a];exact yJ
  rw[if_neg a']
  exact congrArg some e
theorem ObjM.look{h:Heap}{x dx C:Addr}{mA:Str→Option Value}(I:ObjM h x dx C mA):∃ od,PySem.W.InstAt h x (jU C dx) C (some od)∧∀ name,GQ name od=some (mA name):=
 let ⟨od,ho,hl⟩:=lookIn_ns I.ns
 ⟨od,⟨I.obj,rfl,rfl,ho⟩,hl⟩
section
variable {prog:Program} {w:World} {A:Around} {E:Value→Shared→Prop} {s:Shared} {K:z8} {x dx C f:Addr} {mA:Str→Option Value} {name:Str} {v:Value}
theorem get_map{expr:Bool}{Q:Value→Shared→Prop}(X:K.In s.heap)(I:ObjM s.heap x dx C mA)(hg:xU K C name=true)(hh:Gu K C=true)
  (ha:y9 K (.ref C) name=some none) (hv:mA name=some v) (hv':PySem.W.handedIn v=true) (h:Q v { s with toks:=s.toks+1 }) :
  wpAny (model prog w) A (getAttr (.ref x) name expr) Q E s:=by
 obtain⟨od,J,hl⟩:=I.look
 exact PySem.W.get_value X J (GG hg).1 (PySem.W.findObj_own hh ha rfl (by rw[hl,hv])) hv' h
theorem get_meth{pl:Sem Bool}{Q:Value×List Value→Shared→Prop}(X:K.In s.heap)(I:ObjM s.heap x dx C mA)(hg:xU K C name=true)
  (hf:y9 K (.ref C) name=some (some (.ref f))) (ht:GL K (.ref f)=true) (hv:mA name=none) (h:Q (.ref f,[.ref x]) s) :
  wpAny (model prog w) A (getMethod (.ref x) name pl) Q E s:=by
 obtain⟨od,J,hl⟩:=I.look
 exact PySem.W.method_fn X J (GG hg).1 (GG hg).2 hf (beq_iff_eq.mp ht) (by show (GQ name od).map (·.isSome)=some false;rw[hl,hv];rfl) h
theorem set_map{ns:List Str}{Q:Unit→Shared→Prop}(X:K.In s.heap)(I:ObjM s.heap x dx C mA)
  (hs:y9 K (.ref C) "__setattr__" = some (some (.builtin "object.__setattr__"))) (hp:G0 K C=true) (ht:Uq K C name=some none) (hh:Gu K C=true)
  (hw:PySem.Within mA ns) (hsz:ns.length≤sizeLine)
  (h:∀ h',ObjM h' x dx C (fun y=>if y=name then some v else mA y)→Heap.SameBut dx s.heap h'→Q () { s with heap:=h',toks:=s.toks+2 }) :
  wpAny (model prog w) A (setAttr (.ref x) name v) Q E s:=by
 obtain⟨od,J,hl⟩:=I.look
 refine PySem.W.set_plain X J hs (PySem.W.osa_open (s:={ s with toks:=s.toks+1 }) (r:=none) X J hp ht fun b=>?_)
 obtain⟨cd,hc,hd'⟩:=PySem.W.any_some hh
 have hx:s.heap.get? x=some ⟨.ref C,some dx,.plain,#[]⟩:=I.obj
 refine wpAny_bind (wpAny_pure (wpAny_bind (wpAny_bind (wpAny_loadPart hx (wpAny_bind (PySem.W.Looks.here (s:={ s with toks:=s.toks+1 }) (PySem.W.looks_clsIn X hc) ?_))))))
 rw[hd']
 refine wpAny_pure (a:=some dx) (wpAny_bind (wpAny_pure (wpAny_bind ?_)))
 refine wpAny_nsSet1 (s:={ s with toks:=s.toks+1 }) I.ns fun h' hn2 hs2=>?_
 obtain⟨oD,esD,epD,hoD,hdD,hcD⟩:=hn2.count (PySem.Within.cons name v hw)
 refine wpAny_bind (wpAny_lookBehind hoD (by rw[hdD];exact pastItsLine_dict (yE hcD (by rw[yx];omega))) ?_)
 exact wpAny_pure (h _ ⟨(hs2.2 _ (Ne.symm I.ne)).trans I.obj,hn2,I.ne⟩ hs2)
theorem make_map{R:Result→Shared→Prop}{vs:List Value} {kw:List (Str×Value)} (X:K.In s.heap) (hm:Ur K C=true)
  (hi:y9 K (.ref C) "__init__" = some (some (.ref f))) (hf:PySem.W.typeIn K (.ref f)=some (.type "function"))
  (h:codeAny (model prog w) (A.under (.builtin "type.__call__" ⟨.ref C::vs,kw⟩)) (.call (.ref f) ⟨.ref (s.heap.objs.size+1)::vs,kw⟩) (PySem.W.InitBack (s.heap.objs.size+1) R)
   { s with heap:=(s.heap.push jm).push (jU C s.heap.objs.size) }) :
  codeAny (model prog w) A (.call (.ref C) ⟨vs,kw⟩) R s:=by
 obtain⟨hh,g,d,t,os⟩:=s
 exact PySem.W.make_core (PySem.W.makes_of X hm) (PySem.W.looks_findIn X hi) (fun self=>PySem.W.bind_fn X self hf) (.inl rfl) h
end
def Xs(f:Str)(v:V):List (Str×V)→List (Str×V)
 | []=>[(f,v)]
 | (g,x)::r=>if g=f then (g,v)::r else (g,x)::Xs f v r
theorem Qy(f g:Str)(v:V):∀ fs:List (Str×V),(Xs f v fs).lookup g=if g=f then some v else fs.lookup g
 | []=>by
  show xQ g [(f,v)]=_
  by_cases h:g=f
  ·have hb:(g==f)=true:=beq_iff_eq.mpr h
   simp only[xQ,hb,if_pos h]
  ·have hb:(g==f)=false:=beq_eq_false_iff_ne.mpr h
   simp only[xQ,hb,if_neg h]
 | (k,x)::r=>by
  have ih:=Qy f g v r
  rw[show Xs f v ((k,x)::r)=(if k=f then (k,v)::r else (k,x)::Xs f v r) from rfl]
  by_cases hk:k=f
  ·rw[if_pos hk]
   by_cases h:g=k
   ·have hb:(g==k)=true:=beq_iff_eq.mpr h
    simp only[xQ,hb,if_pos (h.trans hk)]
   ·have hb:(g==k)=false:=beq_eq_false_iff_ne.mpr h
    simp only[xQ,hb,if_neg (fun e:g=f=>h (e.trans hk.symm))]
  ·rw[if_neg hk]
   by_cases h:g=k
   ·have hb:(g==k)=true:=beq_iff_eq.mpr h
    simp only[xQ,hb,if_neg (fun e:g=f=>hk (h.symm.trans e))]
   ·have hb:(g==k)=false:=beq_eq_false_iff_ne.mpr h
    simp only[xQ,hb]
    exact ih
theorem Jp(f:Str)(v:V):∀ fs:List (Str×V),f∈(Xs f v fs).map (·.1)∧∀ g,g∈fs.map (·.1)→g∈(Xs f v fs).map (·.1)
 | []=>⟨by simp[Xs],fun g h=>by simp at h⟩
 | (k,x)::r=>by
  obtain⟨i1,i2⟩:=Jp f v r
  rw[show Xs f v ((k,x)::r)=(if k=f then (k,v)::r else (k,x)::Xs f v r) from rfl]
  by_cases hk:k=f
  ·rw[if_pos hk]
   subst hk
   exact⟨by simp,fun g h=>by simpa using h⟩
  ·rw[if_neg hk]
   refine⟨?_,fun g h=>?_⟩
   ·rw[yD]
    exact ym _ i1
   ·rw[yD] at h ⊢
    rcases List.mem_cons.mp h with e | e
    ·exact List.mem_cons.mpr (.inl e)
    ·exact ym _ (i2 g e)
theorem JB(f:Str)(v:V):∀ fs:List (Str×V),(Xs f v fs).length≤fs.length+1
 | []=>by simp[Xs]
 | (k,x)::r=>by
  have ih:=JB f v r
  rw[show Xs f v ((k,x)::r)=(if k=f then (k,v)::r else (k,x)::Xs f v r) from rfl]
  by_cases hk:k=f
  ·rw[if_pos hk,yx,yx];omega
  ·rw[if_neg hk,yx,yx];omega
theorem Yx.some_of{v:V}{o:Option Value} (r:Yx (some v) o):∃ u,o=some u∧QT v u:=by
 cases o with
 | none=>exact (show False from r).elim
 | some u=>exact⟨u,rfl,r⟩
theorem Yx.none_of{o:Option Value}(r:Yx none o):o=none:=by
 cases o with
 | none=>rfl
 | some u=>exact (show False from r).elim
theorem handed_of{v:V}{u:Value}(r:QT v u):PySem.W.handedIn u=true:=by
 cases v with
 | non=>cases (show u=Value.none from r);rfl
 | bl b=>cases (show u=Value.bool b from r);rfl
 | int i=>obtain⟨t,e⟩:=(show ∃ t,u=Value.int i t from r);cases e;rfl
 | str x=>obtain⟨t,e⟩:=(show ∃ t,u=Value.str x t from r);cases e;rfl
 | byt b=>obtain⟨t,e⟩:=(show ∃ t,u=Value.bytes b t from r);cases e;rfl
 | flt b=>obtain⟨t,e⟩:=(show ∃ t,u=Value.float b t from r);cases e;rfl
 | ref a=>cases (show u=Value.ref a from r);rfl
 | ty n=>cases (show u=Value.type n from r);rfl
section
variable {P:Program} {w:World} {H H':Hp} {h h':Heap} {a C dx:Addr} {fs fs':List (Str×V)}
theorem zO(hok:HOk P w H h) (e:H a=some (.ins C dx fs)):∃ mA,ObjM h a dx C mA∧(∀ f,Yx (fs.lookup f) (mA f))∧PySem.Within mA (fs.map (·.1))∧fs.length≤1000∧H dx=some (.own a):=by
 obtain⟨d,z,ne,ob,mA,n,r,q⟩:=(show Q3 P w H h a (.ins C dx fs) from hok a _ e)
 exact⟨mA,⟨ob,n,ne⟩,r,q,z,d⟩
end
structure Cls(K:z8)(C:Addr):Prop where
 pg:xU K C Str.empty=true
 hd:Gu K C=true
 po:G0 K C=true
 sa:y9 K (.ref C) "__setattr__" = some (some (.builtin "object.__setattr__"))
theorem Cls.get{K:z8}{C:Addr}(c:Cls K C)(f:Str):xU K C f=true:=c.pg
def Zi(K:z8)(C:Addr)(f:Str):Prop:=y9 K (.ref C) f=some none
theorem Zi.taker{K:z8}{C:Addr}{f:Str}(n:Zi K C f):Uq K C f=some none:=by
 unfold Uq
 rw[show y9 K (.ref C) f=some none from n]
 rfl
structure Meth(K:z8)(C:Addr)(m:Str)(f:Addr):Prop where
 at_:y9 K (.ref C) m=some (some (.ref f))
 fn:GL K (.ref f)=true
 kp:yY K (.ref f)=true
section
variable {X:Cx} {pins:List (Addr×Obj)} {σ:St} {H:Hp} {s:Shared} {a C dx:Addr} {fs:List (Str×V)} {f:Str} {v:V} {A:Around} {E:Value→Shared→Prop}
theorem getattr_ok{b:Bool}{Q:Value→Shared→Prop}(I:Inv X pins σ H s) (e:H a=some (.ins C dx fs)) (c:Cls X.K C) (n:Zi X.K C f) (l:fs.lookup f=some v)
  (h:∀ u s',Inv X pins σ H s'→QT v u→Q u s'):wpAny (model X.prog X.w) A (getAttr (.ref a) f b) Q E s:=by
 obtain⟨mA,O,r,_,_,_⟩:=zO I.hok e
 obtain⟨u,hu,ru⟩:=Yx.some_of (v:=v) (o:=mA f) (by rw[←l];exact r f)
 exact get_map I.kIn O (c.get f) c.hd n hu (handed_of ru) (h u _ (I.tok _) ru)
theorem qi{m:Str}{g:Addr}{pl:Sem Bool}{Q:Value×List Value→Shared→Prop}(I:Inv X pins σ H s) (e:H a=some (.ins C dx fs)) (c:Cls X.K C) (k:Meth X.K C m g) (l:fs.lookup m=none)
  (h:Q (.ref g,[.ref a]) s):wpAny (model X.prog X.w) A (getMethod (.ref a) m pl) Q E s:=by
 obtain⟨mA,O,r,_,_,_⟩:=zO I.hok e
 have hn:mA m=none:=Yx.none_of (by rw[←l];exact r m)
 exact get_meth I.kIn O (c.get m) k.at_ k.fn hn h
theorem setattr_ok{y:V}{u:Value}{Q:Unit→Shared→Prop}(I:Inv X pins σ H s) (e:H a=some (.ins C dx fs)) (c:Cls X.K C) (n:Zi X.K C f) (hl:fs.length<1000) (ry:QT y u)
  (h:∀ s',Inv X pins σ (upd H a (.ins C dx (Xs f y fs))) s'→Q () s'):wpAny (model X.prog X.w) A (setAttr (.ref a) f u) Q E s:=by
 obtain⟨mA,O,r,wi,_,ho⟩:=zO I.hok e
 have hz:(fs.map (·.1)).length≤sizeLine:=by rw[yc,sizeLine_eq];omega
 refine set_map I.kIn O c.sa c.po n.taker c.hd wi hz fun h' O' sb=>h _ ?_
 have hd:∃ o,h'.get? dx=some o:=let ⟨o,_,_,e',_⟩:=O'.ns;⟨o,e'⟩
 refine I.write (x:=a) (e:=dx) (by rw[e];exact True.intro) (.inr ho) (fun b q hb z=>(sb.2 b hb).trans z) hd ?_
 refine⟨by rw[Qq O.ne];exact ho,?_,O.ne,O'.obj,_,O'.ns,fun g=>?_,fun g hg=>?_⟩
 ·have:=JB f y fs;omega
 ·show Yx ((Xs f y fs).lookup g) (if g=f then some u else mA g)
  rw[Qy]
  by_cases q:g=f
  ·rw[if_pos q,if_pos q];exact ry
  ·rw[if_neg q,if_neg q];exact r g
 ·by_cases q:g=f
  ·rw[q];exact (Jp f y fs).1
  ·refine (Jp f y fs).2 g (wi g fun z=>hg ?_)
   show (if g=f then some u else mA g)=none
   rw[if_neg q];exact z
theorem Inv.made(I:Inv X pins σ H s):Inv X pins σ (upd (upd H s.heap.objs.size (.own (s.heap.objs.size+1))) (s.heap.objs.size+1) (.ins C s.heap.objs.size []))
  { s with heap:=(s.heap.push jm).push (jU C s.heap.objs.size) }:=by
 have e1:(s.heap.push jm).get? s.heap.objs.size=some jm:=Heap.get?_push_size s.heap rfl
 have e2:((s.heap.push jm).push (jU C s.heap.objs.size)).get? (s.heap.objs.size+1)=some (jU C s.heap.objs.size):=by
  have:=Heap.get?_push_size (s.heap.push jm) (o:=jU C s.heap.objs.size) rfl
  rwa [Heap.size_push] at this
 have e3:(s.heap.push jm).Ns s.heap.objs.size (fun _=>none):=⟨jm,#[],_,e1,rfl,(fun e he=>absurd he (by simp)),fun _=>rfl⟩
 have I1:=I.laid (a:=s.heap.objs.size) (o:=.own (s.heap.objs.size+1)) (h':=s.heap.push jm) (t':=s.toks) (fun b u q=>Heap.get?_push_of_some _ q) (yl _) ⟨_,e1⟩
 refine I1.laid (a:=s.heap.objs.size+1) (o:=.ins C s.heap.objs.size []) (t':=s.toks) (fun b u q=>Heap.get?_push_of_some _ q) (GJ (Heap.size_push _ _)) ?_
 have ne:s.heap.objs.size≠s.heap.objs.size+1:=yr (G8 _)
 refine⟨by rw[Qq ne,Qh],yM _,ne,e2,fun _=>none,(Heap.Ns1.of_empty e3).at fun o q=>Heap.get?_push_of_some _ q,fun _=>True.intro,fun y hy=>absurd rfl hy⟩
theorem attr_of{prog:Program}{w:World}{env:Env}{e:Expr}{f:Str}{pos:Pos}{s:Shared}{Q:Value→Shared→Prop} (hb:attributeBase e f env (eval e env)=eval e env)
  (h:wpAny (model prog w) A (eval e env) (fun o s₁=>wpAny (model prog w) A (getAttr o f true) Q E s₁) E s):wpAny (model prog w) A (eval (.Attribute e f pos) env) Q E s:=
 Attribute_any_ h (by rw[arm_eval_Attribute,hb])
end
def tFld(K:z8)(ta:TE)(f:Str):TE:=fun σ H Q=>ta σ H fun x H1=>∃ a C dx fs v,x=.ref a∧H1 a=some (.ins C dx fs)∧Cls K C∧Zi K C f∧fs.lookup f=some v∧Q v H1
def sFld(K:z8)(ta tv:TE)(f:Str):TS:=fun D σ H=>tv σ H fun y H1=>ta σ H1 fun x H2=>∃ a C dx fs,x=.ref a∧H2 a=some (.ins C dx fs)∧Cls K C∧Zi K C f∧fs.length<1000∧
 D.nx σ (upd H2 a (.ins C dx (Xs f y fs)))
section
variable {X:Cx} {o e value:Expr} {f:Str} {pos pos' tpos:Pos} {ta tv:TE}
theorem QB(he:PE X e ta) (hb:attributeBase e f X.env (eval e X.env)=eval e X.env):PE X (.Attribute e f pos) (tFld X.K ta f):=by
 intro pins s σ H Q I h
 refine attr_of hb (thn (he pins s σ H _ I h) fun u s1 ⟨x,H1,I1,rx,a,C,dx,fs,v,ex,ea,c,n,l,q⟩=>?_)
 subst ex
 obtain rfl:u=Value.ref a:=rx
 exact getattr_ok I1 ea c n l fun u' s2 I2 ru=>⟨v,H1,I2,ru,q⟩
theorem qa(ha:PE X o ta)(hv:PE X value tv) (hs:swapsWith value (some (.Attribute o f pos')) pos.line X.env=pure false):PS X (.Assign [.Attribute o f pos'] value pos) (sFld X.K ta tv f):=by
 intro pins s σ H D I h
 refine plainObj_wpAny_Assign_Attribute (thn (hv pins s σ H _ I h) fun u s1 ⟨y,H1,I1,ry,q⟩=>thn (ha pins s1 σ H1 _ I1 q) fun ov s2 ⟨x,H2,I2,rx,a,C,dx,fs,ex,ea,c,n,l,q2⟩=>?_) hs
 subst ex
 obtain rfl:ov=Value.ref a:=rx
 exact setattr_ok I2 ea c n l ry fun s3 I3=>⟨σ,_,I3,q2⟩
end
section
variable {X:Cx} {pins:List (Addr×Obj)} {σ:St} {H:Hp} {s:Shared} {A:Around} {E:Value→Shared→Prop} {Q:Value→Shared→Prop} {c:Value} {b:Bool}
end
end L2
namespace L2
open PySem PySem.Spec PyProof.Rows
structure ZK(k:Nat)(A:Around):Prop where
 hd:A.handled=none
 dp:A.depth+3*k+5<recursionLimit
 un:A.units+16*k+200<cLine
theorem ZK.mono{j k:Nat}{A:Around}(r:ZK k A)(h:j≤k):ZK j A:=⟨r.hd,by have:=r.dp;omega,by have:=r.un;omega⟩
theorem ZK.deeper{k:Nat}{A:Around} (r:ZK (k+1) A) (env:Env):ZK k (A.deeper env):=
 ⟨r.hd,by have:=r.dp;show A.depth+1+3*k+5<_;omega,by have:=r.un;show A.units+3+16*k+200<_;omega⟩
theorem make_depth{A:Around}{C:Addr}{us:List Value} {kw:List (Str×Value)}:(A.under (.builtin "type.__call__" ⟨.ref C::us,kw⟩)).depth=A.depth+1:=by
 first | rfl | simp[Around.under,Code.weight,Code.isCreation,Code.isGuard,Code.isCaller,Code.frames,Code.isFrame,guardIds]
theorem make_units{A:Around}{C:Addr}{us:List Value} {kw:List (Str×Value)}:(A.under (.builtin "type.__call__" ⟨.ref C::us,kw⟩)).units=A.units+1:=by
 first | rfl | simp[Around.under,Code.cUnits,Code.frames,Code.isFrame]
theorem ZK.make{k:Nat}{A:Around} (r:ZK (k+1) A) (C:Addr) (us:List Value) (kw:List (Str×Value)):ZK k (A.under (.builtin "type.__call__" ⟨.ref C::us,kw⟩)):=
 ⟨r.hd,by have:=r.dp;rw[make_depth];omega,by have:=r.un;rw[make_units];omega⟩
theorem ZK.depth{k:Nat}{A:Around}(r:ZK k A):A.depth<recursionLimit:=by have:=r.dp;omega
theorem ZK.units{k:Nat}{A:Around}(r:ZK k A):A.units+64<cLine:=by have:=r.un;omega
def zq:TA:=fun _ H Q=>Q [] H
def XY(ta:TE)(tr:TA):TA:=fun σ H Q=>ta σ H fun x H1=>tr σ H1 fun xs H2=>Q (x::xs) H2
section
variable {X:Cx} {e:Expr} {es:List Expr} {te:TE} {t:TA} {pos:Pos}
theorem Qc:PA X [] zq:=fun _ _ _ _ H Q I h=>Calls.spliced_nil ⟨[],H,I,.nil,h⟩
theorem Qa(ha:PE X e te)(hr:PA X es t) (hs:starEach (e::es) X.env=(false,eval e X.env)::starEach es X.env:=by rfl):PA X (e::es) (XY te t):=by
 intro pos pins s σ H Q I h
 rw[hs]
 show wpAny _ _ (spliced ((false,eval e X.env)::backTo pos (starEach es X.env))) _ _ s
 refine Calls.spliced_cons (thn (ha pins s σ H _ I h) fun u s1 ⟨x,H1,I1,r1,q1⟩=>?_)
 exact thn (hr pos pins s1 σ H1 _ I1 q1) fun us s2 ⟨xs,H2,I2,r2,q2⟩=>⟨x::xs,H2,I2,.cons r1 r2,q2⟩
def tTup(t:TA):TE:=fun σ H Q=>t σ H fun xs H1=>xs.length≤sizeLine∧∀ p,H1 p=none→Q (.ref p) (upd H1 p (.tup xs))
def tLst(t:TA):TE:=fun σ H Q=>t σ H fun xs H1=>xs.length≤sizeLine∧∀ p,H1 p=none→Q (.ref p) (upd H1 p (.lst xs))
theorem Q4{x1}(h:PA X es t):PE X (.Tuple es x1 pos) (tTup t):=by
 intro pins s σ H Q I hq
 refine wpAny_Tuple_spliced (thn (h pos pins s σ H _ I hq) fun us s1 ⟨xs,H1,I1,r,z,q⟩=>⟨by rw[←r.length];exact z,?_⟩)
 have hf:H1 s1.heap.objs.size=none:=I1.hok.fresh (yl _)
 refine⟨.ref s1.heap.objs.size,upd H1 s1.heap.objs.size (.tup xs),I1.laid (t':=s1.toks) (fun b u e=>Heap.get?_push_of_some _ e) (yl _) ?_,rfl,q _ hf⟩
 exact⟨z,us,r,⟨_,Heap.get?_push_size _ rfl,rfl,_,rfl⟩⟩
theorem ZD(h:PA X es t):PE X (.List es pos) (tLst t):=by
 intro pins s σ H Q I hq
 refine wpAny_List_spliced (thn (h pos pins s σ H _ I hq) fun us s1 ⟨xs,H1,I1,r,z,q⟩=>⟨by rw[←r.length];exact z,?_⟩)
 have hf:H1 s1.heap.objs.size=none:=I1.hok.fresh (yl _)
 refine⟨.ref s1.heap.objs.size,upd H1 s1.heap.objs.size (.lst xs),I1.laid (t':=s1.toks) (fun b u e=>Heap.get?_push_of_some _ e) (yl _) ?_,rfl,q _ hf⟩
 exact⟨z,us,0,r,Heap.get?_push_size _ rfl⟩
end
abbrev Sp:=List V→Hp→VK→XK→Prop
abbrev CXT:=List Env→Hp→Shared→XK→Value→Shared→Prop
structure Env0(P:Program)(w:World)(K:z8)(mg:Str→Option Value)(base:Heap)(A:Around)(outer:List Env)(s:Shared)(H:Hp):Prop where
 frames:A.frames=some outer
 mod:Mod K mg base
 bs:∀ b o,base.get? b=some o→s.heap.get? b=some o∧H b=none
 bsz:base.objs.size≤s.heap.objs.size
 funs:s.heap.FunFrames base outer
 frf:∀ b∈frs outer,H b=none
 hok:HOk P w H s.heap
 bare:AllBare s.gens
def CE(outer:List Env)(P:Program)(w:World)(H:Hp)(s:Shared)(Q:VK)(u:Value)(s':Shared):Prop:=
 ∃ v H',s'.os=s.os∧AllBare s'.gens∧Un (frs outer) [] H H' s.heap s'.heap∧HOk P w H' s'.heap∧QT v u∧Q v H'
def CR(CX:CXT)(outer:List Env)(P:Program)(w:World)(H:Hp)(s:Shared)(Q:VK)(E:XK)(r:Result)(s':Shared):Prop:=
 match r with
 | .ok (.ret u)=>CE outer P w H s Q u s'
 | .ok _=>False
 | .error e=>CX outer H s E e s'
structure QI(P:Program)(w:World)(K:z8)(mg:Str→Option Value)(base:Heap)(CX:CXT)(k:Nat)(f:Addr)(fd:FuncData)(ps:List Str)(sp:Sp):Prop where
 len:∀ vs H Q E,sp vs H Q E→vs.length=ps.length
 run:∀(A:Around)(outer:List Env)(s:Shared)(H:Hp)(args:Args)(us:List Value)(vs:List V)(Q:VK)(E:XK),ZK k A→Env0 P w K mg base A outer s H→BindsTo s fd args (ps.zip us)→QF vs us→sp vs H Q E→
  codeAny (model P w) A (.call (.ref f) args) (CR CX outer P w H s Q E) s
theorem QI.mono{P:Program}{w:World}{K:z8}{mg:Str→Option Value}{base:Heap}{CX:CXT}{j k:Nat}{f:Addr}{fd:FuncData}{ps:List Str}{sp:Sp}(F:QI P w K mg base CX j f fd ps sp)(h:j≤k) :
  QI P w K mg base CX k f fd ps sp:=⟨F.len,fun A outer s H args us vs Q E hr=>F.run A outer s H args us vs Q E (hr.mono h)⟩
theorem Env0.make{P:Program}{w:World}{K:z8}{mg:Str→Option Value}{base:Heap}{A:Around}{outer:List Env}{s:Shared}{H:Hp}(e:Env0 P w K mg base A outer s H)(C:Addr)(us:List Value) (kw:List (Str×Value)) :
  Env0 P w K mg base (A.under (.builtin "type.__call__" ⟨.ref C::us,kw⟩)) outer s H:=⟨by first | exact e.frames | (simpa [Around.under,Code.envs,Code.isFrame,pushEnvs] using e.frames),e.mod,e.bs,e.bsz,e.funs,e.frf,e.hok,e.bare⟩
section
variable {X:Cx} {pins:List (Addr×Obj)} {σ:St} {H:Hp} {s s':Shared}
theorem Inv.env0(I:Inv X pins σ H s):Env0 X.prog X.w X.K X.mg X.base X.A X.stack s H:=
 ⟨I.ok.frames,I.ok.mod,I.bs,yE I.ok.bsz I.sz,I.stack,I.stkFree,I.hok,I.bare⟩
theorem Inv.after{Q:VK}{u:Value}(I:Inv X pins σ H s)(h:CE X.stack X.prog X.w H s Q u s'):EP X pins σ Q u s':=by
 obtain⟨v,H',os,bare,un,hok,r,q⟩:=h
 obtain⟨hh,g,d,t,os'⟩:=s'
 obtain rfl:os'=s.os:=os
 exact⟨v,H',I.call (h':=hh) (g':=g) (d':=d) (t':=t) (ch:=[]) un hok bare (fun b z=>absurd z (by simp)),r,q⟩
end
def tCall(sp:Sp)(dvs:List V)(E:XK)(t:TA):TE:=fun σ H Q=>t σ H fun vs H1=>sp (vs++dvs) H1 Q E
def qL(C:Addr)(m:Str)(sp:Sp)(dvs:List V)(E:XK)(ta:TE)(t:TA):TE:=fun σ H Q=>ta σ H fun x H1=>∃ a dx fs,x=.ref a∧H1 a=some (.ins C dx fs)∧fs.lookup m=none∧
 t σ H1 fun vs H2=>sp (x::(vs++dvs)) H2 Q E
def tMake(C:Addr)(sp:Sp)(dvs:List V)(E:XK)(t:TA):TE:=fun σ H Q=>t σ H fun vs H1=>∀ x dx,H1 x=none→H1 dx=none→dx≠x→
 sp (.ref x::(vs++dvs)) (upd (upd H1 dx (.own x)) x (.ins C dx [])) (fun v H2=>v=.non∧Q (.ref x) H2) E
def Xg(K:z8)(fd:FuncData)(ps:List Str)(ds:List Value):Prop:=
 ∀(s:Shared)(us:List Value),K.In s.heap→(us++ds).length=ps.length→BindsTo s fd ⟨us,[]⟩ (ps.zip (us++ds))
theorem Xg.all{K:z8}{fd:FuncData}{ps:List Str} (h:∀ us:List Value,us.length=ps.length→bindArgs fd ⟨us,[]⟩=pure (ps.zip us)):Xg K fd ps []:=fun s us _ hl=>by
 rw[xM] at hl ⊢
 exact .of_eq (h us hl)
def YV(CX:CXT)(X:Cx)(E:XK):Prop:=∀ (pins:List (Addr×Obj)) (σ:St) (H:Hp) (s:Shared) (e:Value) (s':Shared),Inv X pins σ H s→CX X.stack H s E e s'→X.xe e s'
section
variable {X:Cx} {CX:CXT} {k:Nat} {f C:Addr} {fd:FuncData} {ps:List Str} {sp:Sp} {dvs:List V} {ds:List Value} {E:XK} {x m:Str} {p pos apos:Pos} {e o:Expr} {es:List Expr} {ta:TE} {t:TA}
theorem zD {pins:List (Addr×Obj)} {σ:St} {H:Hp} {s:Shared} {Q:VK} {us:List Value} {vs:List V} (F:QI X.prog X.w X.K X.mg X.base CX k f fd ps sp) (hr:ZK k X.A) (hb:Xg X.K fd ps ds) (hd:QF dvs ds) (hx:YV CX X E)
  (I:Inv X pins σ H s) (r:QF vs us) (h:sp (vs++dvs) H Q E):wpAny (model X.prog X.w) X.A (call (.ref f) us) (EP X pins σ Q) X.xe s:=by
 have r2:QF (vs++dvs) (us++ds):=r.append hd
 have hl:(us++ds).length=ps.length:=by rw[←r2.length];exact F.len _ _ _ _ h
 refine wpAny_call (codeAny_mono (F.run X.A X.stack s H ⟨us,[]⟩ (us++ds) (vs++dvs) Q E hr I.env0 (hb s us I.kIn hl) r2 h) fun r s' hq=>?_)
 cases r with
 | error e=>exact hx pins σ H s e s' I hq
 | ok fl=>
  cases fl with
  | ret u=>exact I.after hq
  | next=>exact False.elim hq
  | brk=>exact False.elim hq
  | cont=>exact False.elim hq
theorem pe_call(F:QI X.prog X.w X.K X.mg X.base CX k f fd ps sp)(hr:ZK k X.A)(hg:Gl X x) (hm:X.mg x=some (.ref f)) (hk:yY X.K (.ref f)=true) (hb:Xg X.K fd ps ds) (hd:QF dvs ds) (hx:YV CX X E)
  (ha:PA X (e::es) t) (hdb:(x==("__debug__" : Str))=false:=by decide) (he:starEach (e::es) X.env=(false,eval e X.env)::starEach es X.env:=by rfl) (hpl:(backTo pos (starEach es X.env)).any (·.1)=false:=by rfl) :
  PE X (.Call (.Name x p) (e::es) [] pos) (tCall sp dvs E t):=by
 intro pins s σ H Q I h
 refine wpAny_Call_Name_kw (zJ I hg hm ?_ hdb)
 refine Gc (h₀:=X.base) I.ok.mod.kin hk (thn (ha pos pins s σ H _ I h) fun us s1 ⟨vs,H1,I1,r,q⟩=>⟨I1.kIn,?_⟩) he hpl
 exact zD F hr hb hd hx I1 r q
theorem Zd{pl:Sem Bool}(he:PE X o ta)(c:Cls X.K C)(hm:Meth X.K C m f)(F:QI X.prog X.w X.K X.mg X.base CX k f fd ps sp)(hr:ZK k X.A)(hb:Xg X.K fd ps ds)(hd:QF dvs ds)(hx:YV CX X E) (ha:PA X (e::es) t)
  (hst:starEach (e::es) X.env=(false,eval e X.env)::starEach es X.env:=by rfl) (hpl:(backTo pos (starEach es X.env)).any (·.1)=false:=by rfl)
  (ht:eval (.Call (.Attribute o m apos) (e::es) [] pos) X.env=(do
   let ov ← eval o X.env
   standAt apos.atName
   let (f,first) ← holding [ov] (getMethod ov m pl)
   callWith pos f first (backTo pos (starEach (e::es) X.env)) (backToKw pos (keywordEach [] X.env))):=by rfl) :
  PE X (.Call (.Attribute o m apos) (e::es) [] pos) (qL C m sp dvs E ta t):=by
 intro pins s σ H Q I h
 refine Us (pl:=pl) (thn (he pins s σ H _ I h) fun u s1 ⟨x,H1,I1,rx,a,dx,fs,ex,ea,l,q⟩=>?_) ht
 subst ex
 obtain rfl:u=Value.ref a:=rx
 refine qi I1 ea c hm l ?_
 refine Gc (first:=[.ref a]) (h₀:=X.base) I.ok.mod.kin hm.kp (thn (ha pos pins s1 σ H1 _ I1 q) fun us s2 ⟨vs,H2,I2,r,q2⟩=>⟨I2.kIn,?_⟩) hst hpl
 exact zD (us:=.ref a::us) (vs:=.ref a::vs) F hr hb hd hx I2 (.cons rfl r) q2
theorem Yd{pl:Sem Bool}(he:PE X o ta)(c:Cls X.K C)(hm:Meth X.K C m f)(F:QI X.prog X.w X.K X.mg X.base CX k f fd ps sp)(hr:ZK k X.A)(hb:Xg X.K fd ps ds)(hd:QF dvs ds)(hx:YV CX X E)
  (ht:eval (.Call (.Attribute o m apos) [] [] pos) X.env=(do
   let ov ← eval o X.env
   standAt apos.atName
   let (f,first) ← holding [ov] (getMethod ov m pl)
   callWith pos f first (backTo pos (starEach [] X.env)) (backToKw pos (keywordEach [] X.env))):=by rfl) :
  PE X (.Call (.Attribute o m apos) [] [] pos) (qL C m sp dvs E ta zq):=by
 intro pins s σ H Q I h
 refine Us (pl:=pl) (thn (he pins s σ H _ I h) fun u s1 ⟨x,H1,I1,rx,a,dx,fs,ex,ea,l,q⟩=>?_) ht
 subst ex
 obtain rfl:u=Value.ref a:=rx
 refine qi I1 ea c hm l ?_
 exact PySem.W.callWith_K0 (first:=[.ref a]) I1.kIn hm.kp (zD (us:=[.ref a]) (vs:=[.ref a]) F hr hb hd hx I1 (.cons rfl .nil) q)
structure Mk(K:z8)(C f:Addr):Prop where
 makes:Ur K C=true
 init:y9 K (.ref C) "__init__" = some (some (.ref f))
 fn:GL K (.ref f)=true
 kp:yY K (.ref C)=true
theorem run_make {pins:List (Addr×Obj)} {σ:St} {H:Hp} {s:Shared} {Q:VK} {us:List Value} {vs:List V} (M:Mk X.K C f) (F:QI X.prog X.w X.K X.mg X.base CX k f fd ps sp) (hr:ZK (k+1) X.A) (hb:Xg X.K fd ps ds) (hd:QF dvs ds)
  (hx:YV CX X E) (I:Inv X pins σ H s) (r:QF vs us)
  (h:∀ x dx,H x=none→H dx=none→dx≠x→sp (.ref x::(vs++dvs)) (upd (upd H dx (.own x)) x (.ins C dx [])) (fun v H2=>v=.non∧Q (.ref x) H2) E) :
  wpAny (model X.prog X.w) X.A (call (.ref C) us) (EP X pins σ Q) X.xe s:=by
 have hq:=h (s.heap.objs.size+1) s.heap.objs.size (I.hok.fresh (Nat.le_succ _)) (I.hok.fresh (yl _)) (yr (G8 _))
 have I2:=Inv.made (C:=C) I
 have r2:QF (V.ref (s.heap.objs.size+1)::(vs++dvs)) (Value.ref (s.heap.objs.size+1)::(us++ds)):=.cons rfl (r.append hd)
 have hl:(Value.ref (s.heap.objs.size+1)::us++ds).length=ps.length:=by
  have e:=r2.length
  rw[F.len _ _ _ _ hq] at e
  exact e.symm
 refine wpAny_call (make_map (f:=f) I.kIn M.makes M.init (beq_iff_eq.mp M.fn) (codeAny_mono (F.run _ X.stack _ _ ⟨Value.ref (s.heap.objs.size+1)::us,[]⟩ (Value.ref (s.heap.objs.size+1)::(us++ds)) _ _ E (hr.make C us [])
  (I2.env0.make C us []) (hb _ (Value.ref (s.heap.objs.size+1)::us) I2.kIn hl) r2 hq) fun r s' hq'=>?_))
 cases r with
 | error e=>exact hx pins σ _ _ e s' I2 hq'
 | ok fl=>
  cases fl with
  | ret u=>
   obtain⟨v,H',I3,rv,ev,q3⟩:=I2.after hq'
   subst ev
   exact⟨rv,⟨V.ref (s.heap.objs.size+1),H',I3,rfl,q3⟩⟩
  | next=>exact False.elim hq'
  | brk=>exact False.elim hq'
  | cont=>exact False.elim hq'
theorem pe_make(M:Mk X.K C f)(F:QI X.prog X.w X.K X.mg X.base CX k f fd ps sp) (hr:ZK (k+1) X.A) (hg:Gl X x) (hm:X.mg x=some (.ref C)) (hb:Xg X.K fd ps ds) (hd:QF dvs ds) (hx:YV CX X E)
  (ha:PA X (e::es) t) (hdb:(x==("__debug__" : Str))=false:=by decide) (he:starEach (e::es) X.env=(false,eval e X.env)::starEach es X.env:=by rfl) (hpl:(backTo pos (starEach es X.env)).any (·.1)=false:=by rfl) :
  PE X (.Call (.Name x p) (e::es) [] pos) (tMake C sp dvs E t):=by
 intro pins s σ H Q I h
 refine wpAny_Call_Name_kw (zJ I hg hm ?_ hdb)
 refine Gc (h₀:=X.base) I.ok.mod.kin M.kp (thn (ha pos pins s σ H _ I h) fun us s1 ⟨vs,H1,I1,r,q⟩=>⟨I1.kIn,?_⟩) he hpl
 exact run_make M F hr hb hd hx I1 r q
end
def PK(X:Cx)(kws:List Keyword)(t:TA):Prop:=
 ∀ (pos:Pos) (pins:List (Addr×Obj)) (s:Shared) (σ:St) (H:Hp) (Q:List V→Hp→Prop),Inv X pins σ H s→t σ H Q→wpAny (model X.prog X.w) X.A (evalAll ((backToKw pos (keywordEach kws X.env)).map (·.2))) (AP X pins σ Q) X.xe s
section
variable {X:Cx} {CX:CXT} {k:Nat} {f C:Addr} {fd:FuncData} {ps ks:List Str} {sp:Sp} {E:XK} {x m:Str} {p pos apos kpos:Pos} {e o:Expr} {es:List Expr} {kws:List Keyword} {te ta:TE} {t tk:TA} {nm:Option Str}
theorem pk_nil:PK X [] zq:=fun _ _ _ _ H Q I h=>wpAny_evalAll_nil ⟨[],H,I,.nil,h⟩
theorem pk_cons(ha:PE X e te)(hr:PK X kws t):PK X (⟨nm,e,kpos⟩::kws) (XY te t):=by
 intro pos pins s σ H Q I h
 show wpAny _ _ (evalAll ((do let v ← eval e X.env;standAt pos;pure v)::(backToKw pos (keywordEach kws X.env)).map (·.2))) _ _ s
 refine wpAny_evalAll_cons (wpAny_bind (thn (ha pins s σ H _ I h) fun u s1 ⟨x,H1,I1,r1,q1⟩=>wpAny_bind (wpAny_standAt (wpAny_pure ?_))))
 exact thn (hr pos pins s1 σ H1 _ I1 q1) fun us s2 ⟨xs,H2,I2,r2,q2⟩=>⟨x::xs,H2,I2,.cons r1 r2,q2⟩
variable {g:List Value→List Value→List Value} {gV:List V→List V→List V}
end
structure Qm(N P:List Str)(sc:Scope):Prop where
 kind:sc.kind=.function
 co:sc.isCoroutine=false
 gen:sc.isGenerator=false
 nd:N.Nodup
 pre:N.take P.length=P
 par:∀ x∈P,sc.names.lookup x=some .local∨sc.names.lookup x=some .cell
 nofree:∀ y∈sc.names,y.2≠.free
theorem zk{kindOf:Str→Option NameKind}{x:Str}:∀ {binds:List (Str×Value)} {m:Str→Option Value},(∀ v,(x,v)∉binds)→bindL kindOf binds m x=m x
 | [],_,_=>rfl
 | (n,v)::r,m,h=>by
  unfold bindL
  rw[zk fun w hw=>h w (ym _ hw)]
  split
  ·have:x≠n:=by rintro rfl;exact h v yI
   simp[this]
  ·rfl
theorem zm{kindOf:Str→Option NameKind}{x:Str}:∀ {binds:List (Str×Value)} {m:Str→Option Value},(∀ v,(x,v)∉binds)→bindC kindOf binds m x=m x
 | [],_,_=>rfl
 | (n,v)::r,m,h=>by
  unfold bindC
  rw[zm fun w hw=>h w (ym _ hw)]
  split
  ·rfl
  ·have:x≠n:=by rintro rfl;exact h v yI
   simp[this]
theorem zl{kindOf:Str→Option NameKind}{x:Str}{v:Value}:∀ {P:List Str} {vs:List Value} {i:Nat} {m:Str→Option Value},P.Nodup→P[i]?=some x→vs[i]?=some v→kindOf x=some .local→
  bindL kindOf (P.zip vs) m x=some v
 | [],_,_,_,_,h,_,_=>by simp at h
 | _::_,[],_,_,_,_,h,_=>by simp at h
 | p::P,w::vs,0,m,nd,h1,h2,hk=>by
  simp at h1 h2;subst h1;subst h2
  show bindL kindOf ((p,w)::P.zip vs) m p=_
  unfold bindL
  rw[zk fun v hv=>(List.nodup_cons.mp nd).1 (Ul hv).1,if_pos hk]
  simp
 | p::P,w::vs,i+1,m,nd,h1,h2,hk=>by
  show bindL kindOf ((p,w)::P.zip vs) m x=_
  unfold bindL
  exact zl (i:=i) (List.nodup_cons.mp nd).2 (by simpa using h1) (by simpa using h2) hk
theorem zn{kindOf:Str→Option NameKind}{x:Str}{v:Value}:∀ {P:List Str} {vs:List Value} {i:Nat} {m:Str→Option Value},P.Nodup→P[i]?=some x→vs[i]?=some v→kindOf x≠some .local→
  bindC kindOf (P.zip vs) m x=some v
 | [],_,_,_,_,h,_,_=>by simp at h
 | _::_,[],_,_,_,_,h,_=>by simp at h
 | p::P,w::vs,0,m,nd,h1,h2,hk=>by
  simp at h1 h2;subst h1;subst h2
  show bindC kindOf ((p,w)::P.zip vs) m p=_
  unfold bindC
  rw[zm fun v hv=>(List.nodup_cons.mp nd).1 (Ul hv).1,if_neg hk]
  simp
 | p::P,w::vs,i+1,m,nd,h1,h2,hk=>by
  show bindC kindOf ((p,w)::P.zip vs) m x=_
  unfold bindC
  exact zn (i:=i) (List.nodup_cons.mp nd).2 (by simpa using h1) (by simpa using h2) hk
def Yy(N:List Str)(vs:List V):St:=vs.map some++List.replicate (N.length-vs.length) none
def cxOf(CX:CXT)(P:Program)(w:World)(K:z8)(mg:Str→Option Value)(base:Heap)(N:List Str)(qual:Str)(scope:Scope)(f:Addr)(cd:Value)(A:Around)(outer:List Env)(s:Shared)(H:Hp)(E:XK):Cx where
 prog:=P
 w:=w
 K:=K
 mg:=mg
 base:=base
 A:=A.deeper (envOfC qual scope s.heap.objs.size f cd)
 N:=N
 s_0:=s
 H_0:=H
 env:=envOfC qual scope s.heap.objs.size f cd
 outer:=outer
 stack:=envOfC qual scope s.heap.objs.size f cd::outer
 ex:=[]
 calm:=true
 fn:=fun _=>true
 pn:=[]
 xe:=fun e s'=>wpAny (model P w) (A.deeper (envOfC qual scope s.heap.objs.size f cd)) (leaving (envOfC qual scope s.heap.objs.size f cd) e) (fun _ s''=>CX outer H s E e s'') (fun e' s''=>CX outer H s E e' s'') s'
theorem cell_has{sc:Scope}{n:Nat}{x:Str}(h:sc.names.lookup x=some .cell):∃ c,(cellsFrom n sc.names []).lookup x=some c:=by
 have q:=Uk sc.names n [] (.inl h)
 exact Option.isSome_iff_exists.mp q
theorem inv_start{CX:CXT}{P:Program}{w:World}{K:z8}{mg:Str→Option Value}{base:Heap}{N ps:List Str}{qual:Str}{scope:Scope}{f:Addr}{cd:Value}{A:Around}{outer:List Env}{s s1:Shared}{H:Hp}{E:XK}{us:List Value}{vs:List V}
  (S:Qm N ps scope) (hd:A.handled=none) (e0:Env0 P w K mg base A outer s H) (hl:vs.length=ps.length) (r:QF vs us)
  (x:InCallC s s.heap.objs.size (bindL (envOfC qual scope s.heap.objs.size f cd).kindOf (ps.zip us) fun _=>none) (cellsFrom (s.heap.objs.size+1) scope.names []) (bindC (envOfC qual scope s.heap.objs.size f cd).kindOf (ps.zip us) fun _=>none) s1) :
  Inv (cxOf CX P w K mg base N qual scope f cd A outer s H E) [] (Yy N vs) H s1:=by
 have hpl:ps.length≤N.length:=by have:=congrArg List.length S.pre;rw[yB] at this;omega
 obtain⟨h1,tk,rfl,hk⟩:=x.done
 have noA:∀ b:Addr,b∉(cxOf CX P w K mg base N qual scope f cd A outer s H E).ex:=fun b z=>absurd (show b∈([]:List Addr) from z) (by simp)
 refine⟨⟨e0.mod,S.kind,rfl,rfl,yl _,fun y z c h1 h2=>?_,fun y hy=>?_,fun y c _ h=>?_,fun _=>hd,Around.frames_deeper e0.frames,.inr ⟨rfl,rfl⟩,fun b z=>absurd z (noA b),e0.bs,e0.bsz,fun b _ _=>noA b,fun b z=>absurd z (noA b),e0.funs,e0.frf⟩,
  rfl,e0.bare,Un.kept hk,⟨_,x.toInCall.ns,fun i y v h1 h2 h3=>?_⟩,fun y c h=>⟨_,x.cell y c h⟩,e0.hok.fresh (yl _),fun y c h=>?_,fun p hp=>absurd (show p∈([]:List (Addr×Obj)) from hp) (by simp),e0.hok.kept hk,?_⟩
 ·exact name_of_addr x.apart (PySem.mem_of_lookup h1) (PySem.mem_of_lookup h2)
 ·have hy:scope.names.lookup y=some .cell∨scope.names.lookup y=some .free:=hy
  rcases hy with hy | hy
  ·exact cell_has hy
  ·exact absurd rfl (S.nofree _ (PySem.mem_of_lookup hy))
 ·exact Gk (x.above y c (PySem.mem_of_lookup h))
 ·have hi:i<vs.length:=by
   unfold Yy at h2
   by_cases hi:i<vs.length
   ·exact hi
   ·rw[GM (by simpa using hi)] at h2
    rw[List.getElem?_replicate] at h2
    split at h2 <;> cases h2
  have ha:vs[i]?=some v:=by
   unfold Yy at h2
   rw[j8 (by simpa using hi),yi] at h2
   cases e:vs[i]? with
   | none=>rw[e] at h2;cases h2
   | some a=>rw[e] at h2;cases h2;rfl
  obtain⟨u,hu,rv⟩:=r.get ha
  have hp:ps[i]?=some y:=by
   rw[←S.pre,xZ (by omega)];exact h1
  have ndP:ps.Nodup:=by rw[←S.pre];exact S.nd.sublist (List.take_sublist _ _)
  refine⟨u,rv,?_⟩
  rcases S.par y (yO hp) with k | k
  ·exact .inl ⟨k,zl ndP hp hu k⟩
  ·obtain⟨c,e⟩:=cell_has (n:=s.heap.objs.size+1) k
   refine .inr ⟨.inl k,c,e,?_⟩
   have q:=x.cell y c e
   rw[zn ndP hp hu (by show scope.names.lookup y≠_;rw[k];decide)] at q
   exact q
 ·exact e0.hok.fresh (Gk (x.above y c (PySem.mem_of_lookup h)))
 ·unfold Yy
  show _=N.length
  rw[yt,yc,List.length_replicate]
  omega
theorem fn_of{CX:CXT}{P:Program}{w:World}{K:z8}{mg:Str→Option Value}{base:Heap}{k:Nat}{f:Addr}{name qual:Str}{params:Arguments}{body:List Stmt}{scope:Scope}{dV kV doc pm cdv ct oc:Value}{an od:Option Addr}
  {osl:Array (Option Value)} {N ps:List Str} {sp:Sp} (lk:K.lookup f=some ⟨oc,od,.func (jj name qual params body scope dV kV doc pm an cdv ct),osl⟩) (hcd:xC K cdv qual=true) (S:Qm N ps scope)
  (len:∀ vs H Q E,sp vs H Q E→vs.length=ps.length)
  (hbody:∀(A:Around)(outer:List Env)(s:Shared)(H:Hp)(vs:List V)(Q:VK)(E:XK),ZK k (A.deeper (envOfC qual scope s.heap.objs.size f cdv))→sp vs H Q E→
   ∃ t,PSs (cxOf CX P w K mg base N qual scope f cdv A outer s H E) body t∧t { nx:=fun _ H'=>Q .non H',rt:=Q } (Yy N vs) H) :
  QI P w K mg base CX (k+1) f (jj name qual params body scope dV kV doc pm an cdv ct) ps sp:=by
 refine⟨len,fun A outer s H args us vs Q E hr e0 hb r hsp=>?_⟩
 have hl:=len _ _ _ _ hsp
 have KX:K.In s.heap:=e0.mod.kin.keeps fun b o e=>(e0.bs b o e).1
 have lim:s.heap.NoLimit:=e0.mod.nolimit.keeps fun b o e=>(e0.bs b o e).1
 have hkind:∀ y∈ps.zip us,scope.names.lookup y.1=some .local∨(scope.names.lookup y.1=some .cell∧((cellsFrom (s.heap.objs.size+1) scope.names []).lookup y.1).isSome=true):=fun ⟨n,v⟩ hy=>by
  rcases S.par n (Ul hy).1 with q | q
  ·exact .inl q
  ·exact .inr ⟨q,Uk _ _ _ (.inl q)⟩
 refine codeAny_call_function hr.depth (KX _ _ lk) rfl S.co S.gen rfl (PySem.W.codeRec_of KX hcd) (hb _ _ _ _ ?_)
 refine wpAny_newFunctionEnv_cells S.kind hkind fun env he s1 x=>?_
 subst he
 refine⟨lim.keeps x.toInCall.keep,codeAny_func ?_⟩
 obtain⟨t,ht,hq⟩:=hbody A outer s H vs Q E (hr.deeper _) hsp
 have I:Inv (cxOf CX P w K mg base N qual scope f cdv A outer s H E) [] (Yy N vs) H s1:=inv_start S hr.hd e0 hl r x
 refine wpAny_mono (ht [] s1 (Yy N vs) H _ I hq) (fun fl s' hs=>?_) fun e s' hs=>hs
 have fin:∀ {σ':St} {H':Hp} {v:V} {u:Value},Inv (cxOf CX P w K mg base N qual scope f cdv A outer s H E) [] σ' H' s'→QT v u→Q v H'→CE outer P w H s Q u s':=
  fun {σ' H' v u} J rv q=>⟨v,H',J.os,J.bare,J.base,J.hok,rv,q⟩
 cases fl with
 | ret u=>
  obtain⟨v,σ',H',J,rv,q⟩:=hs
  exact fin J rv q
 | next=>
  obtain⟨σ',H',J,q⟩:=hs
  exact fin (v:=V.non) (u:=Value.none) J rfl q
 | brk=>
  obtain⟨_,_,_,q⟩:=hs
  exact False.elim q
 | cont=>
  obtain⟨_,_,_,q⟩:=hs
  exact False.elim q
end L2
namespace L2
open PySem PySem.Spec PyProof.Rows
section
variable {X:Cx} {x:Str} {p pos:Pos} {e:Expr} {es:List Expr} {t:TA} {id T:String} {r:List V→Hp→VK→Prop}
def tCB(r:List V→Hp→VK→Prop)(t:TA):TE:=fun σ H Q=>t σ H fun vs H1=>r vs H1 Q
theorem QL (hc:zp X (.builtin id) r) (hg:Gl X x) (hm:X.mg x=none) (hv:bootBuiltins x=some (.builtin id)) (ha:PA X (e::es) t) (hn:x ≠ "__name__" := by decide) (hdb:(x==("__debug__" : Str))=false:=by decide)
  (he:starEach (e::es) X.env=(false,eval e X.env)::starEach es X.env:=by rfl) (hpl:(backTo pos (starEach es X.env)).any (·.1)=false:=by rfl):PE X (.Call (.Name x p) (e::es) [] pos) (tCB r t):=by
 intro pins s σ H Q I h
 refine wpAny_Call_Name_kw (Xv I hg hm hv ?_ hn hdb)
 exact PyProof.Rows.callWith_builtin1 (thn (ha pos pins s σ H _ I h) fun us s1 ⟨vs,H1,I1,r1,q1⟩=>hc pins s1 σ H1 vs us Q I1 r1 q1) he hpl
theorem qY (hc:zp X (.type T) r) (hg:Gl X x) (hm:X.mg x=none) (hv:bootBuiltins x=some (.type T)) (ha:PA X (e::es) t) (hn:x ≠ "__name__" := by decide) (hdb:(x==("__debug__" : Str))=false:=by decide)
  (he:starEach (e::es) X.env=(false,eval e X.env)::starEach es X.env:=by rfl) (hpl:(backTo pos (starEach es X.env)).any (·.1)=false:=by rfl):PE X (.Call (.Name x p) (e::es) [] pos) (tCB r t):=by
 intro pins s σ H Q I h
 refine wpAny_Call_Name_kw (Xv I hg hm hv ?_ hn hdb)
 exact PyProof.Rows.callWith_type1 (thn (ha pos pins s σ H _ I h) fun us s1 ⟨vs,H1,I1,r1,q1⟩=>hc pins s1 σ H1 vs us Q I1 r1 q1) he hpl
end
end L2
namespace HT
open PySem PyProof.Rows
section
open PySem.SeqAt
open PySem.AutoSeq1 (wpAny_loadPart')
open PySem.MeetsSeq PySem.MeetsSeq2 PySem.MeetsSeq3
end
section
variable {prog:Program} {w:World} {A:Around} {E:Value→Shared→Prop} {s:Shared}
def sIx(n d:Nat):Option Int→Nat
 | none=>d
 | some v=>if v<0 then (v+(n:Int)).toNat else min v.toNat n
theorem sIx_none(n d:Nat):sIx n d none=d:=rfl
theorem sIx_nat(n d k:Nat):sIx n d (some (k:Int))=min k n:=by
 show (if (k:Int)<0 then ((k:Int)+(n:Int)).toNat else min (k:Int).toNat n)=min k n
 rw[if_neg (by omega),xP]
end
end HT
namespace L2
open PySem PySem.Spec PyProof.Rows
abbrev TO:=St→Hp→(Option Int→Hp→Prop)→Prop
def PO(X:Cx)(e:Option Expr)(t:TO):Prop:=
 ∀ (pins:List (Addr×Obj)) (s:Shared) (σ:St) (H:Hp) (Q:Option Int→Hp→Prop),Inv X pins σ H s→t σ H Q→
  wpAny (model X.prog X.w) X.A (evalPart e X.env) (fun u s'=>∃ o H',Inv X pins σ H' s'∧IsPart u o∧Q o H') X.xe s
def tNoPart:TO:=fun _ H Q=>Q none H
def tPart(t:TE):TO:=fun σ H Q=>t σ H fun x H1=>∃ i,x=.int i∧Q (some i) H1
section
variable {X:Cx} {e:Expr} {te:TE} {lo hi:Option Expr} {tl th:TO} {pos p2:Pos}
theorem Yo:PO X none tNoPart:=by
 intro pins s σ H Q I h
 rw[evalPart_none]
 exact wpAny_pure ⟨none,H,I,.none,h⟩
theorem Zc(h:PE X e te):PO X (some e) (tPart te):=by
 intro pins s σ H Q I hw
 rw[evalPart_some]
 refine thn (h pins s σ H _ I hw) fun u s1 ⟨x,H1,I1,r1,q1⟩=>?_
 obtain⟨i,rfl,q⟩:=q1
 obtain⟨t,rfl⟩:=r1
 exact⟨some i,H1,I1,.int i t,q⟩
def SlR(X:Cx)(r:V→Option Int→Option Int→Hp→VK→Prop):Prop:=
 ∀ (pins:List (Addr×Obj)) (s:Shared) (σ:St) (H:Hp) (x:V) (v vl vu:Value) (lo hi:Option Int) (sl:Addr) (Q:VK),Inv X pins σ H s→QT x v→s.heap.IsSliceOf sl vl vu .none→IsPart vl lo→IsPart vu hi→r x lo hi H Q→
  ∃ T id,typeLookup (.type T) "__getitem__" = pure (some (.builtin id))∧s.TypeIs v T∧wpAny (model X.prog X.w) X.A (getItem v (.ref sl)) (EP X pins σ Q) X.xe s
def tSl(r:V→Option Int→Option Int→Hp→VK→Prop)(te:TE)(tl th:TO):TE:=fun σ H Q=>te σ H fun x H1=>tl σ H1 fun l H2=>th σ H2 fun u H3=>r x l u H3 Q
theorem Zo{r:V→Option Int→Option Int→Hp→VK→Prop}(hr:SlR X r)(he:PE X e te)(hl:PO X lo tl)(hu:PO X hi th):PE X (.Subscript e (.Slice lo hi none p2) pos) (tSl r te tl th):=by
 intro pins s σ H Q I h
 refine Subscript_ (thn (he pins s σ H _ I h) fun v s1 ⟨x,H1,I1,r1,q1⟩=>?_)
 refine wpAny_Slice (thn (hl pins s1 σ H1 _ I1 q1) fun vl s2 ⟨l,H2,I2,pl,q2⟩=>thn (hu pins s2 σ H2 _ I2 q2) fun vu s3 ⟨u,H3,I3,pu,q3⟩=>?_)
 rw[evalPart_none]
 refine wpAny_pure ?_
 have I4:Inv X pins σ H3 { s3 with heap:=s3.heap.push { cls:=.type "slice",data:=.fields #[vl,vu,.none] } }:=I3.kept (t':=s3.toks) fun b ob q=>Heap.get?_push_of_some _ q
 obtain⟨T,id,hT,ht,hg⟩:=hr pins { s3 with heap:=s3.heap.push { cls:=.type "slice",data:=.fields #[vl,vu,.none] } } σ H3 x v vl vu l u s3.heap.objs.size Q I4 r1 (Heap.IsSliceOf.new ..) pl pu q3
 show wpAny (model X.prog X.w) X.A (subscriptTail e (.Slice lo hi none p2) v (.ref s3.heap.objs.size)) (EP X pins σ Q) X.xe { s3 with heap:=s3.heap.push { cls:=.type "slice",data:=.fields #[vl,vu,.none] } }
 exact tail_any (ops:=[.ref s3.heap.objs.size,v]) ht hT hg (by with_unfolding_all rfl)
def Z0(xs:List V)(lo hi:Option Int):List V:=(xs.drop (HT.sIx xs.length 0 lo)).take (HT.sIx xs.length xs.length hi-HT.sIx xs.length 0 lo)
theorem cutV_length(xs:List V)(lo hi:Option Int):(Z0 xs lo hi).length≤xs.length:=by
 unfold Z0
 rw[yB,yG]
 omega
end
end L2
namespace L2
open PySem PySem.Spec PyProof.Rows
def ixN(n:Nat)(i:Int):Option Nat:=if 0≤i then (if i<n then some i.toNat else none) else if -(n:Int)≤i then some (i+n).toNat else none
def atI{α:Type}(xs:List α)(i:Int):Option α:=(ixN xs.length i).bind fun j=>xs[j]?
theorem ixN_seq{n:Nat}{i:Int}{j:Nat}(h:ixN n i=some j):seqIndex? i n=some j∧j<n∧-(n:Int)≤i∧i<n:=by
 unfold ixN at h
 by_cases h0:0≤i
 ·rw[if_pos h0] at h
  by_cases h1:i<n
  ·rw[if_pos h1] at h
   have e:i.toNat=j:=Option.some.inj h
   exact⟨by rw[seqIndex_of h0 h1,e],by omega,by omega,h1⟩
  ·rw[if_neg h1] at h;cases h
 ·rw[if_neg h0] at h
  by_cases h1 : -(n:Int)≤i
  ·rw[if_pos h1] at h
   have e:(i+n).toNat=j:=Option.some.inj h
   exact⟨by rw[seqIndex_neg (by omega) h1,e],by omega,h1,by omega⟩
  ·rw[if_neg h1] at h;cases h
theorem atI_get{α:Type}{xs:List α}{i:Int}{v:α}(h:atI xs i=some v):∃ j,seqIndex? i xs.length=some j∧xs[j]?=some v∧j<xs.length∧-(xs.length:Int)≤i∧i<xs.length:=by
 unfold atI at h
 cases e:ixN xs.length i with
 | none=>rw[e] at h;cases h
 | some j=>
  rw[e] at h
  obtain⟨h1,h2,h3,h4⟩:=ixN_seq e
  exact⟨j,h1,h,h2,h3,h4⟩
theorem Qj{α:Type}{xs:List α}{j:Nat}{v:α}(h:xs[j]?=some v):atI xs (j:Int)=some v:=by
 have hj:j<xs.length:=(List.getElem?_eq_some_iff.mp h).1
 have e:ixN xs.length (j:Int)=some j:=by
  unfold ixN
  rw[if_pos (by omega),if_pos (by omega)];simp
 unfold atI;rw[e];exact h
def PlainIx(b:Expr):Prop:=∀ o i,subscripted b false o i=operate [o,i] (getItem o i)
def IxR(X:Cx)(r:R2):Prop:=
 ∀ (value slice:Expr) (pins:List (Addr×Obj)) (s:Shared) (σ:St) (H:Hp) (x y:V) (v u:Value) (Q:VK),Inv X pins σ H s→QT x v→QT y u→r x y H Q→
  subscripted slice false v u=operate [v,u] (getItem v u)→wpAny (model X.prog X.w) X.A (subscriptTail value slice v u) (EP X pins σ Q) X.xe s
def MtR(X:Cx)(id:String)(r:V→List V→Hp→VK→Prop):Prop:=
 ∀ (pins:List (Addr×Obj)) (s:Shared) (σ:St) (H:Hp) (x:V) (xs:List V) (v:Value) (us:List Value) (Q:VK),Inv X pins σ H s→QT x v→QF xs us→r x xs H Q→
  wpAny (model X.prog X.w) X.A (call (.builtin id) (v::us)) (EP X pins σ Q) X.xe s
section
variable {X:Cx} {a b:Expr} {ta tb:TE} {pos:Pos}
theorem Qx{r:R2}(hr:IxR X r)(ha:PE X a ta)(hb:PE X b tb)(hs:PlainIx b):PE X (.Subscript a b pos) (tOp r ta tb):=by
 intro pins s σ H Q I h
 exact Subscript_ (binT ha hb I h fun v u s2 x y H2 I2 rx ry q=>hr a b pins s2 σ H2 x y v u Q I2 rx ry q (hs _ _))
def rIxL(K:z8):R2:=fun x y H Q=>∃ p xs i v,x=.ref p∧y=.int i∧SqL K H p xs∧atI xs i=some v∧Q v H
def rIxT(K:z8):R2:=fun x y H Q=>∃ p xs i v,x=.ref p∧y=.int i∧SqT K H p xs∧atI xs i=some v∧Q v H
theorem QC:IxR X (rIxL X.K):=by
 intro value slice pins s σ H x y v u Q I rx ry h hs
 obtain⟨p,xs,i,z,rfl,rfl,hq,he,q⟩:=h
 cases rx
 obtain⟨t,rfl⟩:=ry
 obtain⟨its,r,pl,hz⟩:=I.list hq
 obtain⟨j,h1,h2,h3,h4,h5⟩:=atI_get he
 obtain⟨w,ew,rw'⟩:=r.get h2
 have hl:=r.length
 have hn:=line63
 have fin:EP X pins σ Q w s:=⟨z,H,I,rw',q⟩
 by_cases h0:0≤i
 ·have hj:i.toNat=j:=by
   rw[seqIndex_of h0 h5] at h1
   exact Option.some.inj h1
  exact item_listR pl.isList h0 (by omega) (by rw[hj];simpa using ew) fin hs
 ·have hj:(i+(its.toArray.size:Int)).toNat=j:=by
   rw[seqIndex_neg (by omega) h4] at h1
   rw[yn,←hl]
   exact Option.some.inj h1
  exact subscriptTail_builtinR (x:=w) pl.isList.typeIs slot_list_getitem.lookup
   (wpAny_getItem_list_neg (Q:=fun r s'=>r=w∧EP X pins σ Q r s') pl.isList (by omega) (by rw[yn] <;> omega) (by omega) (by rw[hj];simpa using ew) ⟨rfl,fin⟩) hs
theorem QM:IxR X (rIxT X.K):=by
 intro value slice pins s σ H x y v u Q I rx ry h hs
 obtain⟨p,xs,i,z,rfl,rfl,hq,he,q⟩:=h
 cases rx
 obtain⟨t,rfl⟩:=ry
 obtain⟨its,r,pl,hz⟩:=I.tuple hq
 obtain⟨j,h1,h2,h3,h4,h5⟩:=atI_get he
 obtain⟨w,ew,rw'⟩:=r.get h2
 have hl:=r.length
 have hn:=line63
 have fin:EP X pins σ Q w s:=⟨z,H,I,rw',q⟩
 exact subscriptTail_builtinR (x:=w) pl.typeIs slot_tuple_getitem.lookup
  (getItem_tuple (j:=j) (Q:=fun r s'=>r=w∧EP X pins σ Q r s') pl (by omega) (by omega) (by rw[yn,←hl];exact h1) (by simpa using ew) ⟨rfl,fin⟩) hs
theorem zy(lo hi:Option Int)(n:Nat):(sliceBounds lo hi none n).1=((HT.sIx n 0 lo:Nat):Int)∧(sliceBounds lo hi none n).2.1=((HT.sIx n n hi:Nat):Int)∧(sliceBounds lo hi none n).2.2=1:=by
 refine⟨?_,?_,rfl⟩
 ·cases lo with
  | none=>simp[sliceBounds,HT.sIx]
  | some i=>
   simp only[sliceBounds,HT.sIx,Option.getD_none,show (1:Int) > 0 by decide,if_true]
   by_cases h:i<0
   ·simp only[h,if_true] <;> omega
   ·simp only[h,if_false] <;> omega
 ·cases hi with
  | none=>simp[sliceBounds,HT.sIx]
  | some i=>
   simp only[sliceBounds,HT.sIx,Option.getD_none,show (1:Int) > 0 by decide,if_true]
   by_cases h:i<0
   ·simp only[h,if_true] <;> omega
   ·simp only[h,if_false] <;> omega
theorem qC(its:List Value)(lo hi:Option Int):slicePick its.toArray lo hi none=((its.drop (HT.sIx its.length 0 lo)).take (HT.sIx its.length its.length hi-HT.sIx its.length 0 lo)).toArray:=by
 obtain⟨h1,h2,h3⟩:=zy lo hi its.toArray.size
 unfold slicePick
 rw[h1,h2,h3]
 simp only[sliceRange_one,pick_run,yn] <;> rfl
def rSlL(K:z8):V→Option Int→Option Int→Hp→VK→Prop:=fun x lo hi H Q=>∃ a xs,x=.ref a∧SqL K H a xs∧∀ p,H p=none→Q (.ref p) (upd H p (.lst (Z0 xs lo hi)))
theorem ZQ:SlR X (rSlL X.K):=by
 intro pins s σ H x v vl vu lo hi sl Q I rx hs pl pu h
 obtain⟨a,xs,rfl,hx,q⟩:=h
 cases rx
 obtain⟨its,r,ht,hz⟩:=I.list hx
 have hlen:=r.length
 refine⟨"list",_,slot_list_getitem.lookup,ht.isList.typeIs,?_⟩
 refine wpAny_getItem_list_slice ht.isList hs pl pu .none (by simp) ?_ (by rw[yn] <;> omega)
 rw[qC,←hlen]
 refine⟨.ref s.heap.objs.size,_,I.laid (t':=s.toks) (o:=.lst (Z0 xs lo hi)) (fun b ob q=>Heap.get?_push_of_some _ q) (yl _) ?_,rfl,q _ (I.hok.fresh (yl _))⟩
 exact⟨yE (cutV_length xs lo hi) hz,_,0,(r.drop (HT.sIx xs.length 0 lo)).take (HT.sIx xs.length xs.length hi-HT.sIx xs.length 0 lo),Heap.get?_push_size _ rfl⟩
theorem Qw:zp X (.builtin "len") (fun xs H Q=>∃ p ys,xs=[.ref p]∧(SqL X.K H p ys∨SqT X.K H p ys)∧Q (.int ys.length) H):=by
 intro pins s σ H xs us Q I r h
 obtain⟨p,ys,rfl,hq,q⟩:=h
 obtain⟨u,rfl,rx⟩:=vals1 r
 cases rx
 have hn:=line63
 rcases hq with hq | hq
 ·obtain⟨its,r',pl,hz⟩:=I.list hq
  have hlen:=r'.length
  exact Calls.call_len_list pl.isList (by simp only[yn] <;> omega) ⟨.int ys.length,H,I.tok _,⟨s.toks+1,by rw[yn,hlen]⟩,q⟩
 ·obtain⟨its,r',pl,hz⟩:=I.tuple hq
  have hlen:=r'.length
  exact len_tuple pl (by simp only[yn] <;> omega) ⟨.int ys.length,H,I.tok _,⟨s.toks+1,by rw[yn,hlen]⟩,q⟩
theorem Je:zp X (.type "list") (fun xs H Q=>∃ p ys,xs=[.ref p]∧(SqL X.K H p ys∨SqT X.K H p ys)∧∀ l,H l=none→Q (.ref l) (upd H l (.lst ys))):=by
 intro pins s σ H xs us Q I r h
 obtain⟨p,ys,rfl,hq,q⟩:=h
 obtain⟨u,rfl,rx⟩:=vals1 r
 cases rx
 have fin:∀(its:List Value),QF ys its→ys.length≤sizeLine→∀(h':Heap)(c':Nat),(∀ b o',s.heap.get? b=some o'→h'.get? b=some o')→
   h'.get? s.heap.objs.size=some { cls:=.type "list",dict:=none,data:=.seq its.toArray c',slots:=#[] }→EP X pins σ Q (.ref s.heap.objs.size) { s with heap:=h' }:=fun its r' hz h' c' kp e=>
  ⟨.ref s.heap.objs.size,_,I.laid (t':=s.toks) kp (yl _) (show Q3 X.prog X.w _ h' _ (.lst ys) from ⟨hz,its,c',r',e⟩),rfl,q _ (I.hok.fresh (yl _))⟩
 rcases hq with hq | hq
 ·obtain⟨its,r',pl,hz⟩:=I.list hq
  have hlen:=r'.length
  obtain⟨o,ho,hc,n,hd⟩:=pl.isList
  exact call_list_seq p (.inl rfl) ho hc hd (fun h' c' kp e=>fin its r' hz h' c' kp e) (by simp only[yn] <;> omega)
 ·obtain⟨its,r',pl,hz⟩:=I.tuple hq
  have hlen:=r'.length
  obtain⟨o,ho,hc,n,hd⟩:=pl
  exact call_list_seq p (.inr rfl) ho hc hd (fun h' c' kp e=>fin its r' hz h' c' kp e) (by simp only[yn] <;> omega)
def tyV(K:z8)(T:String)(x:V)(H:Hp):Prop:=match x with
 | .str _=>T = "str"
 | .int _=>T = "int"
 | .ref p=>(T = "list" ∧ ∃ xs,SqL K H p xs)∨(T = "tuple" ∧ ∃ o,K.lookup p=some o∧o.cls=.type "tuple" ∧ o.dict=none)∨
   (T = "dict" ∧ ((∃ kvs,H p=some (.dK kvs))∨∃ kvs,H p=some (.dT kvs)))∨(T = "set" ∧ ∃ S n,H p=some (.set S n))
 | _=>False
theorem tyV_is {pins:List (Addr×Obj)} {σ:St} {H:Hp} {s:Shared} {T:String} {x:V} {v:Value} (I:Inv X pins σ H s) (r:QT x v) (ty:tyV X.K T x H) :
  s.TypeIs v T∧∀ a,v=.ref a→∃ ob,s.heap.get? a=some ob∧ob.dict=none:=by
 cases x with
 | str z=>
  obtain⟨t,rfl⟩:=r
  cases (show T = "str" from ty)
  exact⟨typeIs_str s z t,fun _ e=>nomatch e⟩
 | int i=>
  obtain⟨t,rfl⟩:=r
  cases (show T = "int" from ty)
  exact⟨typeIs_int s i t,fun _ e=>nomatch e⟩
 | ref p=>
  cases r
  rcases ty with ⟨rfl,xs,hq⟩ | ⟨rfl,o,hk,hc,hd⟩ | ⟨rfl,hk⟩ | ⟨rfl,S,n,hk⟩
  ·obtain⟨its,_,pl,_⟩:=I.list hq
   refine⟨pl.isList.typeIs,fun a e=>?_⟩
   cases e
   obtain⟨o,n,e,c,hd,_⟩:=pl
   exact⟨o,e,hd⟩
  ·refine⟨⟨o,I.kIn p o hk,hc⟩,fun a e=>?_⟩
   cases e
   exact⟨o,I.kIn _ o hk,hd⟩
  ·have z:∃ o,s.heap.get? p=some o∧o.ExactDict:=by
    rcases hk with ⟨kvs,hk⟩ | ⟨kvs,hk⟩
    ·obtain⟨_,_,_,_,o,_,_,e,ex,_⟩:=I.hok p _ hk
     exact⟨o,e,ex⟩
    ·obtain⟨_,_,_,_,o,_,_,e,ex,_⟩:=I.hok p _ hk
     exact⟨o,e,ex⟩
   obtain⟨o,e,ex⟩:=z
   refine⟨⟨o,e,ex.1⟩,fun a e2=>?_⟩
   cases e2
   exact⟨o,e,ex.2.1⟩
  ·obtain⟨o,_,_,_,e,ex,_⟩:=I.hok p _ hk
   refine⟨⟨o,e,ex.1⟩,fun a e2=>?_⟩
   cases e2
   exact⟨o,e,ex.2.1⟩
 | _=>exact False.elim ty
def tBM0(K:z8)(T:String)(r:V→List V→Hp→VK→Prop)(to:TE):TE:=fun σ H Q=>to σ H fun x H1=>tyV K T x H1∧r x [] H1 Q
def tBM(K:z8)(T:String)(r:V→List V→Hp→VK→Prop)(to:TE)(t:TA):TE:=fun σ H Q=>to σ H fun x H1=>tyV K T x H1∧t σ H1 fun xs H2=>r x xs H2 Q
variable {o e:Expr} {es:List Expr} {to:TE} {t:TA} {name:Str} {apos cpos:Pos} {T id:String} {r:V→List V→Hp→VK→Prop}
theorem pe_bm0(pa:PlainAttrs T)(slot:Slot T name id) (hty:typeOf (.builtin id)=pure (.type "method_descriptor")) (hm:MtR X id r) (ho:PE X o to)
  (hbase:attributeBase o name X.env (eval o X.env)=eval o X.env:=by rfl) (hline:(apos.endLine==cpos.line)=true:=by rfl):PE X (.Call (.Attribute o name apos) [] [] cpos) (tBM0 X.K T r to):=by
 intro pins s σ H Q I h
 refine wpAny_Call_method0_late hbase hline (thn (ho pins s σ H _ I h) fun v s1 ⟨x,H1,I1,r1,ty,q1⟩=>?_)
 obtain⟨h1,h2⟩:=tyV_is I1 r1 ty
 exact⟨T,id,pa,slot,hty,h1,h2,Calls.callWith_builtin rfl (PySem.evalArgs_none (hm pins s1 σ H1 x [] v [] Q I1 r1 .nil q1))⟩
theorem qZ(pa:PlainAttrs T)(slot:Slot T name id) (hty:typeOf (.builtin id)=pure (.type "method_descriptor")) (hm:MtR X id r) (ho:PE X o to) (ha:PA X (e::es) t)
  (hbase:attributeBase o name X.env (eval o X.env)=eval o X.env:=by rfl)
  (hfew:((backTo cpos (starEach (e::es) X.env)).all (fun x=>!x.1)&&(backToKw cpos (keywordEach [] X.env)).all (fun x=>x.1.isSome)
   && decide ((e::es).length+([]:List Keyword).length+(if ([]:List Keyword).isEmpty then 0 else 1)<30))=true:=by rfl)
  (hline:(apos.endLine==cpos.line)=true:=by rfl) (hs:starEach (e::es) X.env=(false,eval e X.env)::starEach es X.env:=by rfl) (hplain:(backTo cpos (starEach es X.env)).any (·.1)=false:=by rfl) :
  PE X (.Call (.Attribute o name apos) (e::es) [] cpos) (tBM X.K T r to t):=by
 intro pins s σ H Q I h
 refine wpAny_Call_method_late hbase hfew hline rfl (thn (ho pins s σ H _ I h) fun v s1 ⟨x,H1,I1,r1,ty,q1⟩=>?_)
 obtain⟨h1,h2⟩:=tyV_is I1 r1 ty
 refine⟨T,id,pa,slot,hty,h1,h2,?_⟩
 have hA:=ha cpos pins s1 σ H1 _ I1 q1
 rw[hs] at hA ⊢
 refine Calls.callWith_builtin (by show (false || (backTo cpos (starEach es X.env)).any (·.1))=false;rw[hplain] <;> rfl) (Calls.evalArgs_plain ?_)
 exact thn hA fun us s2 ⟨vs,H2,I2,r2,q2⟩=>hm pins s2 σ H2 x vs v us Q I2 r1 r2 q2
end
end L2
namespace L2
open PySem PySem.Spec PyProof.Rows
def MtM(X:Cx)(id:String)(r:V→List V→Hp→VK→Prop):Prop:=
 ∀ (pins:List (Addr×Obj)) (s:Shared) (σ:St) (H:Hp) (x:V) (xs:List V) (v:Value) (us:List Value) (Q:VK),Inv X pins σ H s→QT x v→QF xs us→r x xs H Q→
  wpAny (model X.prog X.w) X.A (call (.builtin id) (v::us)) (EP X pins σ Q) X.xe s
theorem QF.one:∀ {x:V} {us:List Value},QF [x] us→∃ u,us=[u]∧QT x u
 | _,_,.cons r .nil=>⟨_,rfl,r⟩
theorem QF.zero:∀ {us:List Value},QF [] us→us=[]
 | _,.nil=>rfl
theorem QF.dropLast{xs:List V}{us:List Value}(h:QF xs us):QF xs.dropLast us.dropLast:=by
 induction h with
 | nil=>exact .nil
 | cons r t ih=>
  cases t with
  | nil=>exact .nil
  | cons q t'=>exact .cons r ih
theorem QF.eraseIdx:∀ {xs:List V} {us:List Value} (i:Nat),QF xs us→QF (xs.eraseIdx i) (us.eraseIdx i)
 | _,_,_,.nil=>.nil
 | _,_,0,.cons _ t=>t
 | _,_,i+1,.cons r t=>.cons r (QF.eraseIdx i t)
theorem QF.reverse{xs:List V}{us:List Value}(h:QF xs us):QF xs.reverse us.reverse:=by
 induction h with
 | nil=>exact .nil
 | cons r t ih=>rw[List.reverse_cons,List.reverse_cons];exact QF.append ih (.cons r .nil)
theorem erase_last{α:Type}(l:List α):l.eraseIdx (l.length-1)=l.dropLast:=by
 induction l with
 | nil=>rfl
 | cons a r ih=>
  cases r with
  | nil=>rfl
  | cons b r=>
   have e:(a::b::r).length-1=((b::r).length-1)+1:=by
    have h1:(a::b::r).length=r.length+2:=rfl
    have h2:(b::r).length=r.length+1:=rfl
    omega
   rw[e,List.eraseIdx_cons_succ,ih]
   all_goals rfl
section
variable {X:Cx} {pins:List (Addr×Obj)} {σ:St} {H:Hp} {s:Shared} {l b:Addr} {xs ys zs:List V}
theorem Inv.lset{its its':List Value}{n:Nat}{f:Array Value→Array Value}{t':Nat}(I:Inv X pins σ H s) (hH:H l=some (.lst xs))
  (e:s.heap.get? l=some { cls:=.type "list",data:=.seq its.toArray n }) (hf:f its.toArray=its'.toArray) (hv:QF ys its') (hz:ys.length≤sizeLine) :
  Inv X pins σ (upd H l (.lst ys)) { s with heap:=s.heap.update l (Obj.mapSeq f),toks:=t' }:=by
 have q:=PySem.IsL.update e f
 rw[hf] at q
 refine I.write (x:=l) (e:=l) (by rw[hH];exact trivial) (.inl rfl) (fun b' u hb hu=>(Heap.get?_update_other s.heap (Obj.mapSeq f) (Ne.symm hb)).trans hu) ⟨_,q⟩ ?_
 exact⟨hz,its',_,hv,q⟩
theorem Inv.lnew{its:List Value}{t':Nat}(I:Inv X pins σ H s)(hv:QF ys its)(hz:ys.length≤sizeLine) :
  Inv X pins σ (upd H s.heap.objs.size (.lst ys)) { s with heap:=s.heap.push { cls:=.type "list",data:=.seq its.toArray },toks:=t' }:=
 I.laid (fun _ _ q=>Heap.get?_push_of_some _ q) (yl _) ⟨hz,its,0,hv,Heap.get?_push_size _ rfl⟩
theorem Inv.fresh(I:Inv X pins σ H s):H s.heap.objs.size=none:=I.hok.fresh (yl _)
theorem Inv.lstM(I:Inv X pins σ H s) (hH:H l=some (.lst xs)):xs.length≤sizeLine∧∃(its:List Value)(n:Nat),QF xs its∧xs.length=its.length∧s.heap.get? l=some { cls:=.type "list",data:=.seq its.toArray n }:=by
 obtain⟨z,its,n,r,e⟩:=I.hok l _ hH
 exact⟨z,its,n,r,r.length,e⟩
end
section
variable {X:Cx}
def rAppend:V→List V→Hp→VK→Prop:=fun x vs H Q=>∃ l xs y,x=.ref l∧vs=[y]∧H l=some (.lst xs)∧xs.length<sizeLine∧Q .non (upd H l (.lst (xs++[y])))
theorem Z4:MtM X "list.append" rAppend:=by
 intro pins s σ H x vs v us Q I rx rv h
 obtain⟨l,xs,y,rfl,rfl,hH,hz,q⟩:=h
 cases rx
 obtain⟨u,rfl,ru⟩:=rv.one
 obtain⟨z,its,n,r,hl,e⟩:=I.lstM hH
 refine call_meets F.slot_list_append ⟨_,e,rfl⟩ F.entry_list_append (F.args_list_append_2 _ _) (PySem.list_append l its.toArray n u (by rw[yn];omega)) ⟨e,?_⟩
 refine⟨.non,_,I.lset (its':=its++[u]) hH e (by simp) (r.append (.cons ru .nil)) ?_,rfl,q⟩
 rw[yt,jG]
 omega
def rPop:V→List V→Hp→VK→Prop:=fun x vs H Q=>∃ l xs y,x=.ref l∧vs=[]∧H l=some (.lst xs)∧xs[xs.length-1]?=some y∧Q y (upd H l (.lst xs.dropLast))
theorem mt_pop:MtM X "list.pop" rPop:=by
 intro pins s σ H x vs v us Q I rx rv h
 obtain⟨l,xs,y,rfl,rfl,hH,hy,q⟩:=h
 cases rx
 have hus:=rv.zero
 subst hus
 obtain⟨z,its,n,r,hl,e⟩:=I.lstM hH
 obtain⟨u,hu,ru⟩:=r.get hy
 have hy':its.toArray[its.toArray.size-1]?=some u:=by
  show its.toArray[its.length-1]?=some u
  rw[←Array.getElem?_toList,←hl]
  exact hu
 refine call_meets F.slot_list_pop ⟨_,e,rfl⟩ F.entry_list_pop (F.args_list_pop_1 _) (MeetsSeq.list_pop_last l its.toArray n u hy' (by rw[yn];omega)) ⟨e,?_⟩
 refine⟨y,_,I.lset (its':=its.dropLast) hH e ?_ r.dropLast ?_,ru,q⟩
 ·show its.toArray.eraseIdxIfInBounds (its.toArray.size-1)=its.dropLast.toArray
  rw[yn,List.eraseIdxIfInBounds_toArray,erase_last]
 ·rw[List.length_dropLast]
  omega
def rCat:R2:=fun x y H Q=>∃ l b xs zs,x=.ref l∧y=.ref b∧H l=some (.lst xs)∧H b=some (.lst zs)∧xs.length+zs.length≤sizeLine∧∀ p,H p=none→Q (.ref p) (upd H p (.lst (xs++zs)))
theorem op_cat:OpR X (binaryOp .Add) rCat:=by
 intro pins s σ H x y v u Q I rx ry h
 obtain⟨l,b,xs,zs,rfl,rfl,hH,hB,hz,q⟩:=h
 cases rx
 cases ry
 obtain⟨z,its,n,r,hl,e⟩:=I.lstM hH
 obtain⟨z2,its2,n2,r2,hl2,e2⟩:=I.lstM hB
 refine PySem.P.add_list e e2 ?_ (by rw[yn,yn];omega)
 have ea:its.toArray++its2.toArray=(its++its2).toArray:=by simp
 rw[ea]
 exact⟨.ref _,_,I.lnew (t':=s.toks) (r.append r2) (by rw[yt];omega),rfl,q _ I.fresh⟩
end
section
variable {prog:Program} {w:World} {A:Around} {E:Value→Shared→Prop} {s:Shared}
end
section
variable {X:Cx}
end
end L2
namespace L2
open PySem PySem.Spec PyProof.Rows
theorem QF.strs:∀ {xs:List Str} {us:List Value},QF (xs.map V.str) us→StrsAre us xs
 | [],us,h=>by
  rw[Ub] at h
  cases h
  exact StrsAre.nil
 | x::xs,us,h=>by
  rw[yD] at h
  cases h with
  | cons r t=>
   obtain⟨k,rfl⟩:=r
   exact StrsAre.cons x k (QF.strs t)
theorem QF.bls:∀ {bs:List Bool} {us:List Value},QF (bs.map V.bl) us→us=bs.map Value.bool
 | [],us,h=>by
  rw[Ub] at h
  cases h
  rfl
 | b::bs,us,h=>by
  rw[yD] at h
  cases h with
  | cons r t=>
   cases r
   rw[QF.bls t,yD]
theorem QF.ref1{a:Addr}{us:List Value}(r:QF [V.ref a] us):us=[Value.ref a]:=by
 cases r with
 | cons r t=>
  cases t
  cases r
  rfl
section
variable {prog:Program} {w:World} {A:Around} {E:Value→Shared→Prop} {s:Shared} {l:Addr} {its:List Value} {ns:List Int} {Q:Value→Shared→Prop}
end
section
variable {X:Cx}
end
section
variable {X:Cx}
end
section
variable {X:Cx}
end
theorem iter_any{prog:Program}{w:World}{A:Around}{E:Value→Shared→Prop}{s:Shared}{l:Addr}{items:Array Value}{Q:Value→Shared→Prop}(hl:s.heap.IsList l items)
  (h:∀ s₂:Shared,s₂={ s with heap:=s.heap.push { cls:=.type "list_iterator",data:=.fields #[.ref l,.int 0 0] } }→
   (s₂.heap.IsListIter s.heap.objs.size l 0∧s₂.heap.IsList l items)→l≠s.heap.objs.size→Q (.ref s.heap.objs.size) s₂):wpAny (model prog w) A (pyIter (.ref l)) Q E s:=by
 have hlt:l<s.heap.objs.size:=by obtain⟨_,e,_⟩:=hl;exact Heap.lt_size e
 exact wpAny_pyIter_list hl (h _ rfl ⟨⟨_,Heap.get?_push_size _ rfl,rfl,rfl⟩,hl.push _⟩ (yr hlt))
theorem truth_bools{prog:Program}{w:World}{A:Around}{bs:List Bool}{its:List Value}(e:its=bs.map Value.bool) :
  TruthOf prog w A (fun i v=>its.toArray[i]?=some v) (fun i=>bs.getD i false):=fun i v s Q E hv hq=>by
 have hv':its[i]?=some v:=by simpa using hv
 rw[e,yi] at hv'
 obtain⟨b,hb,rfl⟩:=Option.map_eq_some_iff.mp hv'
 have hg:bs.getD i false=b:=by rw[j4,hb] <;> rfl
 have hq':Q (bs.getD i false) s:=hq
 rw[hg] at hq'
 exact wpAny_truthy_bool hq'
theorem zo:∀ bs:List Bool,(yj bs.length).any (fun i=>bs.getD i false)=bs.any id
 | []=>rfl
 | b::bs=>by
  rw[yx,Uc,xr,Gh,xr,←zo bs]
  all_goals rfl
section
variable {X:Cx}
def rAny(K:z8):List V→Hp→VK→Prop:=fun vs H Q=>∃(a:Addr)(bs:List Bool),vs=[V.ref a]∧SqL K H a (bs.map V.bl)∧Q (.bl (bs.any id)) H
theorem cr_any(hc:X.calm=true):zp X (.builtin "any") (rAny X.K):=by
 intro pins s σ H vs us Q I r h
 obtain⟨a,bs,rfl,hs,q⟩:=h
 obtain⟨its,rv,hl,_⟩:=I.list hs
 rw[QF.ref1 r]
 have hb:=rv.bls
 refine call_any_walk (iter_any hl.isList fun s₂ e2 st hne=>?_)
 subst e2
 refine⟨_,_,_,_,_,_,_,rfl,Walks.list (A:=X.A.in1) (I.ok.hd hc) _ a hne its.toArray,st,truth_bools hb,fun h' tk hk=>?_⟩
 refine⟨.bl _,H,I.kept fun b o eo=>hk b o (fun hmem=>?_) (Heap.get?_push_of_some _ eo),?_,q⟩
 ·rcases List.mem_cons.mp hmem with e1 | hmem
  ·exact absurd (e1▸Heap.lt_size eo) (jx _)
  ·cases hmem
 ·show Value.bool _=Value.bool _
  rw[←zo,hb,yn,yc]
end
mutual
inductive Dp(K:z8)(H:Hp):V→PyData→Prop
 | non:Dp K H .non .none
 | bl (b:Bool):Dp K H (.bl b) (.bool b)
 | int (i:Int):Dp K H (.int i) (.int i)
 | str (x:Str):Dp K H (.str x) (.str x)
 | lst {a:Addr} {xs:List V} {ds:List PyData}:SqL K H a xs→Ji K H xs ds→Dp K H (.ref a) (.list ds)
 | tup {a:Addr} {xs:List V} {ds:List PyData}:SqT K H a xs→Ji K H xs ds→Dp K H (.ref a) (.tuple ds)
inductive Ji(K:z8)(H:Hp):List V→List PyData→Prop
 | nil:Ji K H [] []
 | cons {v:V} {vs:List V} {d:PyData} {ds:List PyData}:Dp K H v d→Ji K H vs ds→Ji K H (v::vs) (d::ds)
end
section
variable {X:Cx} {pins:List (Addr×Obj)} {σ:St} {H:Hp} {s:Shared}
mutual
theorem Dp.reads(I:Inv X pins σ H s):∀(d:PyData)(v:V)(u:Value),Dp X.K H v d→QT v u→∃ as,Reads s.heap u d as
 | .none,_,_,h,r=>by
  cases h
  cases r
  exact⟨_,Reads.none⟩
 | .bool b,_,_,h,r=>by
  cases h
  cases r
  exact⟨_,Reads.bool b⟩
 | .int i,_,_,h,r=>by
  cases h
  obtain⟨t,rfl⟩:=r
  exact⟨_,Reads.int i t⟩
 | .str x,_,_,h,r=>by
  cases h
  obtain⟨t,rfl⟩:=r
  exact⟨_,Reads.str x t⟩
 | .list ds,_,_,h,r=>by
  cases h with
  | lst hs ha=>
   cases r
   obtain⟨its,rv,⟨o,n,ho,hc,_,hd⟩,_⟩:=I.list hs
   obtain⟨as,hr⟩:=Dp.readsAll I ds _ its ha rv
   exact⟨_,Reads.list ho hc hd hr⟩
 | .tuple ds,_,_,h,r=>by
  cases h with
  | tup hs ha=>
   cases r
   obtain⟨its,rv,⟨o,ho,hc,n,hd⟩,_⟩:=I.tuple hs
   obtain⟨as,hr⟩:=Dp.readsAll I ds _ its ha rv
   exact⟨_,Reads.tuple ho hc hd hr⟩
 | .dict _,_,_,h,_=>by cases h
theorem Dp.readsAll(I:Inv X pins σ H s):∀(ds:List PyData)(vs:List V)(us:List Value),Ji X.K H vs ds→QF vs us→∃ as,ReadsAll s.heap us ds as
 | [],_,_,h,r=>by
  cases h
  cases r
  exact⟨_,ReadsAll.nil⟩
 | d::ds,_,_,h,r=>by
  cases h with
  | cons h1 h2=>
   cases r with
   | cons r1 r2=>
    obtain⟨as,q1⟩:=Dp.reads I d _ _ h1 r1
    obtain⟨bs,q2⟩:=Dp.readsAll I ds _ _ h2 r2
    exact⟨_,ReadsAll.cons q1 q2⟩
end
end
section
variable {X:Cx}
def rNeD(K:z8):R2:=fun x y H Q=>∃ d e,Dp K H x d∧Dp K H y e∧SeqAt.shaped d=true∧SeqAt.shaped e=true∧Q (.bl (!PyData.eqv d e)) H
theorem op_neD(hu:X.A.units+64<cLine):OpR X (compareOp .NotEq) (rNeD X.K):=by
 intro pins s σ H x y v u Q I rx ry h
 obtain⟨d,e,hd,he,sd,se,q⟩:=h
 obtain⟨as,r1⟩:=Dp.reads I d x v hd rx
 obtain⟨bs,r2⟩:=Dp.reads I e y u he ry
 exact SeqAt.compareNe_shaped r1 r2 sd se hu ⟨.bl _,H,I,rfl,q⟩
end
end L2
namespace L2
open PySem PySem.Spec PyProof.Rows
abbrev CellAt(h:Heap)(c:Addr)(v:Option Value):Prop:=h.IsCell c v
def relS(scope sc:Scope):Scope:=
 { scope with names:=scope.names.map fun (n,k)=>if (k==.free&&sc.kind==.function&&sc.names.lookup n==some .cell) then (n,.cell) else (n,k) }
def QW (cells:List (Str×Addr)):List (Str×NameKind)→List (Str×Addr)→List (Str×Addr)
 | [],acc=>acc
 | (n,k)::r,acc=>if k==.free then QW cells r ((n,(cells.lookup n).getD 0)::acc) else QW cells r acc
theorem Jd(env:Env) (f:Str×NameKind→List (Str×Addr)→Sem (ForInStep (List (Str×Addr))))
  (hf:∀ n k c,f (n,k) c=if k==.free then (do let a ← cellOf env n;pure (.yield ((n,a)::c))) else pure (.yield c)) :
  ∀ (names:List (Str×NameKind)) (acc:List (Str×Addr)),(∀ y∈names,y.2=.free→∃ c,env.cells.lookup y.1=some c)→forIn names acc f=pure (QW env.cells names acc)
 | [],acc,_=>by rw[List.forIn_nil];rfl
 | (n,k)::r,acc,h=>by
  rw[List.forIn_cons,hf]
  have ih:=fun acc=>Jd env f hf r acc fun y hy=>h y (ym _ hy)
  unfold QW
  by_cases hk:(k==NameKind.free)=true
  ·rw[if_pos hk,if_pos hk]
   obtain⟨c,hc⟩:=h (n,k) yI (by simpa using hk)
   have e:cellOf env n=pure c:=by unfold cellOf;rw[hc]
   rw[e]
   have e2:(env.cells.lookup n).getD 0=c:=by rw[hc];rfl
   rw[e2]
   exact ih _
  ·rw[if_neg hk,if_neg hk]
   exact ih _
theorem closure_ok{scope:Scope}{env:Env}(h:∀ y∈scope.names,y.2=.free→∃ c,env.cells.lookup y.1=some c):closureFor scope env=pure (QW env.cells scope.names []):=by
 simp only[closureFor]
 rw[Jd env _ (fun n k c=>rfl) scope.names [] h]
 rfl
theorem YR{α:Type}:∀ {l:List (Str×α)} {n:Str} {c:α},(n,c)∈l→∃ c',l.lookup n=some c'
 | (k,v)::r,n,c,h=>by
  rw[jY]
  cases hb:n==k with
  | true=>exact⟨_,rfl⟩
  | false=>
   rcases List.mem_cons.mp h with e | h
   ·cases e;simp at hb
   ·exact YR h
theorem Xq {cells:List (Str×Addr)}:∀ {names:List (Str×NameKind)} {acc:List (Str×Addr)} {n:Str} {c:Addr},(n,c)∈QW cells names acc→(n,c)∈acc∨((n,.free)∈names∧c=(cells.lookup n).getD 0)
 | [],_,_,_,h=>.inl h
 | (m,k)::r,acc,n,c,h=>by
  unfold QW at h
  split at h
  ·rename_i hk
   have hk:k=.free:=by simpa using hk
   rcases Xq h with h | ⟨h1,h2⟩
   ·rcases List.mem_cons.mp h with e | h
    ·cases e;exact .inr ⟨hk▸yI,rfl⟩
    ·exact .inl h
   ·exact .inr ⟨ym _ h1,h2⟩
  ·rcases Xq h with h | ⟨h1,h2⟩
   ·exact .inl h
   ·exact .inr ⟨ym _ h1,h2⟩
theorem Yk {cells:List (Str×Addr)}:∀ {names:List (Str×NameKind)} {acc:List (Str×Addr)} {p:Str×Addr},p∈acc→p∈QW cells names acc
 | [],_,_,h=>h
 | (m,k)::r,acc,p,h=>by
  unfold QW
  split
  ·exact Yk (ym _ h)
  ·exact Yk h
theorem Yj {cells:List (Str×Addr)}:∀ {names:List (Str×NameKind)} {acc:List (Str×Addr)} {n:Str},(n,.free)∈names→(n,(cells.lookup n).getD 0)∈QW cells names acc
 | (m,k)::r,acc,n,h=>by
  unfold QW
  rcases List.mem_cons.mp h with e | h
  ·cases e
   exact Yk yI
  ·split
   ·exact Yj h
   ·exact Yj h
theorem XH:∀ {names:List (Str×NameKind)} {h:Heap} {acc:List (Str×Addr)} {x:Str} {c:Addr},(x,c)∈cellsFrom h.objs.size names acc→
  (x,c)∈acc∨((x,.cell)∈names∧h.objs.size≤c∧CellAt (pushCells h names) c none)
 | [],_,_,_,_,h=>.inl h
 | (n,k)::r,h,acc,x,c,hm=>by
  unfold cellsFrom at hm
  unfold pushCells
  split at hm
  ·rename_i hk
   rw[if_pos hk]
   have hk:k=.cell:=by simpa using hk
   rw[←Heap.size_push h { cls:=.type "cell",data:=.cell none }] at hm
   rcases XH hm with hm | ⟨h1,h2,h3⟩
   ·rcases List.mem_cons.mp hm with e | hm
    ·cases e
     exact .inr ⟨hk▸yI,yl _,_,pushCells_keeps r _ _ _ (Heap.get?_push_size _ rfl),rfl⟩
    ·exact .inl hm
   ·rw[Heap.size_push] at h2
    exact .inr ⟨ym _ h1,Gm h2,h3⟩
  ·rename_i hk
   rw[if_neg hk]
   rcases XH hm with hm | ⟨h1,h2,h3⟩
   ·exact .inl hm
   ·exact .inr ⟨ym _ h1,h2,h3⟩
theorem Yu:∀ {names:List (Str×NameKind)} {n:Nat} {acc:List (Str×Addr)} {p:Str×Addr},p∈acc→p∈cellsFrom n names acc
 | [],_,_,_,h=>h
 | (m,k)::r,n,acc,p,h=>by
  unfold cellsFrom
  split
  ·exact Yu (ym _ h)
  ·exact Yu h
theorem Ju:∀ {names:List (Str×NameKind)} {n:Nat} {acc:List (Str×Addr)} {x:Str},(x,.cell)∈names→∃ c,(x,c)∈cellsFrom n names acc
 | (m,k)::r,n,acc,x,h=>by
  unfold cellsFrom
  rcases List.mem_cons.mp h with e | h
  ·cases e
   exact⟨n,Yu yI⟩
  ·split
   ·exact Ju h
   ·exact Ju h
theorem Jt:∀ {names:List (Str×NameKind)} {h:Heap} {acc:List (Str×Addr)} {x y:Str} {c:Addr},(∀ p∈acc,p.2<h.objs.size)→(∀ x y c,(x,c)∈acc→(y,c)∈acc→x=y)→
  (x,c)∈cellsFrom h.objs.size names acc→(y,c)∈cellsFrom h.objs.size names acc→x=y
 | [],_,_,_,_,_,_,hi,h1,h2=>hi _ _ _ h1 h2
 | (n,k)::r,h,acc,x,y,c,hl,hi,h1,h2=>by
  unfold cellsFrom at h1 h2
  split at h1
  ·rename_i hk
   rw[if_pos hk] at h2
   rw[←Heap.size_push h { cls:=.type "cell",data:=.cell none }] at h1 h2
   refine Jt (h:=h.push _) (fun p hp=>?_) (fun x y c a b=>?_) h1 h2
   ·rw[Heap.size_push]
    rcases List.mem_cons.mp hp with rfl | hp
    ·exact G8 _
    ·exact xm (hl p hp)
   ·rcases List.mem_cons.mp a with e | a <;> rcases List.mem_cons.mp b with e' | b
    ·cases e;cases e';rfl
    ·cases e;exact absurd (hl _ b) (jx _)
    ·cases e';exact absurd (hl _ a) (jx _)
    ·exact hi _ _ _ a b
  ·rename_i hk
   rw[if_neg hk] at h2
   exact Jt hl hi h1 h2
theorem newEnv_comp{M:Model}{A:Around}{E:Value→Shared→Prop}{s:Shared}{scope:Scope}{globals:Addr} {closure:List (Str×Addr)} {qual:Str} {func:Option Addr} {code:Value} {around:Env} {builtins:Addr} {Q:Env→Shared→Prop}
  (h:Q (newEnv scope s.heap.objs.size globals (cellsFrom (s.heap.objs.size+1) scope.names closure) qual func code (some around) builtins)
   { s with heap:=pushCells (s.heap.push { cls:=.type "dict",data:=.dict #[] }) scope.names }) :
  wpAny M A (newFunctionEnv scope globals closure [] qual func code (some around) builtins) Q E s:=by
 simp only[newFunctionEnv,Option.isSome_some,if_true]
 refine wpAny_bind (wpAny_alloc ?_)
 refine wpAny_bind (wpAny_layCells _ (fun n k c=>rfl) scope.names closure _ _ ?_)
 rw[show ({ s with heap:=s.heap.push { cls:=.type "dict",data:=.dict #[] } }:Shared).heap.objs.size=s.heap.objs.size+1 from Heap.size_push ..]
 rw[List.forIn_nil]
 exact wpAny_bind (wpAny_pure (wpAny_pure h))
theorem Yg{sc:Scope}:∀ {names:List (Str×NameKind)} {x:Str} {k:NameKind},
  (names.map fun (n,k)=>if (k==NameKind.free&&sc.kind==.function&&sc.names.lookup n==some .cell) then (n,NameKind.cell) else (n,k)).lookup x=some k→
  ∃ k',names.lookup x=some k'∧(k=k'∨(k'=.free∧k=.cell))
 | [],_,_,h=>by simp at h
 | (n,k₀)::r,x,k,h=>by
  have ih:=@Yg sc r x k
  have h':xQ x ((if (k₀==NameKind.free&&sc.kind==.function&&sc.names.lookup n==some .cell)=true then (n,NameKind.cell) else (n,k₀))::(r.map _))=some k:=h
  cases hx:x==n with
  | true=>
   simp only[jY,hx]
   by_cases hc:(k₀==NameKind.free&&sc.kind==.function&&sc.names.lookup n==some .cell)=true
   ·rw[if_pos hc] at h'
    simp only[jY,hx] at h'
    cases h'
    simp only[yk,beq_iff_eq] at hc
    exact⟨k₀,rfl,.inr ⟨hc.1.1,rfl⟩⟩
   ·rw[if_neg hc] at h'
    simp only[jY,hx] at h'
    cases h'
    exact⟨_,rfl,.inl rfl⟩
  | false=>
   simp only[jY,hx]
   by_cases hc:(k₀==NameKind.free&&sc.kind==.function&&sc.names.lookup n==some .cell)=true
   ·rw[if_pos hc] at h'
    simp only[jY,hx] at h'
    exact ih h'
   ·rw[if_neg hc] at h'
    simp only[jY,hx] at h'
    exact ih h'
structure BlkOk(N:List Str)(sc scope:Scope) (own:List (Str×Nat)):Prop where
 kind:scope.kind=.function
 uniq:∀ y∈scope.names,scope.names.lookup y.1=some y.2
 ix:∀ p∈own,N[p.2]?=some p.1
 free:∀ y∈scope.names,y.2=.free→sc.names.lookup y.1=some .cell∨sc.names.lookup y.1=some .free
 own:∀ y∈scope.names,y.2=.local∨y.2=.cell→y.1∈own.map (·.1)∨y.1∉N
def ZJ(σ:St):List Nat→St
 | []=>σ
 | v::vs=>(ZJ σ vs).set v none
theorem X6(σ:St):∀ vs:List Nat,(ZJ σ vs).length=σ.length
 | []=>rfl
 | v::vs=>by unfold ZJ;rw[Um,X6 σ vs]
theorem Jj{σ:St}{i:Nat}{x:V}:∀ {vs:List Nat},(ZJ σ vs)[i]?=some (some x)→σ[i]?=some (some x)∧i∉vs
 | [],h=>⟨h,by simp⟩
 | v::vs,h=>by
  unfold ZJ at h
  by_cases hi:v=i
  ·subst hi
   by_cases hv:v<(ZJ σ vs).length
   ·rw[jy hv] at h;cases h
   ·rw[jH (by simpa using hv)] at h;cases h
  ·rw[jv hi] at h
   obtain⟨h1,h2⟩:=Jj h
   exact⟨h1,by simp only[Uw,not_or];exact⟨fun e=>hi e.symm,h2⟩⟩
abbrev Cx.blk(X:Cx)(s:Shared)(H:Hp)(scope:Scope)(cenv:Env)(fp:List Addr):Cx:={ X with s_0:=s,H_0:=H,env:=cenv,outer:=X.stack,ex:=fp,fn:=fun x=>scope.names.lookup x==some .cell,pn:=[],xe:=fun _ _=>False }
section
variable {X:Cx} {pins:List (Addr×Obj)} {σ:St} {H:Hp} {s:Shared}
theorem block_start{scope:Scope} {own:List (Str×Nat)} {fp:List Addr} (I:Inv X pins σ H s) (ok:BlkOk X.N X.env.scope scope own) (hN:X.N.Nodup) (hfp:∀ b∈fp,JL X pins H b∧b<s.heap.objs.size) :
  Inv (X.blk s H scope (compEnvC scope (cellsFrom (s.heap.objs.size+1) scope.names (QW X.env.cells scope.names [])) s.heap.objs.size X.env) fp) [] (ZJ σ (own.map (·.2))) H { s with heap:=pushCells (s.heap.push { cls:=.type "dict",data:=.dict #[] }) scope.names }:=by
 have hfree:∀ y∈scope.names,y.2=.free→∃ c,X.env.cells.lookup y.1=some c:=fun y hy e=>by
  rcases ok.free y hy e with k | k
  ·exact I.ok.has _ (.inl k)
  ·exact I.ok.has _ (.inr k)
 generalize hcenv:compEnvC scope (cellsFrom (s.heap.objs.size+1) scope.names (QW X.env.cells scope.names [])) s.heap.objs.size X.env=cenv
 have kp:∀ b o,s.heap.get? b=some o→(pushCells (s.heap.push { cls:=.type "dict",data:=.dict #[] }) scope.names).get? b=some o:=fun b o e=>pushCells_keeps _ _ _ _ (Heap.get?_push_of_some _ e)
 have hL:cenv.locals=s.heap.objs.size:=by rw[←hcenv];rfl
 have hcl:cenv.cells=cellsFrom (s.heap.objs.size+1) scope.names (QW X.env.cells scope.names []):=by rw[←hcenv];rfl
 have hsc:cenv.scope=relS scope X.env.scope:=by rw[←hcenv];rfl
 rw[←Heap.size_push s.heap { cls:=.type "dict",data:=.dict #[] }] at hcl
 have cm:∀ {y c},(y,c)∈QW X.env.cells scope.names []→X.env.cells.lookup y=some c∧c<s.heap.objs.size:=fun {y c} hm=>by
  rcases Xq hm with hm | ⟨h1,rfl⟩
  ·cases hm
  ·obtain⟨c,hc⟩:=hfree _ h1 rfl
   rw[hc]
   obtain⟨w,z⟩:=I.cell _ _ hc
   exact⟨rfl,z.lt⟩
 have mem:∀ {y c},cenv.cells.lookup y=some c→(X.env.cells.lookup y=some c∧c<s.heap.objs.size)∨(s.heap.objs.size+1≤c∧CellAt (pushCells (s.heap.push { cls:=.type "dict",data:=.dict #[] }) scope.names) c none):=fun {y c} e=>by
  rw[hcl] at e
  rcases XH (PySem.mem_of_lookup e) with hm | ⟨_,h2,h3⟩
  ·exact .inl (cm hm)
  ·rw[Heap.size_push] at h2;exact .inr ⟨h2,h3⟩
 have look:∀ {y},scope.names.lookup y=some .free→∃ c,cenv.cells.lookup y=some c∧X.env.cells.lookup y=some c:=fun {y} hl=>by
  have hy:(y,NameKind.free)∈scope.names:=PySem.mem_of_lookup hl
  obtain⟨c',e'⟩:=YR (Yu (names:=scope.names) (n:=(s.heap.push { cls:=.type "dict",data:=.dict #[] }).objs.size) (Yj (cells:=X.env.cells) (acc:=[]) hy))
  rw[←hcl] at e'
  refine⟨c',e',?_⟩
  rw[hcl] at e'
  rcases XH (PySem.mem_of_lookup e') with hm | ⟨h1,_,_⟩
  ·exact (cm hm).1
  ·have:=ok.uniq _ h1
   rw[hl] at this;cases this
 have okB:(X.blk s H scope cenv fp).Ok:=by
  refine⟨I.ok.mod,by show cenv.scope.kind=_;rw[hsc];exact ok.kind,by show cenv.globals=_;rw[←hcenv];exact I.ok.glob,by show cenv.builtins=_;rw[←hcenv];exact I.ok.blt,by show s.heap.objs.size≤cenv.locals;rw[hL];exact yl _,
   fun y z c e1 e2=>?_,fun y hy=>?_,fun y c z e=>?_,I.ok.hd,I.ok.frames,.inl rfl,fun b hb=>⟨?_,fun y c e z=>?_⟩,I.bs,yE I.ok.bsz I.sz,fun b o e hb=>?_,fun b hb z=>?_,I.stack,I.stkFree⟩
  ·have e1:cenv.cells.lookup y=some c:=e1
   have e2:cenv.cells.lookup z=some c:=e2
   rw[hcl] at e1 e2
   refine Jt (fun p hp=>?_) (fun y z c a b=>I.ok.inj y z c (cm a).1 (cm b).1) (PySem.mem_of_lookup e1) (PySem.mem_of_lookup e2)
   rw[Heap.size_push]
   exact xm (cm (y:=p.1) (c:=p.2) hp).2
  ·show ∃ c,cenv.cells.lookup y=some c
   have key:∀ k,cenv.kindOf y=some k→(k=.cell∨k=.free)→∃ c,cenv.cells.lookup y=some c:=fun k hk hk'=>by
    unfold Env.kindOf at hk
    rw[hsc] at hk
    obtain⟨k',e,r⟩:=Yg hk
    have:k'=.cell∨k'=.free:=by
     rcases r with rfl | ⟨rfl,_⟩
     ·exact hk'
     ·exact .inr rfl
    rcases this with rfl | rfl
    ·obtain⟨c,hm⟩:=Ju (n:=(s.heap.push { cls:=.type "dict",data:=.dict #[] }).objs.size) (acc:=QW X.env.cells scope.names []) (PySem.mem_of_lookup e)
     obtain⟨c',e'⟩:=YR hm
     exact⟨c',by rw[hcl];exact e'⟩
    ·obtain⟨c,h1,_⟩:=look e
     exact⟨c,h1⟩
   rcases hy with hy | hy
   ·exact key _ hy (.inl rfl)
   ·exact key _ hy (.inr rfl)
  ·have z:(scope.names.lookup y==some NameKind.cell)=true:=z
   have z:scope.names.lookup y=some .cell:=by simpa using z
   have e:cenv.cells.lookup y=some c:=e
   rw[hcl] at e
   rcases XH (PySem.mem_of_lookup e) with hm | ⟨_,h2,_⟩
   ·rcases Xq hm with hm | ⟨h1,_⟩
    ·cases hm
    ·have q:=ok.uniq _ h1
     rw[z] at q;cases q
   ·rw[Heap.size_push] at h2
    exact Gm h2
  ·show b≠cenv.locals
   rw[hL];exact yr (hfp b hb).2
  ·have e:cenv.cells.lookup y=some c:=e
   rcases mem e with ⟨h1,_⟩ | ⟨h1,_⟩
   ·exact (hfp b hb).1.2.2.2.2.1 y c h1 z
   ·have h2:s.heap.objs.size+1≤b:=by rw[←z];exact h1
    exact absurd (yu (hfp b hb).2 (Gm h2)) (jx _)
  ·rcases (hfp b hb).1.2.2.2.1 with z | z
   ·exact I.ok.noex b o e z
   ·exact absurd (yu (Heap.lt_size e) (yE I.ok.bsz z)) (jx _)
  ·rcases List.mem_cons.mp (I.stkSub b z) with z | z
   ·exact (hfp b hb).1.2.1 z
   ·exact (hfp b hb).1.2.2.1 z
 refine⟨okB,rfl,I.bare,Un.kept kp,⟨fun _=>none,?_,fun i y av e1 e2 e3=>?_⟩,fun y c e=>?_,?_,fun y c e=>?_,fun p hp=>?_,I.hok.kept kp,by rw[X6];exact I.len⟩
 ·show Heap.Ns _ cenv.locals _
  rw[hL]
  exact Heap.Ns.keeps (Heap.Ns.new ..) fun b o e=>pushCells_keeps _ _ _ _ e
 ·obtain⟨e2,hne⟩:=Jj e2
  have hfr:scope.names.lookup y=some .free∧(cenv.kindOf y=some .cell∨cenv.kindOf y=some .free):=by
   have key:∀ k,cenv.scope.names.lookup y=some k→k=.local∨k=.cell∨k=.free→scope.names.lookup y=some .free∧(cenv.kindOf y=some .cell∨cenv.kindOf y=some .free):=fun k hk hk'=>by
    have hk0:=hk
    rw[hsc] at hk
    obtain⟨k',e,r⟩:=Yg hk
    have no:¬ (k'=.local∨k'=.cell):=fun hh=>by
     rcases ok.own _ (PySem.mem_of_lookup e) hh with e' | e'
     ·obtain⟨p,hp,hpy⟩:=List.mem_map.mp e'
      have e3:=ok.ix p hp
      have:p.1=y:=hpy
      rw[this] at e3
      exact hne (List.mem_map.mpr ⟨p,hp,qe hN e3 e1⟩)
     ·exact e' (yO e1)
    rcases r with rfl | ⟨rfl,rfl⟩
    ·rcases hk' with rfl | rfl | rfl
     ·exact absurd (.inl rfl) no
     ·exact absurd (.inr rfl) no
     ·exact⟨e,.inr hk0⟩
    ·exact⟨e,.inl hk0⟩
   have e3:Vis cenv.scope y:=e3
   rcases e3 with e3 | e3 | e3
   ·exact key _ e3 (.inl rfl)
   ·exact key _ e3 (.inr (.inl rfl))
   ·exact key _ e3 (.inr (.inr rfl))
  obtain⟨m,hn,hl⟩:=I.loc
  have hvis:Vis X.env.scope y:=(ok.free _ (PySem.mem_of_lookup hfr.1) rfl).elim (fun k=>.inr (.inl k)) (fun k=>.inr (.inr k))
  obtain⟨w,r,q⟩:=hl i y av e1 e2 hvis
  refine⟨w,r,.inr ⟨hfr.2,?_⟩⟩
  obtain⟨c,h1,h2⟩:=look hfr.1
  rcases q with ⟨k,_⟩ | ⟨_,c',e',z⟩
  ·have k:X.env.scope.names.lookup y=some .local:=k
   rcases ok.free _ (PySem.mem_of_lookup hfr.1) rfl with k' | k' <;> rw[show X.env.scope.names.lookup y=_ from k'] at k <;> cases k
  ·rw[h2] at e';cases e'
   exact⟨c,h1,z.keeps kp⟩
 ·have e:cenv.cells.lookup y=some c:=e
  rcases mem e with ⟨h1,_⟩ | ⟨_,z⟩
  ·obtain⟨w,z⟩:=I.cell y c h1
   exact⟨w,z.keeps kp⟩
  ·exact⟨_,z⟩
 ·show H cenv.locals=none
  rw[hL];exact I.hok.fresh (yl _)
 ·have e:cenv.cells.lookup y=some c:=e
  rcases mem e with ⟨h1,_⟩ | ⟨h1,_⟩
  ·exact I.freeC y c h1
  ·exact I.hok.fresh (Gm h1)
 ·exact absurd (show p∈([]:List (Addr×Obj))++[] from hp) (by simp)
theorem app_ok{E:Value→Shared→Prop}{D:Addr}{xs:List V}{y:V}{v:Value}{Q:Value→Shared→Prop}(I:Inv X pins σ H s) (hD:H D=some (.lst xs)) (hz:xs.length<sizeLine) (r:QT y v)
  (h:∀ s',Inv X pins σ (upd H D (.lst (xs++[y]))) s'→Q .none s'):wpAny (model X.prog X.w) X.A (call (.builtin "list.append") [.ref D,v]) Q E s:=by
 obtain⟨hz',its,n,ri,e⟩:=I.hok D _ hD
 have hl:=ri.length
 refine append_at (hsz:=by rw[yn];omega) e fun h' sb ho'=>?_
 refine h { s with heap:=h' } (I.write (t':=s.toks) (by rw[hD];trivial) (.inl rfl) (fun b u hb q=>(sb.2 b hb).trans q) ⟨_,ho'⟩ ⟨by rw[yt];exact hz,its++[v],n+1,ri.append (.cons r .nil),?_⟩)
 rw[ho']
 simp
def PTs(X:Cx)(ifs:List Expr)(t:TT):Prop:=
 ∀ (pins:List (Addr×Obj)) (s:Shared) (σ:St) (H:Hp) (Q:Bool→Hp→Prop),Inv X pins σ H s→t σ H Q→
  wpAny (model X.prog X.w) X.A (forIn ifs true fun c r=>if r=true then do let ok ← isTrue c X.env (eval c X.env);pure (ForInStep.yield ok) else pure (ForInStep.yield r)) (TP X pins σ Q) X.xe s
def tYes:TT:=fun _ H Q=>Q true H
theorem zF:PTs X [] tYes:=fun _ _ _ H _ I h=>wpAny_tests_nil ⟨H,I,h⟩
theorem JQ{c:Expr}{t:TT}(h:PT X c t):PTs X [c] t:=fun pins s σ H Q I hw=>wpAny_tests_one (h pins s σ H Q I hw)
end
theorem thnF{α:Type}{t:Sem α}{Q Q':α→Shared→Prop}{M:Model}{A:Around}{E:Value→Shared→Prop}{s:Shared} (h:wpAny M A t Q (fun _ _=>False) s) (hQ:∀ a s,Q a s→Q' a s):wpAny M A t Q' E s:=wpAny_mono h hQ fun _ _ z=>False.elim z
theorem zZ{prog:Program}{w:World}{A:Around}{R:Result→Shared→Prop}{s:Shared}{elt target iter:Expr}{ifs:List Expr}{scope:Scope}{pos:Pos}{it acc:Value}{env:Env}(I:Nat→Shared→Prop)
  (turn:∀ n s,I n s→wpAny (model prog w) A (pyNext it) (fun r s₁=>match r with
   | none=>R (.ok .next) s₁
   | some v=>wpAny (model prog w) A (letOwnedTupleGo target it v) (fun _ s₁'=>wpAny (model prog w) A (assign target env v) (fun _ s₂=>
     wpAny (model prog w) A (forIn ifs true fun c r=>if r=true then do let ok ← isTrue c env (eval c env);pure (ForInStep.yield ok) else pure (ForInStep.yield r)) (fun ok s₃=>
      if ok=true then wpAny (model prog w) A (eval elt env) (fun x s₄=>
       wpAny (model prog w) A (call (.builtin "list.append") [acc,x]) (fun _ s₅=>∃ m,m<n∧I m s₅) (notedBy (model prog w) A env fun e s'=>R (.error e) s') s₄) (notedBy (model prog w) A env fun e s'=>R (.error e) s') s₃
      else ∃ m,m<n∧I m s₃) (notedBy (model prog w) A env fun e s'=>R (.error e) s') s₂) (notedBy (model prog w) A env fun e s'=>R (.error e) s') s₁') (notedBy (model prog w) A env fun e s'=>R (.error e) s') s₁) (notedBy (model prog w) A env fun e s'=>R (.error e) s') s)
  (n:Nat) (h:I n s) :
  codeAny (model prog w) A (.compLoop (.ListComp elt [⟨target,iter,ifs,0⟩] scope pos) 0 it acc env) R s:=by
 refine codeAny_loop rfl I (fun n s hI=>?_) n h
 show wpAny _ A ((compTurn (.ListComp elt [⟨target,iter,ifs,0⟩] scope pos) 0 it acc env).onRaise (fun x=>do noteFrame x env;theTreesLotGoes x)) _ _ s
 refine wpAny_noted ?_
 rw[compTurn_list]
 refine wpAny_bind (wpAny_standAt (wpAny_bind (wpAny_mono (turn n s hI) (fun r s₁ h₁=>?_) fun _ _ h'=>h')))
 cases r with
 | none=>exact wpAny_pure h₁
 | some v=>
  refine wpAny_bind (wpAny_mono h₁ (fun _ s₁' h₁'=>?_) fun _ _ h'=>h')
  refine wpAny_bind (wpAny_mono h₁' (fun _ s₂ h₂=>wpAny_bind (wpAny_mono h₂ (fun ok s₃ h₃=>?_) fun _ _ h'=>h')) fun _ _ h'=>h')
  cases ok with
  | false=>exact wpAny_pure ⟨rfl,h₃⟩
  | true=>
   exact wpAny_bind (wpAny_bind (wpAny_mono h₃ (fun x s₄ h₄=>wpAny_bind (wpAny_mono h₄ (fun _ s₅ h₅=>wpAny_pure (wpAny_pure ⟨rfl,h₅⟩)) fun _ _ h'=>h')) fun _ _ h'=>h'))
section
variable {X:Cx}
def tLc(wi:TI)(g:TG)(tt:TT)(te:TE)(vs:List Nat):TE:=fun σ H Q=>wi σ H fun J H1=>∀ D,H1 D=none→∃ W:Nat→Nat→Hp→Prop,(∃ m,W 0 m (upd H1 D (.lst [])))∧∀ i m H,W i m H→
 (J.stop i H∧Q (.ref D) H)∨(J.go i H∧∃ Nx:Hp→Prop,(∀ H',Nx H'→∃ m',m'<m∧W (i+1) m' H')∧∀ x H',J.yld i H x H'→g x (ZJ σ vs) H' fun σ2 H2=>ZJ σ2 vs=ZJ σ vs∧tt σ2 H2 fun b H3=>
  if b=true then te σ2 H3 fun y H4=>∃ acc,H4 D=some (.lst acc)∧acc.length<sizeLine∧Nx (upd H4 D (.lst (acc++[y]))) else Nx H3)
theorem lc_core {pins:List (Addr×Obj)} {s:Shared} {σ:St} {H:Hp} {Q:VK} {elt tg iter:Expr} {ifs:List Expr} {scope:Scope} {own:List (Str×Nat)} {pos pos':Pos} {wi:TI} {g:TG} {tt:TT} {te:TE} {use:Option (Value→Sem Unit)} {Qf:Value→Shared→Prop}
  (hc:X.calm=true) (hN:X.N.Nodup) (I:Inv X pins σ H s) (hi:PI X tg iter wi) (ok:BlkOk X.N X.env.scope scope own)
  (hg:∀ (s:Shared) (H:Hp) (C:Addr) (cl:List (Str×Addr)) (fp:List Addr),PG (X.blk s H scope (compEnvC scope cl C X.env) fp) tg g) (ht:∀ (s:Shared) (H:Hp) (C:Addr) (cl:List (Str×Addr)) (fp:List Addr),PTs (X.blk s H scope (compEnvC scope cl C X.env) fp) ifs tt)
  (he:∀ (s:Shared) (H:Hp) (C:Addr) (cl:List (Str×Addr)) (fp:List Addr),PE (X.blk s H scope (compEnvC scope cl C X.env) fp) elt te) (hs:∀ x,foldedSetIterable iter X.env x=pure x)
  (h:tLc wi g tt te (own.map (·.2)) σ H Q)
  (hRR:∀ D C s' m H',Inv X pins σ H' s'→Q (.ref D) H'→s'.heap.Ns C m→JL X pins H' C→compPost (model X.prog X.w) X.A X.xe use Qf (.ref D) C (.ok .next) s') :
  wpAny (model X.prog X.w) X.A (comprehension (.ListComp elt [⟨tg,iter,ifs,0⟩] scope pos) scope X.env pos' (newList []) false (eval iter X.env) use) Qf X.xe s:=by
 have hfree:∀ y∈scope.names,y.2=.free→∃ c,X.env.cells.lookup y.1=some c:=fun y hy e=>by
  rcases ok.free y hy e with k | k
  ·exact I.ok.has _ (.inl k)
  ·exact I.ok.has _ (.inr k)
 refine wpAny_comprehension_free (use:=use) rfl hs (closure_ok hfree) ok.kind (fun y hy e=>by rw[ok.uniq y hy,e])
  (thn (hi pins s σ H _ I h) fun xv s1 hx=>thn hx fun itv s2 h2=>?_)
 obtain⟨it,fp,tn,J,H2,e,I2,T,st2,f2,q⟩:=h2
 subst e
 refine wpAny_newObj_type (newEnv_comp ?_) (by show 0≤sizeLine;decide)
 generalize hD:s2.heap.objs.size=D
 have hDn:H2 D=none:=I2.hok.fresh (GJ hD)
 obtain⟨W,⟨m0,w0⟩,turn⟩:=q D hDn
 generalize hs3:({ s2 with heap:=s2.heap.push { cls:=.type "list",data:=.seq ([]:List Value).toArray } }:Shared)=s3
 have I3:Inv X pins σ (upd H2 D (.lst [])) s3:=by
  rw[←hs3]
  refine I2.laid (t':=s2.toks) (fun b o e=>Heap.get?_push_of_some _ e) (GJ hD) ⟨yM _,[],0,.nil,?_⟩
  rw[←hD]
  exact Heap.get?_push_size _ rfl
 have h3:s3.heap=s2.heap.push { cls:=.type "list",data:=.seq ([]:List Value).toArray }:=by rw[←hs3]
 have sz:∀ b∈fp,b<s2.heap.objs.size:=fun b hb=>by
  obtain⟨o,e,_⟩:=T.obj _ _ st2 b hb
  exact Heap.lt_size e
 have f3:∀ b∈fp,JL X pins (upd H2 D (.lst [])) b∧b<s3.heap.objs.size:=fun b hb=>by
  have hlt:=sz b hb
  refine⟨⟨?_,(f2 b hb).2⟩,by rw[h3,Heap.size_push];exact xm hlt⟩
  rw[Qq (by rw[←hD];exact yr hlt)]
  exact (f2 b hb).1
 have st3:tn 0 s3.heap:=T.keep _ _ _ st2 fun b _ o e=>by rw[h3];exact Heap.get?_push_of_some _ e
 have I4:=block_start I3 ok hN f3
 have pg:=hg s3 (upd H2 D (.lst [])) s3.heap.objs.size (cellsFrom (s3.heap.objs.size+1) scope.names (QW X.env.cells scope.names [])) fp
 have pt:=ht s3 (upd H2 D (.lst [])) s3.heap.objs.size (cellsFrom (s3.heap.objs.size+1) scope.names (QW X.env.cells scope.names [])) fp
 have pe:=he s3 (upd H2 D (.lst [])) s3.heap.objs.size (cellsFrom (s3.heap.objs.size+1) scope.names (QW X.env.cells scope.names [])) fp
 show codeAny _ _ (.compStart (.ListComp elt [⟨tg,iter,ifs,0⟩] scope pos) 0 (.ref it) (.ref D) (compEnvC scope (cellsFrom (s3.heap.objs.size+1) scope.names (QW X.env.cells scope.names [])) s3.heap.objs.size X.env)) (compPost (model X.prog X.w) X.A X.xe use Qf (.ref D) s3.heap.objs.size) { s3 with heap:=pushCells (s3.heap.push { cls:=.type "dict",data:=.dict #[] }) scope.names }
 have nfp:∀ b∈fp,(upd H2 D (.lst [])) b=none:=fun b hb=>(f3 b hb).1.1
 generalize hce:compEnvC scope (cellsFrom (s3.heap.objs.size+1) scope.names (QW X.env.cells scope.names [])) s3.heap.objs.size X.env=ce at I4 pg pt pe ⊢
 have cL:ce.locals=s3.heap.objs.size:=by subst hce;rfl
 generalize hH3:upd H2 D (.lst [])=H3 at I3 I4 pg pt pe w0 nfp f3
 generalize hs4:({ s3 with heap:=pushCells (s3.heap.push { cls:=.type "dict",data:=.dict #[] }) scope.names }:Shared)=s4 at I4 ⊢
 have st4:tn 0 s4.heap:=T.keep _ _ _ st3 fun b _ o e=>by rw[←hs4];exact pushCells_keeps _ _ _ _ (Heap.get?_push_of_some _ e)
 have stat:∀ {σ':St} {H':Hp} {s':Shared},Inv (X.blk s3 H3 scope ce fp) [] σ' H' s'→(∀ b∈fp,H' b=none)→∀ b∈fp,JL (X.blk s3 H3 scope ce fp) [] H' b:=fun {σ' H' s'} I' hn b hb=>
  ⟨hn b hb,(I'.ok.exf b hb).1,I'.ok.exfs b hb,.inl hb,fun x c e=>(I'.ok.exf b hb).2 x c e,fun p hp=>absurd (show p∈([]:List (Addr×Obj))++[] from hp) (by simp)⟩
 have loop:codeAny (model X.prog X.w) X.A (.compLoop (.ListComp elt [⟨tg,iter,ifs,0⟩] scope pos) 0 (.ref it) (.ref D) ce) (compPost (model X.prog X.w) X.A X.xe use Qf (.ref D) s3.heap.objs.size) s4:=by
  refine zZ (fun n s'=>∃ i H',Inv (X.blk s3 H3 scope ce fp) [] (ZJ σ (own.map (·.2))) H' s'∧tn i s'.heap∧(∀ b∈fp,H' b=none)∧W i n H') ?_ m0 ⟨0,H3,I4,st4,nfp,w0⟩
  rintro n s5 ⟨i,H5,I5,st5,n5,w5⟩
  rcases turn i n H5 w5 with ⟨stop,qq⟩ | ⟨go,Nx,hNx,step⟩
  ·have td:=T.done (X.blk s3 H3 scope ce fp) rfl rfl rfl hc i [] s5 _ H5 (fun _ _=>False) I5 (stat I5 n5) st5 stop
   refine thnF td fun r s6 ⟨hr,I6⟩=>?_
   subst hr
   have I7:Inv X pins σ H5 s6:=I3.call' (ch:=fp) I6.os I6.base I6.hok I6.bare fun b hb=>⟨(f3 b hb).1.2.2.2.1,(f3 b hb).1.2.1,(f3 b hb).1.2.2.2.2.1,(f3 b hb).1.2.2.2.2.2⟩
   have nC:H5 s3.heap.objs.size=none:=by
    have z:H5 ce.locals=none:=I6.free
    rw[cL] at z
    exact z
   obtain⟨m,hn,_⟩:=I6.loc
   have hn:s6.heap.Ns ce.locals m:=hn
   rw[cL] at hn
   exact hRR D s3.heap.objs.size s6 m H5 I7 qq hn (I3.fpOk (yl _) nC)
  ·have ti:=T.item (X.blk s3 H3 scope ce fp) rfl rfl rfl hc i [] s5 _ H5 (fun _ _=>False) I5 (stat I5 n5) st5 go
   refine thnF ti fun r s6 ⟨u,hr,h6⟩=>?_
   subst hr
   refine thnF h6 fun _ s7 ⟨x,H7,I7,r7,y7,st7,n7⟩=>?_
   have I7':=I7.pinned (stat I7 n7) (T.obj _ _ st7)
   refine thnF (pg _ s7 _ H7 x u _ I7' r7 (step x H7 y7)) fun _ s8 ⟨σ8,H8,I8,hw8,q8⟩=>?_
   refine thnF (pt _ s8 σ8 H8 _ I8 q8) fun b s9 ⟨H9,I9,q9⟩=>?_
   have fin:∀ {s':Shared} {H':Hp},Inv (X.blk s3 H3 scope ce fp) ([]++qc fp s7.heap) σ8 H' s'→Nx H'→∃ m,m<n∧∃ i H',Inv (X.blk s3 H3 scope ce fp) [] (ZJ σ (own.map (·.2))) H' s'∧tn i s'.heap∧(∀ b∈fp,H' b=none)∧W i m H':=fun {s' H'} I' nx=>by
    obtain⟨m',hm,w'⟩:=hNx H' nx
    have pin':∀ b∈fp,∀ o,s7.heap.get? b=some o→s'.heap.get? b=some o∧H' b=none:=fun b hb o e=>
     let z:=I'.pin (b,o) (yW _ (yW _ (YQ hb e)))
     ⟨z.1,z.2.1⟩
    have hl:(ZJ σ (own.map (·.2))).length=σ8.length:=by rw[←hw8,X6]
    refine⟨m',hm,i+1,H',(I'.unpinned (pins:=[])).weak hl (fun j v e=>?_),T.keep _ _ _ st7 fun b hb o e=>(pin' b hb o e).1,fun b hb=>?_,w'⟩
    ·rw[←hw8] at e
     exact (Jj e).1
    ·obtain⟨o,e,_⟩:=T.obj _ _ st7 b hb
     exact (pin' b hb o e).2
   cases b with
   | false=>
    simp only[jI,if_false] at q9 ⊢
    exact fin I9 q9
   | true=>
    simp only[if_true] at q9 ⊢
    refine thnF (pe _ s9 σ8 H9 _ I9 q9) fun z s10 ⟨yv,H10,I10,r10,acc,hD10,hz10,nx⟩=>?_
    exact app_ok (X:=X.blk s3 H3 scope ce fp) I10 hD10 hz10 r10 fun s11 I11=>fin I11 nx
 exact codeAny_compStart_list loop (T.self X.A 0 _ _ _ st4 loop)
theorem pe_lc{elt tg iter:Expr}{ifs:List Expr}{scope:Scope} {own:List (Str×Nat)} {pos:Pos} {wi:TI} {g:TG} {tt:TT} {te:TE} (hc:X.calm=true) (hN:X.N.Nodup) (hi:PI X tg iter wi) (ok:BlkOk X.N X.env.scope scope own)
  (hg:∀ (s:Shared) (H:Hp) (C:Addr) (cl:List (Str×Addr)) (fp:List Addr),PG (X.blk s H scope (compEnvC scope cl C X.env) fp) tg g) (ht:∀ (s:Shared) (H:Hp) (C:Addr) (cl:List (Str×Addr)) (fp:List Addr),PTs (X.blk s H scope (compEnvC scope cl C X.env) fp) ifs tt)
  (he:∀ (s:Shared) (H:Hp) (C:Addr) (cl:List (Str×Addr)) (fp:List Addr),PE (X.blk s H scope (compEnvC scope cl C X.env) fp) elt te) (hs:∀ x,foldedSetIterable iter X.env x=pure x:=by intro _;rfl) :
  PE X (.ListComp elt [⟨tg,iter,ifs,0⟩] scope pos) (tLc wi g tt te (own.map (·.2))):=by
 intro pins s σ H Q I h
 rw[eval_ListComp]
 refine lc_core hc hN I hi ok hg ht he hs h fun D C s' m H' I' q hn f=>⟨m,hn,fun h'' sb=>?_⟩
 obtain⟨f0,f1,f2,f3,f4,f5⟩:=f
 exact⟨.ref D,H',I'.turned (t':=s'.toks) (fun b o hb e=>(sb.2 b hb).trans e) f0 f1 f3 f4 f5,rfl,q⟩
theorem ps_setLc{i:Nat}{y:Str}{py:Pos}{elt tg iter:Expr}{ifs:List Expr}{scope:Scope} {own:List (Str×Nat)} {pos spos:Pos} {wi:TI} {g:TG} {tt:TT} {te:TE} (hc:X.calm=true) (hN:X.N.Nodup) (hy:X.N[i]?=some y) (hyl:X.env.scope.names.lookup y=some .local)
  (hsw:swapsWith (.ListComp elt [⟨tg,iter,ifs,0⟩] scope pos) (some (.Name y py)) spos.line X.env=pure true) (hi:PI X tg iter wi) (ok:BlkOk X.N X.env.scope scope own)
  (hg:∀ (s:Shared) (H:Hp) (C:Addr) (cl:List (Str×Addr)) (fp:List Addr),PG (X.blk s H scope (compEnvC scope cl C X.env) fp) tg g) (ht:∀ (s:Shared) (H:Hp) (C:Addr) (cl:List (Str×Addr)) (fp:List Addr),PTs (X.blk s H scope (compEnvC scope cl C X.env) fp) ifs tt)
  (he:∀ (s:Shared) (H:Hp) (C:Addr) (cl:List (Str×Addr)) (fp:List Addr),PE (X.blk s H scope (compEnvC scope cl C X.env) fp) elt te) (hs:∀ x,foldedSetIterable iter X.env x=pure x:=by intro _;rfl) :
  PS X (.Assign [.Name y py] (.ListComp elt [⟨tg,iter,ifs,0⟩] scope pos) spos) (tAsg (tLc wi g tt te (own.map (·.2))) (Zp i)):=by
 intro pins s σ H D I h
 rw[exec_Assign_Name_used _ _ _ _ hsw]
 refine wpAny_bind (wpAny_standAt (wpAny_bind ?_))
 show wpAny _ X.A (do let _ ← comprehension (.ListComp elt [⟨tg,iter,ifs,0⟩] scope pos) scope X.env (firstIterPos [⟨tg,iter,ifs,0⟩] pos) (newList []) false (eval iter X.env) (some (assign (.Name y py) X.env))) _ _ s
 have h:tLc wi g tt te (own.map (·.2)) σ H (fun x H1=>Zp i x σ H1 D.nx):=h
 refine wpAny_bind (thn (lc_core (Qf:=fun _ s'=>SP X pins D .next s') hc hN I hi ok hg ht he hs h fun L C s' m H' I' q hn f=>?_) fun _ s' hq=>wpAny_pure (wpAny_pure hq))
 show wpAny _ _ (assign (.Name y py) X.env (.ref L)) _ _ _
 refine wpAny_assign_Name (qO (v:=V.ref L) I' hN hy (.inl hyl) rfl (fun s2 I2 ⟨a,sb,ha⟩=>?_) (.inr hyl))
 obtain⟨f0,f1,f2,f3,f4,f5⟩:=f
 have haC:C≠a:=by
  rcases ha with z | z
  ·rw[z];exact f1
  ·exact fun e=>f4 y a z e.symm
 refine⟨m,hn.sameBut sb haC,fun h3 sb3=>?_⟩
 exact⟨_,H',I2.turned (t':=s2.toks) (fun b o hb e=>(sb3.2 b hb).trans e) f0 f1 f3 f4 f5,q⟩
theorem sw_true{elt:Expr}{gs:List Comprehension}{scope:Scope}{pos py:Pos}{y:Str}{l:Nat}{env:Env}(hk:env.scope.kind=.function)(hy:env.scope.names.lookup y=some .local) (hl:(py.line==pos.line)=true)
  (ha:(scope.names.any fun (n,k)=>n==y&&(k==.local || k==.cell))=false):swapsWith (.ListComp elt gs scope pos) (some (.Name y py)) l env=pure true:=by
 have ky:env.kindOf y=some .local:=hy
 have hb:env.blockKind=.function:=by unfold Env.blockKind;rw[hk];rfl
 unfold swapsWith
 simp only[hb,ky,ha,Expr.pos,hl]
 rfl
end
theorem zK{K:z8}{a:Addr}{xs:List V}{g:TG}{tt:TT}{te:TE}{vs:List Nat}{σ:St}{H1:Hp}{D:Addr}{Qd:Hp→Prop}(Pv:Nat→Hp→Prop) (h0:Pv 0 (upd H1 D (.lst []))) (hl:∀ i H,i≤xs.length→Pv i H→SqL K H a xs)
  (hs:∀ i x H,xs[i]?=some x→Pv i H→g x (ZJ σ vs) H fun σ2 H2=>ZJ σ2 vs=ZJ σ vs∧tt σ2 H2 fun b H3=>
   if b=true then te σ2 H3 fun y H4=>∃ acc,H4 D=some (.lst acc)∧acc.length<sizeLine∧Pv (i+1) (upd H4 D (.lst (acc++[y]))) else Pv (i+1) H3) (hd:∀ H,Pv xs.length H→Qd H) :
  ∃ W:Nat→Nat→Hp→Prop,(∃ m,W 0 m (upd H1 D (.lst [])))∧∀ i m H,W i m H→
   ((Itl K a).stop i H∧Qd H)∨((Itl K a).go i H∧∃ Nx:Hp→Prop,(∀ H',Nx H'→∃ m',m'<m∧W (i+1) m' H')∧∀ x H',(Itl K a).yld i H x H'→g x (ZJ σ vs) H' fun σ2 H2=>ZJ σ2 vs=ZJ σ vs∧tt σ2 H2 fun b H3=>
    if b=true then te σ2 H3 fun y H4=>∃ acc,H4 D=some (.lst acc)∧acc.length<sizeLine∧Nx (upd H4 D (.lst (acc++[y]))) else Nx H3):=by
 refine⟨fun i m H=>m=xs.length-i∧i≤xs.length∧Pv i H,⟨xs.length,by simp,yM _,h0⟩,?_⟩
 rintro i m H ⟨rfl,hi,p⟩
 have q:=hl i H hi p
 by_cases hlt:i<xs.length
 ·refine .inr ⟨⟨xs,xs[i],q,by simp[hlt]⟩,Pv (i+1),fun H' p'=>⟨xs.length-(i+1),by omega,rfl,hlt,p'⟩,fun x H' y=>?_⟩
  obtain⟨e,y⟩:=y
  subst e
  exact hs i x _ (y xs q) p
 ·have e:i=xs.length:=by omega
  subst e
  exact .inl ⟨⟨xs,q,yl _⟩,hd H p⟩
def blkC(N:List Str)(sc scope:Scope) (own:List (Str×Nat)):Bool:=
 (match scope.kind with | .function=>true | _=>false)&&(scope.names.all fun y=>decide (scope.names.lookup y.1=some y.2))&&(own.all fun p=>decide (N[p.2]?=some p.1))&&
  (scope.names.all fun y=>match y.2 with
   | .free=>(match sc.names.lookup y.1 with | some .cell=>true | some .free=>true | _=>false)
   | .local=>decide (y.1∈own.map (·.1)) || decide (y.1∉N)
   | .cell=>decide (y.1∈own.map (·.1)) || decide (y.1∉N)
   | _=>true)
theorem Xf{N:List Str}{sc scope:Scope} {own:List (Str×Nat)} (h:blkC N sc scope own=true):BlkOk N sc scope own:=by
 unfold blkC at h
 simp only[yk,xu,decide_eq_true_eq] at h
 obtain⟨⟨⟨h1,h2⟩,h3⟩,h4⟩:=h
 refine⟨?_,h2,h3,fun y hy e=>?_,fun y hy e=>?_⟩
 ·split at h1
  ·assumption
  ·cases h1
 ·have q:=h4 y hy
  simp only[e] at q
  split at q <;> first | exact .inl (by assumption) | exact .inr (by assumption) | cases q
 ·have q:=h4 y hy
  rcases e with e | e <;> (simp only[e,y8,decide_eq_true_eq] at q;exact q)
end L2
namespace L2
open PySem PySem.Spec PyProof.Rows
section
variable {prog:Program} {w:World} {A:Around} {R:Result→Shared→Prop} {s:Shared} {elt t0 i0 t1 i1:Expr} {ifs0 ifs1:List Expr} {scope:Scope} {pos:Pos} {it acc:Value} {env:Env}
end
section
variable {X:Cx}
end
end L2
namespace L2
open PySem PySem.Spec PyProof.Rows
section
variable {κ:Type} [DecidableEq κ]
def Xr (kvs:List (κ×V)) (k:κ):Option V:=(kvs.find? fun kv=>decide (kv.1=k)).map (·.2)
def XF (kvs:List (κ×V)) (k:κ) (v:V):List (κ×V):=
 if (kvs.any fun kv=>decide (kv.1=k))=true then kvs.map (fun kv=>if kv.1=k then (kv.1,v) else kv) else kvs++[(k,v)]
def dropK (kvs:List (κ×V)) (k:κ):List (κ×V):=kvs.filter fun kv=>decide (kv.1≠k)
theorem J0{p:κ×V} {r:List (κ×V)} {k:κ} (e:p.1=k):Xr (p::r) k=some p.2:=by simp[Xr,jQ,e]
theorem J1{p:κ×V} {r:List (κ×V)} {k:κ} (e:¬ p.1=k):Xr (p::r) k=Xr r k:=by simp[Xr,jQ,e]
theorem X7(k:κ):∀ kvs:List (κ×V),(kvs.any fun kv=>decide (kv.1=k))=(Xr kvs k).isSome
 | []=>rfl
 | p::r=>by
  rw[xr]
  by_cases e:p.1=k
  ·simp only[J0 e,decide_eq_true e,Bool.true_or,Option.isSome_some]
  ·rw[J1 e,decide_eq_false e,Ux];exact X7 k r
theorem Yh (kvs:List (κ×V)) (k:κ) (v:V):(XF kvs k v).length≤kvs.length+1:=by
 unfold XF
 split
 ·rw[yc];omega
 ·rw[yt,yx,Uo];omega
theorem putK_new {kvs:List (κ×V)} {k:κ} (v:V) (h:Xr kvs k=none):XF kvs k v=kvs++[(k,v)]:=by
 unfold XF
 rw[X7,h]
 exact if_neg (by decide)
theorem Yx.isSome_eq{o:Option V}{u:Option Value}(r:Yx o u):o.isSome=u.isSome:=by
 cases o with
 | none=>cases u with
  | none=>rfl
  | some _=>exact (show False from r).elim
 | some _=>cases u with
  | none=>exact (show False from r).elim
  | some _=>rfl
theorem Yx.getD{o:Option V}{u:Option Value}{d:V}{d':Value}(r:Yx o u)(rd:QT d d'):QT (o.getD d) (u.getD d'):=by
 cases o with
 | none=>cases u with
  | none=>exact rd
  | some _=>exact (show False from r).elim
 | some _=>cases u with
  | none=>exact (show False from r).elim
  | some _=>exact r
theorem KV.val {kvs:List (κ×V)} {vs:List (κ×Value)} (r:KV kvs vs) (k:κ):Yx (Xr kvs k) (valueAt vs k):=by
 unfold KV at r
 induction r with
 | nil=>exact True.intro
 | @cons p q ps qs h t ih=>
  obtain⟨h1,h2⟩:=h
  by_cases e:p.1=k
  ·have e':q.1=k:=h1.symm.trans e
   have b:valueAt (q::qs) k=some q.2:=by simp[valueAt,jQ,e']
   rw[J0 e,b];exact h2
  ·have e':¬ q.1=k:=fun z=>e (h1.trans z)
   have b:valueAt (q::qs) k=valueAt qs k:=by simp[valueAt,jQ,e']
   rw[J1 e,b];exact ih
theorem KV.any {kvs:List (κ×V)} {vs:List (κ×Value)} (r:KV kvs vs) (k:κ):(kvs.any fun kv=>decide (kv.1=k))=vs.any fun kv=>decide (kv.1=k):=by
 unfold KV at r
 induction r with
 | nil=>rfl
 | cons h t ih=>rw[xr,xr,ih,h.1]
theorem KV.repl {kvs:List (κ×V)} {vs:List (κ×Value)} (r:KV kvs vs) (k:κ) {y:V} {u:Value} (ry:QT y u) :
  KV (kvs.map fun kv=>if kv.1=k then (kv.1,y) else kv) (vs.map fun kv=>if kv.1=k then (kv.1,u) else kv):=by
 unfold KV at r ⊢
 induction r with
 | nil=>exact .nil
 | @cons p q ps qs h t ih=>
  rw[yD,yD]
  refine .cons ?_ ih
  obtain⟨h1,h2⟩:=h
  by_cases e:p.1=k
  ·rw[if_pos e,if_pos (h1.symm.trans e)];exact⟨h1,ry⟩
  ·rw[if_neg e,if_neg (fun z=>e (h1.trans z))];exact⟨h1,h2⟩
theorem KV.put {kvs:List (κ×V)} {vs:List (κ×Value)} (r:KV kvs vs) (k:κ) {y:V} {u:Value} (ry:QT y u):KV (XF kvs k y) (stored vs k u):=by
 unfold XF stored
 rw[r.any k]
 by_cases e:(vs.any fun kv=>decide (kv.1=k))=true
 ·rw[if_pos e,if_pos e];exact r.repl k ry
 ·rw[if_neg e,if_neg e];exact Paired.snoc r ⟨rfl,ry⟩
theorem KV.drop {kvs:List (κ×V)} {vs:List (κ×Value)} (r:KV kvs vs) (k:κ):KV (dropK kvs k) (without vs k):=by
 unfold KV at r ⊢
 unfold dropK without
 induction r with
 | nil=>exact .nil
 | @cons p q ps qs h t ih=>
  obtain⟨h1,h2⟩:=h
  rw[List.filter_cons,List.filter_cons]
  by_cases e:p.1=k
  ·have a:¬ decide (p.1≠k)=true:=by simp[e]
   have b:¬ decide (q.1≠k)=true:=by simp[h1.symm.trans e]
   rw[if_neg a,if_neg b];exact ih
  ·have e':¬ q.1=k:=fun z=>e (h1.trans z)
   have a:decide (p.1≠k)=true:=by simp[e]
   have b:decide (q.1≠k)=true:=by simp[e']
   rw[if_pos a,if_pos b];exact .cons ⟨h1,h2⟩ ih
theorem KV.keys {kvs:List (κ×V)} {vs:List (κ×Value)} (r:KV kvs vs):kvs.map (·.1)=vs.map (·.1):=by
 unfold KV at r
 induction r with
 | nil=>rfl
 | cons h t ih=>rw[yD,yD,ih,h.1]
theorem KV.length {kvs:List (κ×V)} {vs:List (κ×Value)} (r:KV kvs vs):kvs.length=vs.length:=Paired.length r
end
theorem kV_is{P:Program}{w:World}{k:Key}{u:Value} (r:QT (kV k) u):(Q8 P w).is k u=true:=by
 cases k with
 | inl i=>obtain⟨t,e⟩:=(show ∃ t,u=Value.int i t from r);subst e;exact mixKind_int P w i t
 | inr x=>obtain⟨t,e⟩:=(show ∃ t,u=Value.str x t from r);subst e;exact mixKind_str P w x t
theorem ze{P:Program}{w:World}:∀ {ks:List Key} {us:List Value},QF (ks.map kV) us→ItemsAre (Q8 P w) ks us
 | [],_,r=>by rw[Ub] at r;cases r;exact .nil
 | k::ks,_,r=>by
  rw[yD] at r
  cases r with
  | cons h t=>exact .cons (kV_is h) (ze t)
abbrev KT(H:Hp):List (List Key×V)→List (List Key×Addr×Value)→Prop:=Paired fun p q=>p.1=q.1∧H q.2.1=some (.tup (p.1.map kV))∧QT p.2 q.2.2
theorem KT.val{H:Hp} {kvs:List (List Key×V)} {xs:List (List Key×Addr×Value)} (r:KT H kvs xs) (k:List Key):Yx (Xr kvs k) ((atKey xs k).map (·.2)):=by
 induction r with
 | nil=>exact True.intro
 | @cons p q ps qs h t ih=>
  obtain⟨h1,_,h2⟩:=h
  by_cases e:p.1=k
  ·have e':q.1=k:=h1.symm.trans e
   have b:atKey (q::qs) k=some q.2:=by simp[atKey,jQ,e']
   rw[J0 e,b];exact h2
  ·have e':¬ q.1=k:=fun z=>e (h1.trans z)
   have b:atKey (q::qs) k=atKey qs k:=by simp[atKey,jQ,e']
   rw[J1 e,b];exact ih
theorem KT.repl{H:Hp} {kvs:List (List Key×V)} {xs:List (List Key×Addr×Value)} (r:KT H kvs xs) (k:List Key) {y:V} {u:Value} (ry:QT y u) :
  KT H (kvs.map fun kv=>if kv.1=k then (kv.1,y) else kv) (xs.map (putAt k u)):=by
 induction r with
 | nil=>exact .nil
 | @cons p q ps qs h t ih=>
  rw[yD,yD]
  refine .cons ?_ ih
  obtain⟨h1,h2,h3⟩:=h
  unfold putAt
  by_cases e:p.1=k
  ·rw[if_pos e,if_pos (h1.symm.trans e)];exact⟨h1,h2,ry⟩
  ·rw[if_neg e,if_neg (fun z=>e (h1.trans z))];exact⟨h1,h2,h3⟩
theorem KT.put{H:Hp} {kvs:List (List Key×V)} {xs:List (List Key×Addr×Value)} (r:KT H kvs xs) (k:List Key) {b:Addr} {y:V} {u:Value} (hb:H b=some (.tup (k.map kV))) (ry:QT y u) :
  KT H (XF kvs k y) (storedH xs k b u):=by
 have e:(kvs.any fun kv=>decide (kv.1=k))=(atKey xs k).isSome:=by
  rw[X7,(r.val k).isSome_eq,GX]
 unfold XF storedH
 rw[e]
 by_cases q:(atKey xs k).isSome=true
 ·rw[if_pos q,if_pos q];exact r.repl k ry
 ·rw[if_neg q,if_neg q];exact Paired.snoc r ⟨rfl,hb,ry⟩
theorem KT.keeps{H H':Hp} {kvs:List (List Key×V)} {xs:List (List Key×Addr×Value)} (r:KT H kvs xs) (ht:∀ b ys,H b=some (.tup ys)→H' b=some (.tup ys)):KT H' kvs xs:=
 Paired.mapP r fun _ _ z=>⟨z.1,ht _ _ z.2.1,z.2.2⟩
section
variable {P:Program} {w:World} {H:Hp} {h:Heap} {a:Addr}
theorem rd_of{u:HO}(ok:HOk P w H h)(e:Rd H a u):Q3 P w H h a u:=e.ok ok
theorem dk_rd {kvs:List (Key×V)} (ok:HOk P w H h) (e:Rd H a (.dK kvs)):kvs.length≤sizeLine∧(a==sysModules)=false∧∃ vs,KV kvs vs∧h.DictOf (Q8 P w) a vs:=
 show Q3 P w H h a (.dK kvs) from rd_of ok e
theorem dk_of {kvs:List (Key×V)} (ok:HOk P w H h) (e:H a=some (.dK kvs)):kvs.length≤sizeLine∧(a==sysModules)=false∧∃ vs,KV kvs vs∧h.DictOf (Q8 P w) a vs:=dk_rd ok (.inl e)
theorem zL{ks:List Key}(ok:HOk P w H h) (e:H a=some (.tup (ks.map kV))):(tupleKind (Q8 P w)).is h ks a:=by
 obtain⟨_,its,r,o,h1,h2,n,h3⟩:=(show Q3 P w H h a (.tup (ks.map kV)) from ok a _ e)
 exact⟨o,its.toArray,n,h1,h2,h3,by simpa using ze r⟩
theorem dt_rd {kvs:List (List Key×V)} (ok:HOk P w H h) (e:Rd H a (.dT kvs)):kvs.length≤sizeLine∧(a==sysModules)=false∧
  ∃ xs,KT H kvs xs∧h.DictOfH (tupleKind (Q8 P w)) a xs:=by
 obtain⟨z,y,xs,r,o,es,ep,h1,h2,h3,h4,h5⟩:=(show Q3 P w H h a (.dT kvs) from rd_of ok e)
 refine⟨z,y,xs,r,o,es,ep,h1,h2,h3,h4,fun x hx=>?_,h5⟩
 have all:∀ {l:List (List Key×V)} {m:List (List Key×Addr×Value)},KT H l m→∀ x∈m,(tupleKind (Q8 P w)).is h x.1 x.2.1:=by
  intro l m q
  induction q with
  | nil=>intro x hx;exact nomatch hx
  | @cons p q ps qs hq t ih=>
   intro x hx
   rcases List.mem_cons.mp hx with e | hx
   ·subst e
    exact zL ok (by rw[←hq.1];exact hq.2.1)
   ·exact ih x hx
 exact all r x hx
theorem dt_of {kvs:List (List Key×V)} (ok:HOk P w H h) (e:H a=some (.dT kvs)):kvs.length≤sizeLine∧(a==sysModules)=false∧
  ∃ xs,KT H kvs xs∧h.DictOfH (tupleKind (Q8 P w)) a xs:=dt_rd ok (.inl e)
end
def JM(H:Hp)(a:Addr)(y:V)(r:Option V):Prop:=
 (∃ kvs k,Rd H a (.dK kvs)∧y=kV k∧r=Xr kvs k)∨∃ kvs k b,Rd H a (.dT kvs)∧y=.ref b∧H b=some (.tup (k.map kV))∧r=Xr kvs k
def z7(H:Hp)(a:Addr)(y v:V)(H':Hp):Prop:=
 (∃ kvs k,H a=some (.dK kvs)∧y=kV k∧kvs.length<sizeLine∧H'=upd H a (.dK (XF kvs k v)))∨
 ∃ kvs k b,H a=some (.dT kvs)∧y=.ref b∧H b=some (.tup (k.map kV))∧kvs.length<sizeLine∧H'=upd H a (.dT (XF kvs k v))
theorem JM.k{H:Hp}{a:Addr} {kvs:List (Key×V)} {k:Key} (e:H a=some (.dK kvs)):JM H a (kV k) (Xr kvs k):=.inl ⟨kvs,k,.inl e,rfl,rfl⟩
theorem JM.t{H:Hp}{a b:Addr} {kvs:List (List Key×V)} {k:List Key} (e:H a=some (.dT kvs)) (eb:H b=some (.tup (k.map kV))):JM H a (.ref b) (Xr kvs k):=.inr ⟨kvs,k,b,.inl e,rfl,eb,rfl⟩
theorem z7.k{H:Hp}{a:Addr} {kvs:List (Key×V)} {k:Key} {v:V} (e:H a=some (.dK kvs)) (hl:kvs.length<sizeLine):z7 H a (kV k) v (upd H a (.dK (XF kvs k v))):=.inl ⟨kvs,k,e,rfl,hl,rfl⟩
theorem z7.t{H:Hp}{a b:Addr} {kvs:List (List Key×V)} {k:List Key} {v:V} (e:H a=some (.dT kvs)) (eb:H b=some (.tup (k.map kV))) (hl:kvs.length<sizeLine) :
  z7 H a (.ref b) v (upd H a (.dT (XF kvs k v))):=.inr ⟨kvs,k,b,e,rfl,eb,hl,rfl⟩
section
variable {X:Cx} {pins:List (Addr×Obj)} {σ:St} {H:Hp} {s:Shared} {a:Addr} {y v:V} {u r:Value} {o:Option V} {A:Around} {E:Value→Shared→Prop}
theorem Inv.big(I:Inv X pins σ H s):sysModules<s.heap.objs.size:=by
 have h:mainGlobals<s.heap.objs.size:=(I.mod.glob.keeps I.bk).lt
 exact GK (by decide) h
theorem d_in{Q:Value→Shared→Prop}(hu:A.units+1<cLine)(I:Inv X pins σ H s)(g:JM H a y o)(ry:QT y u) (h:∀ s',Inv X pins σ H s'→Q (.bool o.isSome) s') :
  wpAny (model X.prog X.w) A (compareOp .In u (.ref a)) Q E s:=by
 rcases g with ⟨kvs,k,e,ey,l⟩ | ⟨kvs,k,b,e,ey,eb,l⟩
 ·subst ey
  obtain⟨z,hd,vs,rel,dd⟩:=dk_rd I.hok e
  refine wpAny_in_of (kV_is ry) hd dd.mapOf ?_
  rw[←(rel.val k).isSome_eq,←l]
  exact h _ (I.tok _)
 ·subst ey
  cases (show u=Value.ref b from ry)
  obtain⟨z,hd,xs,rel,dd⟩:=dt_rd I.hok e
  refine wpAny_in_heap (tupleKind_room_in1 hu) (zL I.hok eb) hd dd ?_
  have q:=(rel.val k).isSome_eq
  rw[GX] at q
  rw[←q,←l]
  exact h _ (I.tok _)
theorem d_notIn{Q:Value→Shared→Prop}(hu:A.units+1<cLine)(I:Inv X pins σ H s)(g:JM H a y o)(ry:QT y u) (h:∀ s',Inv X pins σ H s'→Q (.bool (!o.isSome)) s') :
  wpAny (model X.prog X.w) A (compareOp .NotIn u (.ref a)) Q E s:=by
 rcases g with ⟨kvs,k,e,ey,l⟩ | ⟨kvs,k,b,e,ey,eb,l⟩
 ·subst ey
  obtain⟨z,hd,vs,rel,dd⟩:=dk_rd I.hok e
  refine wpAny_notIn_of (kV_is ry) hd dd.mapOf ?_
  rw[←(rel.val k).isSome_eq,←l]
  exact h _ (I.tok _)
 ·subst ey
  cases (show u=Value.ref b from ry)
  obtain⟨z,hd,xs,rel,dd⟩:=dt_rd I.hok e
  refine wpAny_notIn_heap (tupleKind_room_in1 hu) (zL I.hok eb) hd dd ?_
  have q:=(rel.val k).isSome_eq
  rw[GX] at q
  rw[←q,←l]
  exact h _ (I.tok _)
theorem zX{h':Heap}{t':Nat}{ob:HO}(I:Inv X pins σ H s) (mu:Mut (H a)) (hs:Heap.SameBut a s.heap h') (he:∃ q,h'.get? a=some q) (new:Q3 X.prog X.w (upd H a ob) h' a ob) :
  Inv X pins σ (upd H a ob) { s with heap:=h',toks:=t' }:=
 I.write (x:=a) (e:=a) mu (.inl rfl) (fun b q hb z=>(hs.2 b hb).trans z) he new
theorem dk_new{P:Program}{w:World}{H':Hp}{h':Heap} {kvs:List (Key×V)} {vs:List (Key×Value)} (z:kvs.length≤sizeLine) (hd:(a==sysModules)=false) (rel:KV kvs vs) (dd:h'.DictOf (Q8 P w) a vs) :
  Q3 P w H' h' a (.dK kvs):=⟨z,hd,vs,rel,dd⟩
theorem d_setItem{H':Hp}{Q:Unit→Shared→Prop}(hu:A.units+1<cLine)(I:Inv X pins σ H s)(g:z7 H a y v H')(ry:QT y u)(rv:QT v r) (h:∀ s',Inv X pins σ H' s'→Q () s') :
  wpAny (model X.prog X.w) A (setItem (.ref a) u r) Q E s:=by
 rcases g with ⟨kvs,k,e,ey,l,eH⟩ | ⟨kvs,k,b,e,ey,eb,l,eH⟩
 ·subst ey eH
  obtain⟨z,hd,vs,rel,dd⟩:=dk_of I.hok e
  have hz:vs.length≤sizeLine:=by rw[←rel.length];exact z
  have hl:(XF kvs k v).length≤sizeLine:=by have:=Yh kvs k v;omega
  refine wpAny_setItem_pairs (hsz:=hz) (kV_is ry) dd fun h' dd' hs=>h _ ?_
  have he:∃ q,h'.get? a=some q:=let ⟨q,_,_,hq,_⟩:=dd';⟨q,hq⟩
  exact zX I (by rw[e];exact True.intro) hs he (dk_new hl hd (rel.put k rv) dd')
 ·subst ey eH
  cases (show u=Value.ref b from ry)
  obtain⟨z,hd,xs,rel,dd⟩:=dt_of I.hok e
  have hz:xs.length≤sizeLine:=by rw[←Paired.length rel];exact z
  have hl:(XF kvs k v).length≤sizeLine:=by have:=Yh kvs k v;omega
  refine wpAny_setItem_heap (hsz:=hz) (tupleKind_room_in1 hu) (zL I.hok eb) dd fun h' dd' hs=>h _ ?_
  obtain⟨q,es,ep,hq,h2,h3,h4,_,h5⟩:=dd'
  refine zX I (by rw[e];exact True.intro) hs ⟨q,hq⟩ ⟨hl,hd,_,(rel.put k eb rv).keeps fun c ys ec=>?_,q,es,ep,hq,h2,h3,h4,h5⟩
  rw[Qq (q5 ec e (fun z=>nomatch z))]
  exact ec
end
section
variable {X:Cx} {pins:List (Addr×Obj)} {σ:St} {H:Hp} {s:Shared} {a:Addr} {kvs:List (Key×V)} {k:Key} {u:Value} {A:Around} {E:Value→Shared→Prop}
theorem d_len{Q:Value→Shared→Prop}(I:Inv X pins σ H s) (e:Rd H a (.dK kvs)) (h:∀ t s',Inv X pins σ H s'→Q (.int kvs.length t) s'):wpAny (model X.prog X.w) A (call (.builtin "len") [.ref a]) Q E s:=by
 obtain⟨z,hd,vs,rel,dd⟩:=dk_rd I.hok e
 refine call_len_dict hd dd (by rw[←rel.length];rw[sizeLine_eq] at z;omega) ?_
 rw[←rel.length]
 exact h _ _ (I.tok _)
end
def tDIn(ty td:TE):TE:=fun σ H Q=>ty σ H fun y H1=>td σ H1 fun x H2=>∃ a o,x=.ref a∧JM H2 a y o∧Q (.bl o.isSome) H2
def tDNotIn(ty td:TE):TE:=fun σ H Q=>ty σ H fun y H1=>td σ H1 fun x H2=>∃ a o,x=.ref a∧JM H2 a y o∧Q (.bl (!o.isSome)) H2
def sDPut(td ty tv:TE):TS:=fun D σ H=>tv σ H fun v H1=>td σ H1 fun x H2=>ty σ H2 fun y H3=>∃ a H4,x=.ref a∧z7 H3 a y v H4∧D.nx σ H4
section
variable {X:Cx} {o i e value:Expr} {pos pos' tpos:Pos} {td ty tv:TE}
theorem pc_din(hu:X.A.units+1<cLine)(hi:PE X i ty)(ho:PE X o td):PC X .In i o (tDIn ty td):=by
 intro pins s σ H Q I h
 refine thn (hi pins s σ H _ I h) fun iv s1 ⟨y,H1,I1,ry,q1⟩=>thn (ho pins s1 σ H1 _ I1 q1) fun u s2 ⟨x,H2,I2,rx,a,ov,ex,g,q2⟩=>?_
 subst ex
 obtain rfl:u=Value.ref a:=rx
 exact d_in hu I2 g ry fun s3 I3=>⟨.bl ov.isSome,H2,I3,rfl,q2⟩
theorem Jn(hu:X.A.units+1<cLine)(hi:PE X i ty)(ho:PE X o td):PC X .NotIn i o (tDNotIn ty td):=by
 intro pins s σ H Q I h
 refine thn (hi pins s σ H _ I h) fun iv s1 ⟨y,H1,I1,ry,q1⟩=>thn (ho pins s1 σ H1 _ I1 q1) fun u s2 ⟨x,H2,I2,rx,a,ov,ex,g,q2⟩=>?_
 subst ex
 obtain rfl:u=Value.ref a:=rx
 exact d_notIn hu I2 g ry fun s3 I3=>⟨.bl (!ov.isSome),H2,I3,rfl,q2⟩
theorem zG(hu:X.A.units+1<cLine)(ho:PE X o td)(hi:PE X i ty)(hv:PE X value tv) (hs:swapsWith value (some (.Subscript o i pos')) pos.line X.env=pure false) :
  PS X (.Assign [.Subscript o i pos'] value pos) (sDPut td ty tv):=by
 intro pins s σ H D I h
 refine wpAny_Assign_Subscript (thn (hv pins s σ H _ I h) fun r s1 ⟨v,H1,I1,rv,q1⟩=>thn (ho pins s1 σ H1 _ I1 q1) fun u s2 ⟨x,H2,I2,rx,q2⟩=>thn (hi pins s2 σ H2 _ I2 q2) fun iv s3 ⟨y,H3,I3,ry,a,H4,ex,g,q3⟩=>?_) hs
 subst ex
 obtain rfl:u=Value.ref a:=rx
 exact d_setItem hu I3 g ry rv fun s4 I4=>⟨σ,H4,I4,q3⟩
end
theorem dk_empty{P:Program}{w:World}{H:Hp}(h:Heap)(hb:sysModules<h.objs.size):Q3 P w H (h.push { cls:=.type "dict",data:=.dict #[] }) h.objs.size (.dK []):=
 ⟨yM _,beq_eq_false_iff_ne.mpr (Ne.symm (yr hb)),[],.nil,Heap.DictOf.new h⟩
theorem dt_empty{P:Program}{w:World}{H:Hp}(h:Heap)(hb:sysModules<h.objs.size):Q3 P w H (h.push { cls:=.type "dict",data:=.dict #[] }) h.objs.size (.dT []):=
 ⟨yM _,beq_eq_false_iff_ne.mpr (Ne.symm (yr hb)),[],.nil,_,#[],0,Heap.get?_push_size _ rfl,⟨rfl,rfl,rfl⟩,rfl,rfl,List.nodup_nil⟩
def tDNewT:TE:=fun _ H Q=>∀ p,H p=none→Q (.ref p) (upd H p (.dT []))
section
variable {X:Cx} {pos:Pos}
theorem pe_dnewT:PE X (.Dict [] [] pos) tDNewT:=fun pins s σ H Q I h=>
 wpAny_Dict_empty ⟨.ref s.heap.objs.size,_,I.laid (a:=s.heap.objs.size) (o:=.dT []) (t':=s.toks) (fun _ _ q=>Heap.get?_push_of_some _ q) (yl _) (dt_empty s.heap I.big),rfl,h _ (I.hok.fresh (yl _))⟩
end
def tPairs:List (TE×TE)→St→Hp→(List (V×V)→Hp→Prop)→Prop
 | [],_,H,Q=>Q [] H
 | (tk,tv)::r,σ,H,Q=>tk σ H fun x H1=>tv σ H1 fun y H2=>tPairs r σ H2 fun ps H3=>Q ((x,y)::ps) H3
abbrev VV:List (V×V)→List (Value×Value)→Prop:=Paired fun p q=>QT p.1 q.1∧QT p.2 q.2
def PPs(X:Cx)(pos:Pos) (keys:List (Option Expr)) (values:List Expr) (trs:List (TE×TE)):Prop:=
 ∀ (pins:List (Addr×Obj)) (s:Shared) (σ:St) (H:Hp) (Q:List (V×V)→Hp→Prop),Inv X pins σ H s→tPairs trs σ H Q→
  wpAny (model X.prog X.w) X.A (evalPairs (pairTrees keys values X.env pos)) (fun vs s'=>∃ ps H',Inv X pins σ H' s'∧VV ps vs∧Q ps H') X.xe s
theorem pps_nil{X:Cx}{pos:Pos}:PPs X pos [] [] []:=fun pins s σ H Q I h=>pairTrees_nil_walk ⟨[],H,I,.nil,h⟩
theorem pps_cons{X:Cx}{pos:Pos}{k v:Expr} {ks:List (Option Expr)} {vs:List Expr} {tk tv:TE} {trs:List (TE×TE)} (hk:PE X k tk) (hv:PE X v tv) (hr:PPs X pos ks vs trs) :
  PPs X pos (some k::ks) (v::vs) ((tk,tv)::trs):=fun pins s σ H Q I h=>
 pairTrees_cons_walk (thn (hk pins s σ H _ I h) fun u s1 ⟨x,H1,I1,rx,q1⟩=>thn (hv pins s1 σ H1 _ I1 q1) fun w2 s2 ⟨y,H2,I2,ry,q2⟩=>
  thn (hr pins s2 σ H2 _ I2 q2) fun ws s3 ⟨ps,H3,I3,rel,q3⟩=>⟨(x,y)::ps,H3,I3,.cons ⟨rx,ry⟩ rel,q3⟩)
def Jo (kvs more:List (Key×V)):List (Key×V):=more.foldl (fun acc kv=>XF acc kv.1 kv.2) kvs
theorem KV.merge:∀ {more:List (Key×V)} {rs:List (Key×Value)} {kvs:List (Key×V)} {vs:List (Key×Value)},KV more rs→KV kvs vs→KV (Jo kvs more) (merged vs rs):=by
 intro more rs kvs vs r
 unfold KV at r
 induction r generalizing kvs vs with
 | nil=>intro q;exact q
 | @cons p q ps qs h t ih=>
  intro r0
  have e:KV (XF kvs p.1 p.2) (stored vs q.1 q.2):=by
   have:=r0.put p.1 h.2
   rw[←h.1];exact this
  exact ih e
theorem YD:∀ (more kvs:List (Key×V)),(Jo kvs more).length≤kvs.length+more.length
 | [],kvs=>by show kvs.length≤kvs.length+0;omega
 | p::r,kvs=>by
  have h1:=YD r (XF kvs p.1 p.2)
  have h2:=Yh kvs p.1 p.2
  show (Jo (XF kvs p.1 p.2) r).length≤_
  rw[yx];omega
theorem qu{P:Program}{w:World}:∀ {kvs:List (Key×V)} {ws:List (Value×Value)},VV (kvs.map fun kv=>(kV kv.1,kv.2)) ws→∃ rs,Carries (Q8 P w) ws rs∧KV kvs rs
 | [],_,r=>by rw[Ub] at r;cases r;exact⟨[],True.intro,.nil⟩
 | p::kvs,_,r=>by
  rw[yD] at r
  cases r with
  | @cons a b as bs h t=>
   obtain⟨rs,c,q⟩:=qu (P:=P) (w:=w) t
   obtain⟨b1,b2⟩:=b
   exact⟨(p.1,b2)::rs,⟨kV_is h.1,rfl,c⟩,.cons ⟨rfl,h.2⟩ q⟩
def tDisp (trs:List (TE×TE)):TE:=fun σ H Q=>∀ p,H p=none→tPairs trs σ (upd H p (.dK [])) fun ps H2=>H2 p=some (.dK [])∧∃ kvs:List (Key×V),ps=kvs.map (fun kv=>(kV kv.1,kv.2))∧kvs.length≤15∧Q (.ref p) (upd H2 p (.dK (Jo [] kvs)))
theorem pe_disp{X:Cx}{pos:Pos} {keys:List (Option Expr)} {values:List Expr} {trs:List (TE×TE)} (h:PPs X pos keys values trs) (hall:keys.all (·.isSome)=true) (hl:keys.length=values.length) (h0:keys≠[])
  (h15:keys.length≤15):PE X (.Dict keys values pos) (tDisp trs):=by
 intro pins s σ H Q I q
 have hn:=I.hok.fresh (yl s.heap.objs.size)
 have I1:=I.laid (a:=s.heap.objs.size) (o:=.dK []) (h':=s.heap.push { cls:=.type "dict",data:=.dict #[] }) (t':=s.toks) (fun _ _ q=>Heap.get?_push_of_some _ q) (yl _) (dk_empty s.heap I.big)
 refine wpAny_Dict_walk (knd:=Q8 X.prog X.w) hall hl h0 h15 (thn (h pins _ σ _ _ I1 (q _ hn)) fun ws s2 ⟨ps,H2,I2,rel,e,kvs,ep,lk,q2⟩=>?_)
 subst ep
 obtain⟨rs,c,rk⟩:=qu (P:=X.prog) (w:=X.w) rel
 obtain⟨z,hd,vs0,r0,dd⟩:=dk_of I2.hok e
 cases r0
 refine⟨rs,c,dd,fun h' dd' hs=>⟨.ref s.heap.objs.size,_,?_,rfl,q2⟩⟩
 have hz:(Jo [] kvs).length≤sizeLine:=by
  have h1:=YD kvs []
  rw[Uo] at h1
  rw[sizeLine_eq];omega
 have he:∃ q,h'.get? s.heap.objs.size=some q:=let ⟨q,_,_,hq,_⟩:=dd';⟨q,hq⟩
 exact zX I2 (by rw[e];exact True.intro) hs he (dk_new hz hd (rk.merge .nil) dd')
section
variable {X:Cx} {pins:List (Addr×Obj)} {σ:St} {H:Hp} {s:Shared} {a:Addr} {y d:V} {u r:Value} {o:Option V} {A:Around} {E:Value→Shared→Prop}
end
section
variable {X:Cx} {o e f:Expr} {apos cpos:Pos} {td ty tx:TE}
end
section
variable {X:Cx} {pins:List (Addr×Obj)} {σ:St} {H:Hp} {s:Shared} {a:Addr} {kvs:List (Key×V)} {A:Around} {E:Value→Shared→Prop}
end
section
variable {X:Cx} {pins:List (Addr×Obj)} {σ:St} {H:Hp} {s:Shared} {a:Addr} {y:V} {u:Value} {A:Around} {E:Value→Shared→Prop}
end
end L2
namespace L2
open PySem PySem.Spec PyProof.Rows
section
variable {prog:Program} {w:World} {A:Around} {E:Value→Shared→Prop}
end
section
variable {X:Cx}
end
end L2
namespace L2
open PySem PySem.Spec PyProof.Rows
theorem qw:bootBuiltins "reversed" = some (.type "reversed"):=by decide +kernel
section
variable {X:Cx} {pins:List (Addr×Obj)} {σ:St} {H:Hp} {s:Shared} {h':Heap}
theorem Inv.turnedL{t':Nat}{ch:List Addr}(I:Inv X pins σ H s)(k:∀ b o,b∉ch→s.heap.get? b=some o→h'.get? b=some o)(hf:∀ b∈ch,JL X pins H b):Inv X pins σ H { s with heap:=h',toks:=t' }:=by
 have nit:∀ b u,H b=some u→b∉ch:=fun b u e z=>by
  have q:=(hf b z).1
  rw[q] at e;cases e
 refine I.step (g':=s.gens) (d':=s.drawn) (ch:=ch) (fun b hb=>⟨(hf b hb).2.2.2.1,(hf b hb).2.1,(hf b hb).2.2.2.2.1,(hf b hb).2.2.2.2.2⟩) (fun b o _ _ hc e _=>k b o hc e) (fun b o _ _ hc e _=>⟨o.slots,k b o hc e⟩)
  (fun _ _ _ _ n=>n) (fun b o hc e=>⟨o,k b o hc e⟩) (fun _ _ e=>e) (fun _ _ _ e=>e) (fun b ps e=>⟨#[],by rw[e];simp⟩) (fun m hm=>?_) (fun b u e=>?_) I.bare
 ·obtain⟨o,es,ep,ho,r⟩:=hm
  exact⟨o,es,ep,k _ o (fun z=>(hf _ z).2.1 rfl) ho,r⟩
 ·refine (I.hok b u e).stay (fun c v hc q=>k c v ?_ q) (fun _ q=>q) fun _ _ q=>q
  rcases hc with z | z
  ·rw[z];exact nit b u e
  ·exact nit c _ z
theorem Inv.turnedNew{t':Nat}{ch:List Addr}{T:Addr}{ob:HO}(I:Inv X pins σ H s)(k:∀ b o,b∉ch→s.heap.get? b=some o→h'.get? b=some o)(hf:∀ b∈ch,JL X pins H b)(hT:s.heap.objs.size≤T)
  (new:Q3 X.prog X.w (upd H T ob) h' T ob):Inv X pins σ (upd H T ob) { s with heap:=h',toks:=t' }:=by
 have hn:H T=none:=I.hok.fresh hT
 have nit:∀ b u,H b=some u→b∉ch:=fun b u e z=>by
  have q:=(hf b z).1
  rw[q] at e;cases e
 refine I.step (g':=s.gens) (d':=s.drawn) (ch:=ch) (fun b hb=>⟨(hf b hb).2.2.2.1,(hf b hb).2.1,(hf b hb).2.2.2.2.1,(hf b hb).2.2.2.2.2⟩) (fun b o _ _ hc e _=>k b o hc e) (fun b o _ _ hc e _=>⟨o.slots,k b o hc e⟩)
  (fun b o _ e n=>?_) (fun b o hc e=>⟨o,k b o hc e⟩) (fun b xs e=>?_) (fun b o u e=>?_) (fun b ps e=>⟨#[],?_⟩) (fun m hm=>?_) (fun b u e=>?_) I.bare
 ·rw[Qq (yr (yu (Heap.lt_size e) hT))];exact n
 ·rw[Qq (Qn e hn)];exact e
 ·rw[Qq (Qn e hn)];exact e
 ·rw[Qq (Qn e hn),e];simp
 ·obtain⟨o,es,ep,ho,r⟩:=hm
  exact⟨o,es,ep,k _ o (fun z=>(hf _ z).2.1 rfl) ho,r⟩
 ·by_cases hb:b=T
  ·subst hb
   rw[Qh] at e
   cases e
   exact new
  ·rw[Qq hb] at e
   refine (I.hok b u e).stay (fun c v hc q=>k c v ?_ q) (fun c q=>by rw[Qq (Qn q hn)];exact q) fun c xs q=>by rw[Qq (Qn q hn)];exact q
   rcases hc with z | z
   ·rw[z];exact nit b u e
   ·exact nit c _ z
end
section
variable {X:Cx}
theorem pi_one{tg:Expr} {pins:List (Addr×Obj)} {σ:St} {H:Hp} {s:Shared} {R:It→Hp→Prop} {J:It} {tn:Nat→Heap→Prop} {tk:Nat} (I:Inv X pins σ H s) (o:Obj)
  (T:qI X.prog X.w X.K tg J [s.heap.objs.size] s.heap.objs.size tn) (st:tn 0 (s.heap.push o)) (q:R J H):PIE X pins σ tg R (.ref s.heap.objs.size) { s with heap:=s.heap.push o,toks:=tk }:=by
 refine⟨s.heap.objs.size,[s.heap.objs.size],tn,J,H,rfl,I.kept fun b ob e=>Heap.get?_push_of_some _ e,T,st,fun b hb=>?_,q⟩
 have e:b=s.heap.objs.size:=by simpa using hb
 subst e
 exact I.fpOk (yl _) (I.hok.fresh (yl _))
end
def Itc(lo c:Int)(n:Nat):It:=⟨fun i _=>i<n,fun i H x H'=>H'=H∧x=.int (lo+(i:Nat)*c),fun i _=>n≤i⟩
theorem turn_rangeC{P:Program}{w:World}{K:z8}{tg:Expr}(it:Addr)(lo c:Int)(n:Nat):qI P w K tg (Itc lo c n) [it] it (fun i h=>IsRangeIter h it (lo+(i:Nat)*c) ((n:Int)-(i:Nat)) c) where
 mem:=by simp
 obj:=fun i h st b hb=>by
  have e:b=it:=by simpa using hb
  subst e
  exact⟨_,st,fun v z=>nomatch z⟩
 keep:=fun i h h' st k=>k it (by simp) _ st
 item:=by
  intro X hP hw hK hc i pins s σ H E I hf st hg
  subst hP hw hK
  obtain⟨f0,f1,f2,f3,f4,f5⟩:=hf it (by simp)
  have W:=Walks.range (prog:=X.prog) (w:=X.w) (I.ok.hd hc) it lo c n
  refine W.item i s _ _ hg st fun v h' tk hv st' kk=>?_
  obtain⟨t,rfl⟩:=hv
  have I1:Inv X pins σ H { s with heap:=h',toks:=tk }:=I.turned (fun b o hb e=>kk b o (by simpa using hb) e) f0 f1 f3 f4 f5
  exact⟨_,rfl,go_of (s:={ s with heap:=h',toks:=tk }) (n := "range_iterator") st' rfl rfl (by decide) ⟨.int (lo+(i:Nat)*c),H,I1,⟨t,rfl⟩,⟨rfl,rfl⟩,st',fun b hb=>(hf b hb).1⟩⟩
 done:=by
  intro X hP hw hK hc i pins s σ H E I hf st hg
  subst hP hw hK
  obtain⟨f0,f1,f2,f3,f4,f5⟩:=hf it (by simp)
  exact wpAny_pyNext_range_end (I.ok.hd hc) st (by have:n≤i:=hg;omega) fun h' eb=>⟨rfl,I.turned (t':=s.toks) (fun b o hb e=>eb b o hb e) f0 f1 f3 f4 f5⟩
 self:=fun A i s Q E st h=>wpAny_pyIter_rangeiter st h
def RgC(i j c:Int)(n:Nat):Prop:=c≠0∧c.natAbs<1073741824∧Builtin.Range.small i j c=true∧Builtin.Range.rangeSize i j c=n
def iRng3(ta:TA):TI:=fun σ H R=>ta σ H fun vs H1=>∃(i j c:Int)(n:Nat),vs=[.int i,.int j,.int c]∧RgC i j c n∧R (Itc i c n) H1
section
variable {X:Cx} {tg:Expr}
theorem Yp{a b c:Expr}{ta:TA}{p pos:Pos}(hg:Gl X "range")(hm:X.mg "range" = none)(ha:PA X [a,b,c] ta)
  (hs:starEach [a,b,c] X.env=(false,eval a X.env)::starEach [b,c] X.env:=by rfl) (hpl:(backTo pos (starEach [b,c] X.env)).any (·.1)=false:=by rfl) :
  PI X tg (.Call (.Name "range" p) [a,b,c] [] pos) (iRng3 ta):=by
 intro pins s σ H R I h
 refine Call_ (Xv I hg hm boot_range (PyProof.Rows.callWith_type1 (thn (ha pos pins s σ H _ I h) fun us s1 ⟨vs,H1,I1,r1,q1⟩=>?_) hs hpl))
 obtain⟨i,j,k,n,e,⟨c0,c1,c2,c3⟩,q⟩:=q1
 subst e
 cases r1 with
 | cons r rr=>
  cases rr with
  | cons r' rr=>
   cases rr with
   | cons r'' rr=>
    cases rr
    obtain⟨t,rfl⟩:=r
    obtain⟨t',rfl⟩:=r'
    obtain⟨t'',rfl⟩:=r''
    refine call_range_3 c0 ?_ (.inl (PyProof.noPylong_small c1))
    refine wpAny_pyIter_range (IsRange.new ..) c2 ?_
    have I2:Inv X pins σ H1 { s1 with heap:=s1.heap.push { cls:=.type "range",data:=.fields #[.int i t,.int j t',.int k t''] } }:=I1.kept (t':=s1.toks) fun b o e=>Heap.get?_push_of_some _ e
    refine pi_one (tk:=s1.toks) I2 _ (turn_rangeC _ i k n) ?_ q
    have e1:i+((0:Nat):Int)*k=i:=by simp
    have e2:(n:Int)-((0:Nat):Int)=Builtin.Range.rangeSize i j k:=by rw[c3];simp
    show IsRangeIter _ _ (i+((0:Nat):Int)*k) ((n:Int)-((0:Nat):Int)) k
    rw[e1,e2]
    exact Heap.get?_push_size _ rfl
end
theorem YT{lo c:Int}{n:Nat}{g:TG}{tb:TS}{D:Jx}{σ:St}{H:Hp}(Pv:Nat→St→Hp→Prop)(h0:Pv 0 σ H)
  (hs:∀ i σ H,i<n→Pv i σ H→g (.int (lo+(i:Nat)*c)) σ H fun σ2 H2=>tb { D with nx:=Pv (i+1),ct:=Pv (i+1),bk:=D.nx } σ2 H2) (hd:∀ σ H,Pv n σ H→D.nx σ H) :
  ∃ W:Nat→Nat→St→Hp→Prop,(∃ m,W 0 m σ H)∧∀ i m σ H,W i m σ H→
   ((Itc lo c n).stop i H∧D.nx σ H)∨((Itc lo c n).go i H∧∃ N:St→Hp→Prop,(∀ σ' H',N σ' H'→∃ m',m'<m∧W (i+1) m' σ' H')∧∀ x H',(Itc lo c n).yld i H x H'→g x σ H' fun σ2 H2=>tb { D with nx:=N,ct:=N,bk:=D.nx } σ2 H2):=by
 refine⟨fun i m σ H=>m=n-i∧i≤n∧Pv i σ H,⟨n,by simp,yM _,h0⟩,?_⟩
 rintro i m σ H ⟨rfl,hi,p⟩
 by_cases hlt:i<n
 ·refine .inr ⟨hlt,Pv (i+1),fun σ' H' p'=>⟨n-(i+1),by omega,rfl,hlt,p'⟩,fun x H' y=>?_⟩
  obtain⟨e,y⟩:=y
  subst e y
  exact hs i σ _ hlt p
 ·have e:i=n:=by omega
  subst e
  exact .inl ⟨yl _,hd σ H p⟩
def Itv(K:z8)(a:Addr)(n:Nat):It:=
 ⟨fun i H=>i<n∧∃(xs:List V)(x:V),SqL K H a xs∧xs[n-1-i]?=some x,fun i H x H'=>H'=H∧∀ xs,SqL K H a xs→xs[n-1-i]?=some x,fun i _=>n≤i⟩
theorem turn_rev{P:Program}{w:World}{K:z8}{tg:Expr}(a it:Addr)(n:Nat):qI P w K tg (Itv K a n) [it] it (fun i h=>i≤n∧h.IsRevIter it a ((n:Int)-1-(i:Nat))) where
 mem:=by simp
 obj:=fun i h st b hb=>by
  have e:b=it:=by simpa using hb
  subst e
  obtain⟨_,o,e,c,d⟩:=st
  exact⟨o,e,fun v z=>by rw[d] at z;cases z⟩
 keep:=fun i h h' st k=>⟨st.1,st.2.at fun o e=>k it (by simp) o e⟩
 item:=by
  intro X hP hw hK hc i pins s σ H E I hf st hg
  subst hP hw hK
  obtain⟨hin,xs,x,hq,hx⟩:=hg
  obtain⟨its,rv,p,hz⟩:=I.list hq
  obtain⟨u,hu,ru⟩:=rv.get hx
  obtain⟨f0,f1,f2,f3,f4,f5⟩:=hf it (by simp)
  obtain⟨_,hit⟩:=st
  have e1:(n:Int)-1-((i:Nat):Int)=((n-1-i:Nat):Int):=by omega
  rw[e1] at hit
  refine wpAny_pyNext_rev_item hit p.isList (x:=u) (by simpa using hu) fun h' st' sb=>?_
  have e2:((n-1-i:Nat):Int)-1=(n:Int)-1-((i+1:Nat):Int):=by omega
  rw[e2] at st'
  have I1:Inv X pins σ H { s with heap:=h' }:=I.turned (t':=s.toks) (fun b o hb e=>(sb.2 b hb).trans e) f0 f1 f3 f4 f5
  obtain⟨o,e,c,d⟩:=id st'
  exact⟨u,rfl,go_of (s:={ s with heap:=h' }) e c d (by decide) ⟨x,H,I1,ru,⟨rfl,fun ys hy=>by rw[I.list_inj hy hq];exact hx⟩,⟨hin,st'⟩,fun b hb=>(hf b hb).1⟩⟩
 done:=by
  intro X hP hw hK hc i pins s σ H E I hf st hg
  subst hP hw hK
  obtain⟨f0,f1,f2,f3,f4,f5⟩:=hf it (by simp)
  obtain⟨hin,hit⟩:=st
  have hge:n≤i:=hg
  have e1:(n:Int)-1-((i:Nat):Int) = -1:=by omega
  rw[e1] at hit
  exact wpAny_pyNext_rev_end (I.ok.hd hc) hit fun h' eb=>⟨rfl,I.turned (t':=s.toks) (fun b o hb e=>eb b o hb e) f0 f1 f3 f4 f5⟩
 self:=fun A i s Q E st h=>wpAny_pyIter_revIter st.2 h
def iRev(K:z8)(ta:TA):TI:=fun σ H R=>ta σ H fun vs H1=>∃(a:Addr)(xs:List V),vs=[.ref a]∧SqL K H1 a xs∧R (Itv K a xs.length) H1
section
variable {X:Cx} {tg:Expr}
theorem pi_reversed{e:Expr}{ta:TA}{p pos:Pos}(hg:Gl X "reversed")(hm:X.mg "reversed" = none)(ha:PA X [e] ta) (hs:starEach [e] X.env=[(false,eval e X.env)]:=by rfl):PI X tg (.Call (.Name "reversed" p) [e] [] pos) (iRev X.K ta):=by
 intro pins s σ H R I h
 refine Call_ (Xv I hg hm qw (PyProof.Rows.callWith_type1 (thn (ha pos pins s σ H _ I h) fun us s1 ⟨vs,H1,I1,r1,q1⟩=>?_) hs rfl))
 obtain⟨a,xs,e,hq,q⟩:=q1
 subst e
 cases r1 with
 | cons r rr=>
  cases rr
  cases r
  obtain⟨its,rv,p',hz⟩:=I1.list hq
  have hl:=rv.length
  have e1:((its.toArray.size:Nat):Int)-1=(xs.length:Int)-1-((0:Nat):Int):=by simp only[yn];omega
  refine call_reversed_list p'.isList (wpAny_pyIter_revIter (l:=a) (i:=((its.toArray.size:Nat):Int)-1) ⟨_,Heap.get?_push_size _ rfl,rfl,rfl⟩ ?_)
  refine pi_one (tk:=s1.toks) I1 _ (turn_rev a _ xs.length) ⟨yM _,?_⟩ q
  rw[←e1]
  exact⟨_,Heap.get?_push_size _ rfl,rfl,rfl⟩
end
section
variable {prog:Program} {w:World} {A:Around} {E:Value→Shared→Prop} {s:Shared}
end
section
variable {X:Cx} {pins:List (Addr×Obj)} {σ:St} {H:Hp} {s:Shared} {d:Addr} {o:Obj}
end
section
variable {P:Program} {w:World} {K:z8} {tg:Expr} {d:Addr} {o:Obj} {es:Array DictEntry} {ep:Nat}
end
section
variable {X:Cx} {tg e:Expr} {td:TE} {apos cpos:Pos}
end
def Ite(K:z8)(a:Addr):It:=
 ⟨fun i H=>∃(xs:List V)(x:V),SqL K H a xs∧xs[i]?=some x,fun i H v H'=>∃ T x,v=.ref T∧H T=none∧H'=upd H T (.tup [.int (i:Nat),x])∧∀ xs,SqL K H a xs→xs[i]?=some x,fun i H=>∃ xs:List V,SqL K H a xs∧xs.length≤i⟩
theorem turn_enum{P:Program}{w:World}{K:z8}{elts:List Expr}{kk:Nat}{tpos:Pos}(a e it:Addr) :
  qI P w K (.Tuple elts kk tpos) (Ite K a) [e,it] e (fun i h=>(∃ old,IsEnum h e it ((i:Nat):Int) old)∧h.IsListIter it a i∧e≠it) where
 mem:=by simp
 obj:=fun i h st b hb=>by
  obtain⟨⟨old,he⟩,⟨o,ho,hc,hd⟩,_⟩:=st
  have e':b=e∨b=it:=by simpa using hb
  rcases e' with z | z
  ·rw[z];exact⟨_,he,fun v q=>nomatch q⟩
  ·rw[z];exact⟨o,ho,fun v q=>by rw[hd] at q;cases q⟩
 keep:=fun i h h' st k=>let ⟨⟨old,he⟩,hi,hne⟩:=st;⟨⟨old,k e (by simp) _ he⟩,hi.at fun o q=>k it (by simp) o q,hne⟩
 item:=by
  intro X hP hw hK hc i pins s σ H E I hf st hg
  subst hP hw hK
  obtain⟨⟨old,he⟩,hit,hne⟩:=st
  obtain⟨xs,x,hq,hx⟩:=hg
  obtain⟨its,rv,p,hz⟩:=I.list hq
  obtain⟨u,hu,ru⟩:=rv.get hx
  have hel:e<s.heap.objs.size:=Heap.lt_size he
  have hil:it<s.heap.objs.size:=by obtain⟨_,q,_⟩:=hit;exact Heap.lt_size q
  refine wpAny_pyNext_enum_item he hit p.isList (x:=u) (by simpa using hu) hne fun h' ho hit' hT hsz hk=>?_
  refine⟨_,rfl,wpAny_letOwnedTupleGo_enum (s:={ s with heap:=h',toks:=s.toks+1 }) ho fun h'' he' sb=>?_⟩
  have hT2:h''.get? s.heap.objs.size=some { cls:=.type "tuple",data:=.seq #[.int i s.toks,u] }:=(sb.2 _ (ji hel)).trans hT
  have new:Q3 X.prog X.w (upd H s.heap.objs.size (.tup [.int (i:Nat),x])) h'' s.heap.objs.size (.tup [.int (i:Nat),x]):=
   ⟨by show 2≤sizeLine;decide,[.int i s.toks,u],.cons ⟨_,rfl⟩ (.cons ru .nil),⟨_,hT2,rfl,_,rfl⟩⟩
  have I1:Inv X pins σ (upd H s.heap.objs.size (.tup [.int (i:Nat),x])) { s with heap:=h'',toks:=s.toks+1 }:=
   I.turnedNew (ch:=[e,it]) (fun b ob hb q=>(sb.2 b (fun z=>hb (by simp[z]))).trans (hk b ob (fun z=>hb (by simp[z])) (fun z=>hb (by simp[z])) q)) hf (yl _) new
  refine⟨.ref s.heap.objs.size,_,I1,rfl,⟨_,x,rfl,I.hok.fresh (yl _),rfl,fun ys hy=>by rw[I.list_inj hy hq];exact hx⟩,⟨⟨u,?_⟩,hit'.at fun o q=>(sb.2 it (Ne.symm hne)).trans q,hne⟩,fun b hb=>?_⟩
  ·have e1:((i+1:Nat):Int)=(i:Int)+1:=by omega
   rw[e1];exact he'
  ·have hb':b<s.heap.objs.size:=by
    have e':b=e∨b=it:=by simpa using hb
    rcases e' with z | z
    ·rw[z];exact hel
    ·rw[z];exact hil
   rw[Qq (yr hb')]
   exact (hf b hb).1
 done:=by
  intro X hP hw hK hc i pins s σ H E I hf st hg
  subst hP hw hK
  obtain⟨⟨old,he⟩,hit,hne⟩:=st
  obtain⟨xs,hq,hx⟩:=hg
  obtain⟨its,rv,p,hz⟩:=I.list hq
  obtain⟨f0,f1,f2,f3,f4,f5⟩:=hf it (by simp)
  have hl:=rv.length
  exact wpAny_pyNext_enum_end (I.ok.hd hc) he hit p.isList (by simp;omega) fun h' eb=>⟨rfl,I.turned (t':=s.toks) (fun b o hb q=>eb b o hb q) f0 f1 f3 f4 f5⟩
 self:=fun A i s Q E st h=>let ⟨⟨_,he⟩,_⟩:=st;wpAny_pyIter_enum he h
def iEnum(K:z8)(ta:TA):TI:=fun σ H R=>ta σ H fun vs H1=>∃ a xs,vs=[.ref a]∧SqL K H1 a xs∧R (Ite K a) H1
theorem Yr{X:Cx}{e:Expr}{ta:TA}{p pos tpos:Pos}{elts:List Expr}{kk:Nat}(hg:Gl X "enumerate")(hm:X.mg "enumerate" = none)(ha:PA X [e] ta) (hs:starEach [e] X.env=[(false,eval e X.env)]:=by rfl) :
  PI X (.Tuple elts kk tpos) (.Call (.Name "enumerate" p) [e] [] pos) (iEnum X.K ta):=by
 intro pins s σ H R I h
 refine Call_ (Xv I hg hm boot_enumerate (PyProof.Rows.callWith_type1 (thn (ha pos pins s σ H _ I h) fun us s1 ⟨vs,H1,I1,r1,q1⟩=>?_) hs rfl))
 obtain⟨a,xs,ex,hq,q⟩:=q1
 subst ex
 cases r1 with
 | cons r rr=>
  cases rr
  cases r
  obtain⟨its,rv,p',hz⟩:=I1.list hq
  refine call_enumerate_list p'.isList fun h' he hit hsz hk=>wpAny_pyIter_enum he ?_
  have I2:Inv X pins σ H1 { s1 with heap:=h' }:=I1.kept (t':=s1.toks) hk
  refine⟨s1.heap.objs.size+1,[s1.heap.objs.size+1,s1.heap.objs.size],_,_,H1,rfl,I2,turn_enum a (s1.heap.objs.size+1) s1.heap.objs.size,⟨⟨.none,he⟩,hit,G9 _⟩,fun b hb=>?_,q⟩
  have e':b=s1.heap.objs.size+1∨b=s1.heap.objs.size:=by simpa using hb
  have hle:s1.heap.objs.size≤b:=by
   rcases e' with z | z
   ·rw[z];exact xA _ _
   ·rw[z];exact yl _
  exact I1.fpOk hle (I1.hok.fresh hle)
theorem boot_zip5:bootBuiltins "zip" = some (.type "zip"):=by decide +kernel
def Itz(K:z8)(a b:Addr):It:=
 ⟨fun i H=>∃(xs ys:List V)(x y:V),SqL K H a xs∧SqL K H b ys∧xs[i]?=some x∧ys[i]?=some y,
  fun i H v H'=>∃ T x y,v=.ref T∧H T=none∧H'=upd H T (.tup [x,y])∧(∀ xs,SqL K H a xs→xs[i]?=some x)∧∀ ys,SqL K H b ys→ys[i]?=some y,
  fun i H=>∃ xs ys:List V,SqL K H a xs∧SqL K H b ys∧(xs.length≤i∨ys.length≤i)⟩
theorem turn_zip{P:Program}{w:World}{K:z8}{elts:List Expr}{kk:Nat}{tpos:Pos}{a b z TI TO i1 i2:Addr}(D:ZipApart z TI TO i1 i2 a b) :
  qI P w K (.Tuple elts kk tpos) (Itz K a b) [z,TI,TO,i1,i2] z (fun i h=>IsZip h z TI TO .none∧IsPair h TI (.ref i1) (.ref i2)∧(∃ x y,IsPair h TO x y)∧h.IsListIter i1 a i∧h.IsListIter i2 b i) where
 mem:=by simp
 obj:=fun i h st c hc=>by
  obtain⟨hz,hTI,⟨x,y,hTO⟩,⟨o1,e1,_,d1⟩,⟨o2,e2,_,d2⟩⟩:=st
  have e':c=z∨c=TI∨c=TO∨c=i1∨c=i2:=by simpa using hc
  rcases e' with q | q | q | q | q
  ·rw[q];exact⟨_,hz,fun v q=>nomatch q⟩
  ·rw[q];exact⟨_,hTI,fun v q=>nomatch q⟩
  ·rw[q];exact⟨_,hTO,fun v q=>nomatch q⟩
  ·rw[q];exact⟨o1,e1,fun v q=>by rw[d1] at q;cases q⟩
  ·rw[q];exact⟨o2,e2,fun v q=>by rw[d2] at q;cases q⟩
 keep:=fun i h h' st k=>by
  obtain⟨hz,hTI,⟨x,y,hTO⟩,h1,h2⟩:=st
  exact⟨k z (by simp) _ hz,k TI (by simp) _ hTI,⟨x,y,k TO (by simp) _ hTO⟩,h1.at fun o q=>k i1 (by simp) o q,h2.at fun o q=>k i2 (by simp) o q⟩
 item:=by
  intro X hP hw hK hc i pins s σ H E I hf st hg
  subst hP hw hK
  obtain⟨hz,hTI,⟨x0,y0,hTO⟩,h1,h2⟩:=st
  obtain⟨xs,ys,x,y,hqx,hqy,hx,hy⟩:=hg
  obtain⟨its,rv,p,_⟩:=I.list hqx
  obtain⟨its2,rv2,p2,_⟩:=I.list hqy
  obtain⟨u,hu,ru⟩:=rv.get hx
  obtain⟨u2,hu2,ru2⟩:=rv2.get hy
  have hzl:z<s.heap.objs.size:=Heap.lt_size hz
  refine wpAny_pyNext_zip_item D hz hTI hTO h1 h2 p.isList p2.isList (x:=u) (y:=u2) (by simpa using hu) (by simpa using hu2) fun h' z' TO' h1' h2' hT hsz hk=>?_
  refine⟨_,rfl,wpAny_letOwnedTupleGo_zip (s:={ s with heap:=h' }) z' fun h'' z'' sb=>?_⟩
  have hT2:h''.get? s.heap.objs.size=some { cls:=.type "tuple",data:=.seq #[u,u2] }:=(sb.2 _ (ji hzl)).trans hT
  have new:Q3 X.prog X.w (upd H s.heap.objs.size (.tup [x,y])) h'' s.heap.objs.size (.tup [x,y]):=
   ⟨by show 2≤sizeLine;decide,[u,u2],.cons ru (.cons ru2 .nil),⟨_,hT2,rfl,_,rfl⟩⟩
  have I1:Inv X pins σ (upd H s.heap.objs.size (.tup [x,y])) { s with heap:=h'' }:=
   I.turnedNew (t':=s.toks) (ch:=[z,TI,TO,i1,i2]) (fun c o hb q=>(sb.2 c (fun q'=>hb (by simp[q']))).trans (hk c o (fun q'=>hb (by simp[q'])) (fun q'=>hb (by simp[q'])) (fun q'=>hb (by simp[q'])) (fun q'=>hb (by simp[q'])) q)) hf (yl _) new
  refine⟨.ref s.heap.objs.size,_,I1,rfl,⟨_,x,y,rfl,I.hok.fresh (yl _),rfl,fun l hl=>by rw[I.list_inj hl hqx];exact hx,fun l hl=>by rw[I.list_inj hl hqy];exact hy⟩,⟨z'',?_,⟨u,u2,?_⟩,?_,?_⟩,fun c hcm=>?_⟩
  ·exact (sb.2 _ D.TIz).trans (hk _ _ D.TIz D.TITO D.TIi1 D.TIi2 hTI)
  ·exact (sb.2 _ D.TOz).trans TO'
  ·exact h1'.at fun o q=>(sb.2 _ D.i1z).trans q
  ·exact h2'.at fun o q=>(sb.2 _ D.i2z).trans q
  ·have hlt:c<s.heap.objs.size:=by
    have e':c=z∨c=TI∨c=TO∨c=i1∨c=i2:=by simpa using hcm
    rcases e' with q | q | q | q | q
    ·rw[q];exact hzl
    ·rw[q];exact Heap.lt_size hTI
    ·rw[q];exact Heap.lt_size hTO
    ·rw[q];obtain⟨_,e1,_⟩:=h1;exact Heap.lt_size e1
    ·rw[q];obtain⟨_,e2,_⟩:=h2;exact Heap.lt_size e2
   rw[Qq (yr hlt)]
   exact (hf c hcm).1
 done:=by
  intro X hP hw hK hc i pins s σ H E I hf st hg
  subst hP hw hK
  obtain⟨hz,hTI,⟨x0,y0,hTO⟩,h1,h2⟩:=st
  obtain⟨xs,ys,hqx,hqy,hend⟩:=hg
  obtain⟨its,rv,p,_⟩:=I.list hqx
  obtain⟨its2,rv2,p2,_⟩:=I.list hqy
  have l1:=rv.length
  have l2:=rv2.length
  have he:its.toArray[i]?=none∨its2.toArray[i]?=none:=by
   rcases hend with q | q
   ·exact .inl (by simp;omega)
   ·exact .inr (by simp;omega)
  exact wpAny_pyNext_zip_end (I.ok.hd hc) D hz hTI hTO h1 h2 p.isList p2.isList he fun h' hk=>⟨rfl,I.turnedL (t':=s.toks) (ch:=[z,TI,TO,i1,i2]) (fun c o hb q=>
   hk c o (fun q'=>hb (by simp[q'])) (fun q'=>hb (by simp[q'])) (fun q'=>hb (by simp[q'])) (fun q'=>hb (by simp[q'])) q) hf⟩
 self:=fun A i s Q E st h=>wpAny_pyIter_zip st.1 h
def iZip(K:z8)(ta:TA):TI:=fun σ H R=>ta σ H fun vs H1=>∃ a b xs ys,vs=[.ref a,.ref b]∧SqL K H1 a xs∧SqL K H1 b ys∧R (Itz K a b) H1
theorem pi_zip{X:Cx}{e e2:Expr}{ta:TA}{p pos tpos:Pos}{elts:List Expr}{kk:Nat}(hg:Gl X "zip")(hm:X.mg "zip" = none)(ha:PA X [e,e2] ta)
  (hs:starEach [e,e2] X.env=(false,eval e X.env)::starEach [e2] X.env:=by rfl) (hpl:(backTo pos (starEach [e2] X.env)).any (·.1)=false:=by rfl) :
  PI X (.Tuple elts kk tpos) (.Call (.Name "zip" p) [e,e2] [] pos) (iZip X.K ta):=by
 intro pins s σ H R I h
 refine Call_ (Xv I hg hm boot_zip5 (PyProof.Rows.callWith_type1 (thn (ha pos pins s σ H _ I h) fun us s1 ⟨vs,H1,I1,r1,q1⟩=>?_) hs hpl))
 obtain⟨a,b,xs,ys,ex,hqx,hqy,q⟩:=q1
 subst ex
 cases r1 with
 | cons r rr=>
  cases rr with
  | cons r' rr=>
   cases rr
   cases r
   cases r'
   obtain⟨its,rv,p1,_⟩:=I1.list hqx
   obtain⟨its2,rv2,p2,_⟩:=I1.list hqy
   have la:a<s1.heap.objs.size:=p1.lt
   have lb:b<s1.heap.objs.size:=p2.lt
   refine call_zip_2 p1.isList p2.isList fun h' hz hTI hTO h1 h2 hsz hk=>wpAny_pyIter_zip hz ?_
   have I2:Inv X pins σ H1 { s1 with heap:=h' }:=I1.kept (t':=s1.toks) hk
   refine⟨s1.heap.objs.size+4,[s1.heap.objs.size+4,s1.heap.objs.size+2,s1.heap.objs.size+3,s1.heap.objs.size,s1.heap.objs.size+1],_,_,H1,rfl,I2,turn_zip (PySem.W.ktu_apart s1.heap.objs.size a b la lb),⟨hz,hTI,⟨_,_,hTO⟩,h1,h2⟩,fun c hcm=>?_,q⟩
   have e':c=s1.heap.objs.size+4∨c=s1.heap.objs.size+2∨c=s1.heap.objs.size+3∨c=s1.heap.objs.size∨c=s1.heap.objs.size+1:=by simpa using hcm
   have hle:s1.heap.objs.size≤c:=by
    rcases e' with z | z | z | z | z
    ·rw[z];exact xA _ _
    ·rw[z];exact xA _ _
    ·rw[z];exact xA _ _
    ·rw[z];exact yl _
    ·rw[z];exact xA _ _
   exact I1.fpOk hle (I1.hok.fresh hle)
end L2
section
namespace Bits
open PySem PyProof.Rows
end Bits
end
section
namespace TL
open PySem PySem.Builtin PySem.Builtin.Str PySem.StrLaws
theorem kind_ok{x y:Str} (h:y.cps.all (· < 256)=true):¬ Builtin.Str.strKind x<Builtin.Str.strKind y:=by
 have e:Builtin.Str.strKind y=1:=by unfold PySem.Builtin.Str.strKind;rw[if_pos h]
 rw[e]
 unfold PySem.Builtin.Str.strKind
 split
 ·omega
 ·split <;> omega
end TL
end
namespace L2
open PySem PySem.Spec PyProof.Rows
section
variable {X:Cx} {pins:List (Addr×Obj)} {σ:St} {H:Hp} {s:Shared} {Q:VK}
end
section
variable {X:Cx}
end
section
variable {X:Cx} {o e:Expr} {to te:TE}
end
end L2
namespace L2
open PySem PySem.Spec PyProof.Rows
section
variable {X:Cx}
end
end L2
namespace Att
open PySem PySem.W PySem.Calls PyProof.Rows
section
variable {prog:Program} {w:World} {A:Around} {E:Value→Shared→Prop} {s:Shared} {K:Frag}
end
end Att
namespace L2
open PySem PySem.Spec PyProof.Rows
end L2
namespace L2
open PySem PySem.Spec PyProof.Rows
end L2
namespace L2
open PySem PySem.Spec PyProof.Rows
def inClass(s:Stmt)(j:Nat):Stmt:=match s with
 | .ClassDef _ _ _ body _ _ _ _ _ _ _=>body.getD j (.Pass ⟨0,0,0,0⟩)
 | _=>.Pass ⟨0,0,0,0⟩
def defArgs(s:Stmt):Arguments:=match s with
 | .FunctionDef _ a _ _ _ _ _ _ _ _=>a
 | _=>{ posonlyargs:=[],args:=[],vararg:=none,kwonlyargs:=[],kw_defaults:=[],kwarg:=none,defaults:=[] }
def defBody(s:Stmt):List Stmt:=match s with
 | .FunctionDef _ _ b _ _ _ _ _ _ _=>b
 | _=>[]
def defScope(s:Stmt):Scope:=match s with
 | .FunctionDef _ _ _ _ _ _ sc _ _ _=>sc
 | _=>{ kind:=.function,names:=[],isGenerator:=false,isCoroutine:=false }
abbrev CX0:CXT:=fun _ _ _ _ _ _=>False
abbrev E0:XK:=fun _ _ _=>False
theorem Zm{X:Cx}:YV CX0 X E0:=fun _ _ _ _ _ _ _ h=>h.elim
structure Fun(K:z8)(x qual:Str)(st:Stmt)(f:Addr)(fd:FuncData):Prop where
 ex:∃ (oc:Value) (od:Option Addr) (kV doc pm:Value) (an:Option Addr) (cdv ct:Value) (osl:Array (Option Value)),
  fd=jj x qual (defArgs st) (defBody st) (defScope st) .none kV doc pm an cdv ct∧K.lookup f=some ⟨oc,od,.func fd,osl⟩∧xC K cdv qual=true
 kp:yY K (.ref f)=true
section
variable {P:Program} {w:World} {K:z8} {mg:Str→Option Value} {base:Heap}
theorem Fun.ok{x qual:Str}{st:Stmt}{f:Addr}{fd:FuncData}{N ps:List Str}{k:Nat}{sp:Sp}(F:Fun K x qual st f fd) (S:Qm N ps (defScope st)) (len:∀ vs H Q E,sp vs H Q E→vs.length=ps.length)
  (hbody:∀(cdv:Value)(A:Around)(outer:List Env)(s:Shared)(H:Hp)(vs:List V)(Q:VK)(E:XK),ZK k (A.deeper (envOfC qual (defScope st) s.heap.objs.size f cdv))→sp vs H Q E→
   ∃ t,PSs (cxOf CX0 P w K mg base N qual (defScope st) f cdv A outer s H E).nox (defBody st) t∧t { nx:=fun _ H'=>Q .non H',rt:=Q } (Yy N vs) H):QI P w K mg base CX0 (k+1) f fd ps sp:=by
 obtain⟨oc,od,kV,doc,pm,an,cdv,ct,osl,rfl,lk,hcd⟩:=F.ex
 refine fn_of lk hcd S len fun A outer s H vs Q E hr hsp=>?_
 obtain⟨t,h,q⟩:=hbody cdv A outer s H vs Q E hr hsp
 exact⟨t,h.nox,q⟩
theorem Fun.binds{x qual:Str}{st:Stmt}{f:Addr}{fd:FuncData}{ps:List Str}(F:Fun K x qual st f fd)
  (h:∀(kV doc pm:Value)(an:Option Addr)(cdv ct:Value)(us:List Value),us.length=ps.length→bindArgs (jj x qual (defArgs st) (defBody st) (defScope st) .none kV doc pm an cdv ct) ⟨us,[]⟩=pure (ps.zip us)):Xg K fd ps []:=by
 obtain⟨oc,od,kV,doc,pm,an,cdv,ct,osl,rfl,lk,hcd⟩:=F.ex
 exact .all (h kV doc pm an cdv ct)
theorem zT{x qual:Str}{st:Stmt}{f:Addr}{oc:Value}{od an:Option Addr} {osl:Array (Option Value)} {kV doc pm cdv ct:Value} (l:K.lookup f=some ⟨oc,od,.func (jj x qual (defArgs st) (defBody st) (defScope st) .none kV doc pm an cdv ct),osl⟩)
  (c:xC K cdv qual=true) (k:yY K (.ref f)=true):Fun K x qual st f (jj x qual (defArgs st) (defBody st) (defScope st) .none kV doc pm an cdv ct):=⟨⟨oc,od,kV,doc,pm,an,cdv,ct,osl,rfl,l,c⟩,k⟩
end
theorem hu_of{A:Around}{k:Nat}(hr:ZK k A):A.units+1<cLine:=yF (Nat.add_le_add_left (by decide:1≤64) _) hr.units
section
variable {X:Cx}
theorem pv(i:Nat){x:Str}{pos:Pos}(hN:X.N[i]?=some x:=by rfl) (hv:Vis X.env.scope x:=by first | exact Or.inl rfl | exact Or.inr (Or.inl rfl) | exact Or.inr (Or.inr rfl)) (hd:(x==("__debug__" : Str))=false:=by decide)
  (hcd:(x==("__classdict__" : Str))=false:=by decide):PE X (.Name x pos) (Zt i):=zH hN hv hd hcd
theorem call_lenD:zp X (.builtin "len") (fun xs H Q=>∃ a kvs,xs=[V.ref a]∧H a=some (.dK kvs)∧Q (.int kvs.length) H):=by
 intro pins s σ H xs us Q I r h
 obtain⟨a,kvs,rfl,ha,q⟩:=h
 obtain⟨u,rfl,ru⟩:=vals1 r
 cases ru
 exact d_len I (.inl ha) fun t s' I'=>⟨.int kvs.length,H,I',⟨t,rfl⟩,q⟩
end
theorem qh{A B:Prop}(h:A):if true=true then A else B:=by
 rw[if_pos rfl]
 exact h
theorem Qz{c A B:Prop} [Decidable c] (h1:c→A) (h2:¬ c→B):if c then A else B:=by
 by_cases h:c
 ·rw[if_pos h]
  exact h1 h
 ·rw[if_neg h]
  exact h2 h
def Qp(H H':Hp):Prop:=∀ b o,H b=some o→H' b=some o
theorem Qp.refl(H:Hp):Qp H H:=fun _ _ h=>h
theorem Qp.trans{H H1 H2:Hp}(a:Qp H H1)(b:Qp H1 H2):Qp H H2:=fun c o h=>b c o (a c o h)
theorem Qp.free{H H':Hp}(e:Qp H H'){l:Addr}(h:H' l=Option.none):H l=Option.none:=by
 cases q:H l with
 | none=>rfl
 | some o=>
  rw[e l o q] at h
  cases h
theorem Qp.seq{K:z8}{H H':Hp}{a:Addr}{xs:List V}(e:Qp H H')(h:SqL K H a xs):SqL K H' a xs:=by
 rcases h with (h | ⟨o,h⟩) | h
 ·exact .inl (.inl (e _ _ h))
 ·exact .inl (.inr ⟨o,e _ _ h⟩)
 ·exact .inr h
section
variable {κ:Type} [DecidableEq κ]
theorem nd_snoc:∀ {l:List κ} {k:κ},l.Nodup→¬ k∈l→(l++[k]).Nodup
 | [],k,_,_=>by simp
 | a::r,k,h,hk=>by
  obtain⟨h1,h2⟩:=List.nodup_cons.mp h
  show (a::(r++[k])).Nodup
  refine List.nodup_cons.mpr ⟨fun m=>?_,nd_snoc h2 fun m=>hk (List.mem_cons.mpr (Or.inr m))⟩
  rcases List.mem_append.mp m with q | q
  ·exact h1 q
  ·exact hk (List.mem_cons.mpr (Or.inl (List.mem_singleton.mp q).symm))
end
theorem at_of{xs:List V}{z:Int}{j:Nat}{v:V} (e:z=(j:Int)) (h:xs[j]?=some v):atI xs z=some v:=by
 rw[e]
 exact Qj h
theorem nd_ix{α:Type}{l:List α}(hN:l.Nodup){i j:Nat}{x:α}(a:l[i]?=some x)(b:l[j]?=some x):i=j:=by
 obtain⟨h1,e1⟩:=List.getElem?_eq_some_iff.mp a
 obtain⟨h2,e2⟩:=List.getElem?_eq_some_iff.mp b
 exact (Gw hN).mp (e1.trans e2.symm)
theorem Qp.made{H H1:Hp}{x dx C:Addr}(nx:H x=Option.none)(nd:H dx=Option.none) (k:∀ b o,(upd (upd H dx (.own x)) x (.ins C dx [])) b=some o→b≠x→H1 b=some o):Qp H H1:=fun b o e=>
 k b o (by rw[Qq (Qn e nx),Qq (Qn e nd)];exact e) (Qn e nx)
end L2
section
set_option Elab.async false
set_option linter.all false
set_option maxRecDepth 100000
set_option maxHeartbeats 2000000
namespace L2
open PySem PySem.Spec PyProof.Rows
open PySem.W (WData Codec OpenSpec Well WellAll ReadsW ReadsAllW)
mutual
inductive Dw(K:z8)(H:Hp):V→WData→Prop
 | non:Dw K H .non .none
 | bl (b:Bool):Dw K H (.bl b) (.bool b)
 | int (i:Int):Dw K H (.int i) (.int i)
 | str (x:Str):Dw K H (.str x) (.str x)
 | byt (b:Array UInt8):Dw K H (.byt b) (.bytes b.toList)
 | lst {a:Addr} {xs:List V} {ds:List WData}:SqL K H a xs→X4 K H xs ds→Dw K H (.ref a) (.list ds)
 | tup {a:Addr} {xs:List V} {ds:List WData}:SqT K H a xs→X4 K H xs ds→Dw K H (.ref a) (.tuple ds)
inductive X4(K:z8)(H:Hp):List V→List WData→Prop
 | nil:X4 K H [] []
 | cons {v:V} {vs:List V} {d:WData} {ds:List WData}:Dw K H v d→X4 K H vs ds→X4 K H (v::vs) (d::ds)
end
theorem dw_ints{K:z8}{H:Hp}:∀ ns:List Int,X4 K H (ns.map V.int) (ns.map WData.int)
 | []=>.nil
 | n::r=>.cons (.int n) (dw_ints r)
theorem ints_dw{K:z8}{H:Hp}:∀(ns:List Int)(xs:List V),X4 K H xs (ns.map WData.int)→xs=ns.map V.int
 | [],xs,h=>by
  cases h
  rfl
 | n::r,xs,h=>by
  cases h with
  | cons h1 h2=>
   cases h1
   rw[ints_dw r _ h2] <;> rfl
section
variable {P:Program} {w:World} {K:z8} {H:Hp} {h:Heap} {R:PySem.W.WRecords} {cl:Str→Option Addr}
theorem sqL_at{a:Addr}{xs:List V}(hok:HOk P w H h)(KX:K.In h)(q:SqL K H a xs):∃(its:List Value)(o:Obj)(n:Nat),QF xs its∧h.get? a=some o∧o.cls=.type "list" ∧ o.data=.seq its.toArray n:=by
 rcases q with q | ⟨o,its,n,e,hc,_,hd,_,hv⟩
 ·obtain⟨_,its,n,hv,e⟩:=(show Q3 P w H h a (.lst xs) from q.ok hok)
  exact⟨its,_,n,hv,e,rfl,rfl⟩
 ·exact⟨its.toList,o,n,hv,KX _ _ e,hc,by simp[hd]⟩
theorem sqT_at{a:Addr}{xs:List V}(hok:HOk P w H h)(KX:K.In h)(q:SqT K H a xs):∃(its:List Value)(o:Obj)(n:Nat),QF xs its∧h.get? a=some o∧o.cls=.type "tuple" ∧ o.data=.seq its.toArray n:=by
 rcases q with q | ⟨o,its,n,e,hc,hd,_,hv⟩
 ·obtain⟨_,its,hv,o,e,hc,n,hd⟩:=(show Q3 P w H h a (.tup xs) from q.ok hok)
  exact⟨its,o,n,hv,e,hc,hd⟩
 ·exact⟨its.toList,o,n,hv,KX _ _ e,hc,by simp[hd]⟩
mutual
theorem Dw.reads(hok:HOk P w H h)(KX:K.In h):∀(d:WData)(v:V)(u:Value),Dw K H v d→QT v u→∃ as,ReadsW R cl h u d as
 | .none,_,_,x,r=>by
  cases x
  cases r
  exact⟨_,ReadsW.none⟩
 | .bool b,_,_,x,r=>by
  cases x
  cases r
  exact⟨_,ReadsW.bool b⟩
 | .int i,_,_,x,r=>by
  cases x
  obtain⟨t,rfl⟩:=r
  exact⟨_,ReadsW.int i t⟩
 | .str s,_,_,x,r=>by
  cases x
  obtain⟨t,rfl⟩:=r
  exact⟨_,ReadsW.str s t⟩
 | .bytes b,_,_,x,r=>by
  cases x
  obtain⟨t,rfl⟩:=r
  exact⟨_,ReadsW.bytes _ t⟩
 | .list ds,_,_,x,r=>by
  cases x with
  | lst hs ha=>
   cases r
   obtain⟨its,o,n,rv,ho,hc,hd⟩:=sqL_at hok KX hs
   obtain⟨as,hr⟩:=Dw.readsAll hok KX ds _ its ha rv
   exact⟨_,ReadsW.list ho hc hd hr⟩
 | .tuple ds,_,_,x,r=>by
  cases x with
  | tup hs ha=>
   cases r
   obtain⟨its,o,n,rv,ho,hc,hd⟩:=sqT_at hok KX hs
   obtain⟨as,hr⟩:=Dw.readsAll hok KX ds _ its ha rv
   exact⟨_,ReadsW.tuple ho hc hd hr⟩
 | .float _,_,_,x,_=>by cases x
 | .dict _,_,_,x,_=>by cases x
 | .bytearray _,_,_,x,_=>by cases x
 | .set _,_,_,x,_=>by cases x
 | .frozenset _,_,_,x,_=>by cases x
 | .obj _ _,_,_,x,_=>by cases x
theorem Dw.readsAll(hok:HOk P w H h)(KX:K.In h):∀(ds:List WData)(vs:List V)(us:List Value),X4 K H vs ds→QF vs us→∃ as,ReadsAllW R cl h us ds as
 | [],_,_,x,r=>by
  cases x
  cases r
  exact⟨_,ReadsAllW.nil⟩
 | d::ds,_,_,x,r=>by
  cases x with
  | cons h1 h2=>
   cases r with
   | cons r1 r2=>
    obtain⟨as,q1⟩:=Dw.reads hok KX d _ _ h1 r1
    obtain⟨bs,q2⟩:=Dw.readsAll hok KX ds _ _ h2 r2
    exact⟨_,ReadsAllW.cons q1 q2⟩
end
end
mutual
def plW:WData→Bool
 | .none=>true
 | .bool _=>true
 | .int _=>true
 | .str _=>true
 | .bytes _=>true
 | .list xs=>JG xs
 | .tuple xs=>JG xs
 | _=>false
def JG:List WData→Bool
 | []=>true
 | x::r=>plW x&&JG r
end
theorem plWs_map{α:Type}{f:α→WData} (h:∀ a,plW (f a)=true):∀ l:List α,JG (l.map f)=true
 | []=>rfl
 | x::r=>by
  show (plW (f x)&&JG (r.map f))=true
  rw[h x,plWs_map h r] <;> rfl
theorem Yc:∀(c:Codec)(a:c.denote),plW (c.enc a)=true
 | .unit,_=>rfl
 | .bool,_=>rfl
 | .int _ _,_=>rfl
 | .nat _ _,_=>rfl
 | .u8,_=>rfl
 | .bytes _ _,_=>rfl
 | .text _ _ _ _,_=>rfl
 | .list _ _ c,a=>plWs_map (fun x=>Yc c x) a
 | .pair c d,a=>by
  show (plW (c.enc a.1)&&(plW (d.enc a.2)&&true))=true
  rw[Yc c a.1,Yc d a.2] <;> rfl
 | .triple c d e,a=>by
  show (plW (c.enc a.1)&&(plW (d.enc a.2.1)&&(plW (e.enc a.2.2)&&true)))=true
  rw[Yc c a.1,Yc d a.2.1,Yc e a.2.2] <;> rfl
 | .option c,none=>rfl
 | .option c,some x=>Yc c x
theorem qW:∀(cs:List Codec)(a:Codec.denoteAll cs),JG (Codec.encAll cs a)=true
 | [],_=>rfl
 | c::cs,a=>by
  show (plW (c.enc a.1)&&JG (Codec.encAll cs a.2))=true
  rw[Yc c a.1,qW cs a.2] <;> rfl
theorem YF:∀ {xs:List WData} {d:WData},d∈xs→d.weight≤WData.weightAll xs
 | [],d,h=>absurd h (by simp)
 | x::r,d,h=>by
  show d.weight≤x.weight+1+WData.weightAll r
  rcases List.mem_cons.mp h with e | m
  ·rw[e]
   omega
  ·have z:=YF m
   omega
def toV:Value→V
 | .none=>.non
 | .bool b=>.bl b
 | .int i _=>.int i
 | .str x _=>.str x
 | .bytes b _=>.byt b
 | .ref a=>.ref a
 | _=>.non
def OkU(A:List Addr):Value→Prop
 | .none=>True
 | .bool _=>True
 | .int _ _=>True
 | .str _ _=>True
 | .bytes _ _=>True
 | .ref a=>a∈A
 | _=>False
theorem OkU.mono{A B:List Addr}(h:∀ a∈A,a∈B):∀ {u:Value},OkU A u→OkU B u:=fun {u} x=>by
 cases u with
 | ref a=>exact h a x
 | none=>trivial
 | bool b=>trivial
 | int i t=>trivial
 | str s t=>trivial
 | bytes b t=>trivial
 | _=>exact False.elim x
theorem relV_toV{A:List Addr}{u:Value}(x:OkU A u):QT (toV u) u:=by
 cases u with
 | ref a=>rfl
 | none=>rfl
 | bool b=>rfl
 | int i t=>exact⟨t,rfl⟩
 | str s t=>exact⟨t,rfl⟩
 | bytes b t=>exact⟨t,rfl⟩
 | _=>exact False.elim x
theorem Xy{A:List Addr}:∀ {vs:List Value},(∀ u∈vs,OkU A u)→QF (vs.map toV) vs
 | [],_=>.nil
 | u::r,h=>.cons (relV_toV (h u (yI ..))) (Xy fun x hx=>h x (ym _ hx))
def X5(h:Heap)(A:List Addr)(a:Addr):Prop:=∃ vs:List Value,vs.length≤sizeLine∧(∀ u∈vs,OkU A u)∧
 (h.get? a=some { cls:=.type "list",data:=.seq vs.toArray }∨h.get? a=some { cls:=.type "tuple",data:=.seq vs.toArray })
theorem X5.mono{h:Heap}{A B:List Addr}{a:Addr}(k:∀ a∈A,a∈B)(x:X5 h A a):X5 h B a:=by
 obtain⟨vs,h1,h2,h3⟩:=x
 exact⟨vs,h1,fun u hu=>(h2 u hu).mono k,h3⟩
theorem Xi{P:Params}{h:Heap}:∀ {vs:List Value} {ds:List WData},WellAll P h vs ds→vs.length=ds.length
 | _,_,.nil=>rfl
 | _,_,.cons _ b=>by
  show _+1=_+1
  rw[Xi b]
theorem qJ{P:Params}{h:Heap}{v:Value}{ds:List WData} (x:Well P h v (.list ds)):∃(a:Addr)(vs:List Value),v=.ref a∧h.get? a=some { cls:=.type "list",data:=.seq vs.toArray }∧WellAll P h vs ds:=by
 cases x with
 | list ho hall=>exact⟨_,_,rfl,ho,hall⟩
theorem JZ{P:Params}{h:Heap}{v:Value}{ds:List WData} (x:Well P h v (.tuple ds)):∃(a:Addr)(vs:List Value),v=.ref a∧h.get? a=some { cls:=.type "tuple",data:=.seq vs.toArray }∧WellAll P h vs ds:=by
 cases x with
 | tuple ho hall=>exact⟨_,_,rfl,ho,hall⟩
theorem qK{P:Params}{h:Heap}{us:List Value}{d:WData}{ds:List WData} (x:WellAll P h us (d::ds)):∃(v:Value)(vs:List Value),us=v::vs∧Well P h v d∧WellAll P h vs ds:=by
 cases x with
 | cons a b=>exact⟨_,_,rfl,a,b⟩
theorem line_of{n:Nat}(h:n≤1048576):n≤sizeLine:=yE h (by decide)
section
variable {P:Params} {h:Heap}
mutual
theorem area_one:∀(d:WData)(v:Value),Well P h v d→plW d=true→d.weight≤1048576→∃ A:List Addr,OkU A v∧∀ a∈A,X5 h A a
 | .none,_,x,_,_=>by
  cases x
  exact⟨[],trivial,fun a m=>absurd m (by simp)⟩
 | .bool b,_,x,_,_=>by
  cases x
  exact⟨[],trivial,fun a m=>absurd m (by simp)⟩
 | .int i,_,x,_,_=>by
  cases x
  exact⟨[],trivial,fun a m=>absurd m (by simp)⟩
 | .str s,_,x,_,_=>by
  cases x
  exact⟨[],trivial,fun a m=>absurd m (by simp)⟩
 | .bytes b,_,x,_,_=>by
  cases x
  exact⟨[],trivial,fun a m=>absurd m (by simp)⟩
 | .list ds,_,x,p,z=>by
  obtain⟨a,vs,rfl,ho,hall⟩:=qJ x
  have z2:WData.weightAll ds≤1048576:=z
  obtain⟨A,h1,h2⟩:=Jg ds _ hall p fun d hd=>yE (YF hd) z2
  have k:∀ b∈A,b∈a::A:=fun b hb=>ym _ hb
  refine⟨a::A,yI ..,fun b hb=>?_⟩
  rcases List.mem_cons.mp hb with e | m
  ·rw[e]
   exact⟨vs,line_of (by rw[Xi hall];exact yE (GE ds) z2),fun u hu=>(h1 u hu).mono k,.inl ho⟩
  ·exact (h2 b m).mono k
 | .tuple ds,_,x,p,z=>by
  obtain⟨a,vs,rfl,ho,hall⟩:=JZ x
  have z2:WData.weightAll ds≤1048576:=z
  obtain⟨A,h1,h2⟩:=Jg ds _ hall p fun d hd=>yE (YF hd) z2
  have k:∀ b∈A,b∈a::A:=fun b hb=>ym _ hb
  refine⟨a::A,yI ..,fun b hb=>?_⟩
  rcases List.mem_cons.mp hb with e | m
  ·rw[e]
   exact⟨vs,line_of (by rw[Xi hall];exact yE (GE ds) z2),fun u hu=>(h1 u hu).mono k,.inr ho⟩
  ·exact (h2 b m).mono k
 | .float _,_,_,p,_=>yT (show false=true from p)
 | .dict _,_,_,p,_=>yT (show false=true from p)
 | .bytearray _,_,_,p,_=>yT (show false=true from p)
 | .set _,_,_,p,_=>yT (show false=true from p)
 | .frozenset _,_,_,p,_=>yT (show false=true from p)
 | .obj _ _,_,_,p,_=>yT (show false=true from p)
theorem Jg:∀(ds:List WData)(vs:List Value),WellAll P h vs ds→JG ds=true→(∀ d∈ds,d.weight≤1048576)→∃ A:List Addr,(∀ u∈vs,OkU A u)∧∀ a∈A,X5 h A a
 | [],_,x,_,_=>by
  cases x
  exact⟨[],fun u m=>absurd m (by simp),fun a m=>absurd m (by simp)⟩
 | d::ds,_,x,p,z=>by
  obtain⟨v,vs,rfl,x1,x2⟩:=qK x
  have q:plW d=true∧JG ds=true:=Bool.and_eq_true_iff.mp p
  obtain⟨A,a1,a2⟩:=area_one d v x1 q.1 (z d (yI ..))
  obtain⟨B,b1,b2⟩:=Jg ds vs x2 q.2 fun e he=>z e (ym _ he)
  have kA:∀ b∈A,b∈A++B:=fun b hb=>List.mem_append.mpr (.inl hb)
  have kB:∀ b∈B,b∈A++B:=fun b hb=>List.mem_append.mpr (.inr hb)
  refine⟨A++B,fun u hu=>?_,fun b hb=>?_⟩
  ·rcases List.mem_cons.mp hu with e | m
   ·rw[e]
    exact a1.mono kA
   ·exact (b1 u m).mono kB
  ·rcases List.mem_append.mp hb with m | m
   ·exact (a2 b m).mono kA
   ·exact (b2 b m).mono kB
end
end
def hoOf(o:Obj):Option HO:=match o.data with
 | .seq vs _=>if (o.cls==Value.type "list")=true then some (.frz o (.lst (vs.toList.map toV))) else some (.frz o (.tup (vs.toList.map toV)))
 | _=>none
def XU(K:z8)(h:Heap)(A:List Addr):Hp:=fun b=>if b∈A then (if (K.lookup b).isNone=true then (h.get? b).bind hoOf else none) else none
def OnlyF(H:Hp):Prop:=∀ b,H b=none∨∃ o u,H b=some (.frz o u)
theorem hoOf_lst(vs:List Value):hoOf { cls:=.type "list",data:=.seq vs.toArray }=some (.frz { cls:=.type "list",data:=.seq vs.toArray } (.lst (vs.map toV))):=by
 show (if (Value.type "list" == Value.type "list")=true then some (HO.frz { cls:=.type "list",data:=.seq vs.toArray } (.lst (vs.toArray.toList.map toV))) else some (HO.frz { cls:=.type "list",data:=.seq vs.toArray } (.tup (vs.toArray.toList.map toV))))=_
 rw[if_pos (beq_self_eq_true _)]
theorem hoOf_tup(vs:List Value):hoOf { cls:=.type "tuple",data:=.seq vs.toArray }=some (.frz { cls:=.type "tuple",data:=.seq vs.toArray } (.tup (vs.map toV))):=by
 show (if (Value.type "tuple" == Value.type "list")=true then some (HO.frz { cls:=.type "tuple",data:=.seq vs.toArray } (.lst (vs.toArray.toList.map toV))) else some (HO.frz { cls:=.type "tuple",data:=.seq vs.toArray } (.tup (vs.toArray.toList.map toV))))=_
 rw[if_neg (by decide)]
section
variable {P:Program} {w:World} {K:z8} {h:Heap} {A:List Addr}
theorem JX{b:Addr}{o:Obj}(hb:b∈A)(hk:K.lookup b=none)(e:h.get? b=some o):XU K h A b=hoOf o:=by
 unfold XU
 rw[if_pos hb,hk,if_pos (show (none:Option Obj).isNone=true from rfl),e] <;> rfl
theorem of_argH{b:Addr}{u:HO}(q:XU K h A b=some u):b∈A∧K.lookup b=none:=by
 unfold XU at q
 by_cases hb:b∈A
 ·rw[if_pos hb] at q
  cases hk:K.lookup b with
  | none=>exact⟨hb,rfl⟩
  | some o=>
   rw[hk,if_neg (by simp)] at q
   cases q
 ·rw[if_neg hb] at q
  cases q
theorem JW(ar : ∀ a ∈ A, X5 h A a){b : Addr}{u : HO}(q : XU K h A b = some u) : K.lookup b = none ∧ ∃ vs : List Value, vs.length ≤ sizeLine ∧ (∀ u ∈ vs, OkU A u) ∧
    ((h.get? b = some { cls := .type "list", data := .seq vs.toArray } ∧ u = .frz { cls := .type "list", data := .seq vs.toArray } (.lst (vs.map toV))) ∨
     (h.get? b = some { cls := .type "tuple", data := .seq vs.toArray } ∧ u = .frz { cls := .type "tuple", data := .seq vs.toArray } (.tup (vs.map toV)))) := by
  obtain ⟨hb, hk⟩ := of_argH q
  obtain ⟨vs, h1, h2, h3⟩ := ar b hb
  refine ⟨hk, vs, h1, h2, ?_⟩
  rcases h3 with e | e
  · rw [JX hb hk e, hoOf_lst] at q
    exact .inl ⟨e, (Option.some.inj q).symm⟩
  · rw [JX hb hk e, hoOf_tup] at q
    exact .inr ⟨e, (Option.some.inj q).symm⟩
theorem argH_only(ar:∀ a∈A,X5 h A a):OnlyF (XU K h A):=fun b=>by
 cases q:XU K h A b with
 | none=>exact .inl rfl
 | some u=>
  obtain⟨_,vs,_,_,⟨_,e⟩ | ⟨_,e⟩⟩:=JW ar q
  ·exact .inr ⟨_,_,by rw[e]⟩
  ·exact .inr ⟨_,_,by rw[e]⟩
theorem argH_ok(ar:∀ a∈A,X5 h A a):HOk P w (XU K h A) h:=fun b u q=>by
 obtain⟨_,vs,h1,h2,⟨e,rfl⟩ | ⟨e,rfl⟩⟩:=JW ar q
 ·exact⟨e,by rw[yc];exact h1,vs,_,Xy h2,e⟩
 ·exact⟨e,by rw[yc];exact h1,vs,Xy h2,_,e,rfl,_,rfl⟩
theorem JO{c c':Value}{vs us:List Value} (e:(some { cls:=c,data:=.seq vs.toArray }:Option Obj)=some { cls:=c',data:=.seq us.toArray }):c=c'∧vs=us:=by
 have e1:=Option.some.inj e
 have e2:c=c':=congrArg Obj.cls e1
 have e3:Data.seq vs.toArray=Data.seq us.toArray:=congrArg Obj.data e1
 injection e3 with e4
 refine⟨e2,?_⟩
 have e5:=congrArg UB e4
 simpa using e5
theorem argL(KX:K.In h)(ar:∀ a∈A,X5 h A a){a:Addr}{vs:List Value}(ha:a∈A) (e:h.get? a=some { cls:=.type "list",data:=.seq vs.toArray }):(∀ u∈vs,OkU A u)∧SqL K (XU K h A) a (vs.map toV):=by
 obtain⟨us,h1,h2,h3⟩:=ar a ha
 have hu:us=vs:=by
  rcases h3 with q | q
  ·rw[e] at q
   exact (JO q).2.symm
  ·rw[e] at q
   exact absurd (Value.type.inj (JO q).1) (by decide)
 subst hu
 refine⟨h2,?_⟩
 cases hk:K.lookup a with
 | none=>exact .inl (.inr ⟨_,by rw[JX ha hk e,hoOf_lst]⟩)
 | some o=>
  have e2:=KX a o hk
  rw[e] at e2
  obtain rfl:=Option.some.inj e2
  exact .inr ⟨_,us.toArray,_,hk,rfl,rfl,rfl,by rw[yn];exact h1,by simpa using Xy h2⟩
theorem argT(KX:K.In h)(ar:∀ a∈A,X5 h A a){a:Addr}{vs:List Value}(ha:a∈A) (e:h.get? a=some { cls:=.type "tuple",data:=.seq vs.toArray }):(∀ u∈vs,OkU A u)∧SqT K (XU K h A) a (vs.map toV):=by
 obtain⟨us,h1,h2,h3⟩:=ar a ha
 have hu:us=vs:=by
  rcases h3 with q | q
  ·rw[e] at q
   exact absurd (Value.type.inj (JO q).1) (by decide)
  ·rw[e] at q
   exact (JO q).2.symm
 subst hu
 refine⟨h2,?_⟩
 cases hk:K.lookup a with
 | none=>exact .inl (.inr ⟨_,by rw[JX ha hk e,hoOf_tup]⟩)
 | some o=>
  have e2:=KX a o hk
  rw[e] at e2
  obtain rfl:=Option.some.inj e2
  exact .inr ⟨_,us.toArray,_,hk,rfl,rfl,by rw[yn];exact h1,by simpa using Xy h2⟩
mutual
theorem dw_one{Pm:Params}(KX:K.In h)(ar:∀ a∈A,X5 h A a):∀(d:WData)(v:Value),Well Pm h v d→plW d=true→OkU A v→Dw K (XU K h A) (toV v) d
 | .none,_,x,_,_=>by
  cases x
  exact .non
 | .bool b,_,x,_,_=>by
  cases x
  exact .bl b
 | .int i,_,x,_,_=>by
  cases x
  exact .int i
 | .str s,_,x,_,_=>by
  cases x
  exact .str s
 | .bytes b,_,x,_,_=>by
  cases x
  have z:=Dw.byt (K:=K) (H:=XU K h A) b.toArray
  exact z
 | .list ds,_,x,p,hu=>by
  obtain⟨a,vs,rfl,ho,hall⟩:=qJ x
  obtain⟨h2,hs⟩:=argL KX ar hu ho
  exact .lst hs (zW KX ar ds _ hall p h2)
 | .tuple ds,_,x,p,hu=>by
  obtain⟨a,vs,rfl,ho,hall⟩:=JZ x
  obtain⟨h2,hs⟩:=argT KX ar hu ho
  exact .tup hs (zW KX ar ds _ hall p h2)
 | .float _,_,_,p,_=>yT (show false=true from p)
 | .dict _,_,_,p,_=>yT (show false=true from p)
 | .bytearray _,_,_,p,_=>yT (show false=true from p)
 | .set _,_,_,p,_=>yT (show false=true from p)
 | .frozenset _,_,_,p,_=>yT (show false=true from p)
 | .obj _ _,_,_,p,_=>yT (show false=true from p)
theorem zW{Pm:Params}(KX:K.In h)(ar:∀ a∈A,X5 h A a):∀(ds:List WData)(vs:List Value),WellAll Pm h vs ds→JG ds=true→(∀ u∈vs,OkU A u)→X4 K (XU K h A) (vs.map toV) ds
 | [],_,x,_,_=>by
  cases x
  exact .nil
 | d::ds,_,x,p,hu=>by
  obtain⟨v,vs,rfl,x1,x2⟩:=qK x
  have q:plW d=true∧JG ds=true:=Bool.and_eq_true_iff.mp p
  exact .cons (dw_one KX ar d v x1 q.1 (hu _ (yI ..))) (zW KX ar ds vs x2 q.2 fun u m=>hu u (ym _ m))
end
end
theorem spec_call{P:Program}{w:World}{K:z8}{mg mb:Str→Option Value}{CX:CXT}{k:Nat}{fa:Addr}{fd:FuncData}{ps:List Str}{sp:Sp}{s₁:Shared}{vals:List Value}{ds:List WData}{R:PySem.W.WRecords}{cl:Str→Option Addr}{d0:WData}
  (KX:K.In s₁.heap) (hns:s₁.heap.Ns mainGlobals mg) (hb:s₁.heap.Ns builtinsNs mb) (hbb:∀ x:Str,x ≠ "__name__" → mb x=bootBuiltins x) (hlim:s₁.heap.NoLimit) (hg:s₁.gens=#[])
  (hwl:WellAll w.params s₁.heap vals ds) (hpl:JG ds=true) (hwt:∀ d∈ds,d.weight≤1048576) (hr:ZK k callerA)
  (F:∀ base:Heap,K.In base→base.Ns mainGlobals mg→QI P w K mg base CX k fa fd ps sp) (hbind:∀(s:Shared)(us:List Value),us.length=ps.length→BindsTo s fd ⟨us,[]⟩ (ps.zip us)) (hlen:ds.length=ps.length)
  (hsp:∀(H:Hp)(xs:List V),OnlyF H→X4 K H xs ds→sp xs H (fun v H'=>Dw K H' v d0) fun _ _ _=>False)
  (hCX:∀ H e s',CX [] H s₁ (fun _ _ _=>False) e s'→False) :
  codeAny (model P w) callerA (.call (.ref fa) ⟨vals,[]⟩) (fun r s'=>∃ u as,r=.ok (.ret u)∧ReadsW R cl s'.heap u d0 as∧OldK s₁.heap s'.heap∧s'.os=s₁.os∧AllBare s'.gens) s₁:=by
 obtain⟨A,ho,ar⟩:=Jg ds vals hwl hpl hwt
 have hO:OnlyF (XU K s₁.heap A):=argH_only ar
 have hok:HOk P w (XU K s₁.heap A) s₁.heap:=argH_ok ar
 have hS:=zW KX ar ds vals hwl hpl ho
 have hV:=Xy ho
 have hK:∀ b u,XU K s₁.heap A b=some u→K.lookup b=none:=fun b u q=>(JW ar q).1
 have noA:∀ {b:Addr} {o:Obj} {es:Array DictEntry} {ep:Nat},s₁.heap.get? b=some o→o.data=.dict es ep→XU K s₁.heap A b=none:=fun {b o es ep} e d=>by
  cases q:XU K s₁.heap A b with
  | none=>rfl
  | some u=>
   obtain⟨_,vs,_,_,⟨e2,_⟩ | ⟨e2,_⟩⟩:=JW ar q
   ·rw[e2] at e
    cases e
    have d':Data.seq vs.toArray _=Data.dict es ep:=d
    cases d'
   ·rw[e2] at e
    cases e
    have d':Data.seq vs.toArray _=Data.dict es ep:=d
    cases d'
 generalize XU K s₁.heap A=H at hO hok hS hK noA
 have base_of:∀ {b:Addr} {o:Obj},s₁.heap.get? b=some o→H b=none→(zQ s₁.heap H).get? b=some o:=fun e n=>hidT_get e n
 have nsK:∀ {b:Addr} {m:Str→Option Value},s₁.heap.Ns b m→(zQ s₁.heap H).Ns b m:=fun {b m} ⟨o,es,ep,e,d,r⟩=>⟨o,es,ep,base_of e (noA e d),d,r⟩
 have nK:∀ b o,K.lookup b=some o→H b=none:=fun b o e=>by
  cases q:H b with
  | none=>rfl
  | some u=>
   rw[hK b u q] at e
   cases e
 have hKb:K.In (zQ s₁.heap H):=fun b o e=>base_of (KX b o e) (nK b o e)
 have hM:Mod K mg (zQ s₁.heap H):=⟨hKb,nsK hns,⟨mb,nsK hb,hbb⟩,let ⟨mc,h1,h2⟩:=hlim;⟨mc,nsK h1,h2⟩⟩
 have e0:Env0 P w K mg (zQ s₁.heap H) callerA [] s₁ H:=⟨rfl,hM,fun b o e=>of_hidT e,GJ (hidT_size _ _),trivial,fun b hb=>absurd (show b∈([]:List Addr) from hb) (by simp),hok,.of_eq hg⟩
 have hl:vals.length=ps.length:=by rw[Xi hwl];exact hlen
 refine codeAny_mono ((F _ hKb (nsK hns)).run callerA [] s₁ H ⟨vals,[]⟩ vals (vals.map toV) _ _ hr e0 (hbind s₁ vals hl) hV (hsp H _ hO hS)) fun r s' x=>?_
 cases r with
 | error e=>exact (hCX H e s' x).elim
 | ok fl=>
  cases fl with
  | next=>exact False.elim x
  | brk=>exact False.elim x
  | cont=>exact False.elim x
  | ret u=>
   obtain⟨v,H',os,bare,un,hok',r',q⟩:=x
   have kept:∀ b o,s₁.heap.get? b=some o→s'.heap.get? b=some o:=fun b o e=>by
    cases q2:H b with
    | none=>exact un.keep b o e q2 (by intro z;exact absurd (show b∈([]:List Addr) from z) (by simp)) (by simp)
    | some u2=>
     rcases hO b with z | ⟨ob,u3,z⟩
     ·rw[q2] at z
      cases z
     ·have z2:=un.frzs b ob _ z
      obtain⟨e1,_⟩:=hok b _ z
      obtain⟨e2,_⟩:=hok' b _ z2
      rw[e] at e1
      cases e1
      exact e2
   have KX':K.In s'.heap:=fun b o e=>kept b o (KX b o e)
   obtain⟨as,hrd⟩:=Dw.reads (R:=R) (cl:=cl) hok' KX' d0 v u q r'
   exact⟨u,as,rfl,hrd,OldK.of_keep kept,os,bare⟩
theorem qf{ds:List WData}(h:WData.layableAll ds=true):∀ d∈ds,d.weight≤1048576:=fun d hd=>
 (PySem.W.layableW_iff.mp (List.all_eq_true.mp h d hd)).2.2
theorem qm:∀(cs:List Codec)(a:Codec.denoteAll cs),(Codec.encAll cs a).length=cs.length
 | [],_=>rfl
 | c::cs,a=>by
  show (Codec.encAll cs a.2).length+1=cs.length+1
  rw[qm cs a.2]
theorem walk_spec{r:OpenSpec}{k:Nat}{q:Program}{loose:List Str} {XP:(Str→Option Value)→Heap→Prop} {YP:World→Heap→Prop} {d:DefRec} {K:Params→z8} {CX:World→CXT} {ps:List Str} {sp:World→Sp}
  (hwell:r.wellSaid=true) (hdf:d.params.defaults=[]) (hlen:r.args.length=ps.length) (hr:ZK k callerA)
  (hY:∀(w:World)(h:Heap),YP w h→(K w.params).In h)
  (F:∀(w:World)(mg:Str→Option Value)(fa:Addr)(h:Heap),YP w h→(K w.params).In h→h.Ns mainGlobals mg→mg d.name=some (.ref fa)→
   ∃ fd:FuncData,(∀(s:Shared)(us:List Value),us.length=ps.length→BindsTo s fd ⟨us,[]⟩ (ps.zip us))∧
    ∀ base:Heap,(K w.params).In base→base.Ns mainGlobals mg→QI r.prog w (K w.params) mg base (CX w) k fa fd ps (sp w))
  (hsp:∀(w:World)(H:Hp)(xs:List V)(a:Codec.denoteAll r.args),OnlyF H→Codec.withinAll r.args a=true→Codec.app r.args r.asked a=true→X4 (K w.params) H xs (Codec.encAll r.args a)→
   sp w xs H (fun v H'=>Dw (K w.params) H' v (r.ret.enc (Codec.app r.args r.f a))) fun _ _ _=>False)
  (hCX:∀(w:World)(H:Hp)(s:Shared)(e:Value)(s':Shared),CX w [] H s (fun _ _ _=>False) e s'→False) :
  PySem.W.WalkOS q loose XP YP r d [] (fun f vs=>PySem.call f vs):=by
 intro w s_0 s₁ mg mb G Y fa o pm cd doc dV kV ho hd hcd hD hmg hg args vals as hpre hlay hrd hwl hlo
 obtain⟨a,e1,e2⟩:=PySem.W.os_pre_some hpre
 obtain⟨e3,hwi⟩:=Codec.encAll_of_decAll r.args args a e1
 subst e3
 have KX:=hY w _ Y
 obtain⟨fd,hb,hF⟩:=F w mg fa _ Y KX G.T.g hmg
 refine PySem.W.enter_call (codeAny_mono (spec_call (R:=[]) (cl:=classAt s_0.heap) (d0:=r.ret.enc (Codec.app r.args r.f a)) KX G.T.g G.T.b G.T.builtins G.T.nolimit hg hwl (qW _ _) (qf hlay) hr hF hb (by rw[qm];exact hlen)
  (fun H xs hO hS=>hsp w H xs a hO hwi e2 hS) fun H e s'=>hCX w H s₁ e s') fun r' s' hq=>?_)
 obtain⟨u,as',rfl,h1,h2,h3,h4⟩:=hq
 exact⟨.inl ⟨u,_,as',rfl,fun _=>rfl,h1,(OpenSpec.post_iff hwell hwi _ _).mpr rfl,fun z=>yT (show false=true from z)⟩,h2,h3,h4⟩
theorem walk_specK{r:OpenSpec}{k:Nat}{q:Program}{loose:List Str} {XP:(Str→Option Value)→Heap→Prop} {YP:World→Heap→Prop} {d:DefRec} {K:Params→z8} {CX:CXT} {ps:List Str} {sp:z8→Sp}
  (hwell:r.wellSaid=true) (hdf:d.params.defaults=[]) (hlen:r.args.length=ps.length) (hr:ZK k callerA)
  (hY:∀(w:World)(h:Heap),YP w h→(K w.params).In h)
  (F:∀(w:World)(mg:Str→Option Value)(fa:Addr)(h:Heap),YP w h→(K w.params).In h→h.Ns mainGlobals mg→mg d.name=some (.ref fa)→
   ∃ fd:FuncData,(∀(s:Shared)(us:List Value),us.length=ps.length→BindsTo s fd ⟨us,[]⟩ (ps.zip us))∧
    ∀ base:Heap,(K w.params).In base→base.Ns mainGlobals mg→QI r.prog w (K w.params) mg base CX k fa fd ps (sp (K w.params)))
  (hsp:∀(K:z8)(H:Hp)(xs:List V)(a:Codec.denoteAll r.args),OnlyF H→Codec.withinAll r.args a=true→Codec.app r.args r.asked a=true→X4 K H xs (Codec.encAll r.args a)→
   sp K xs H (fun v H'=>Dw K H' v (r.ret.enc (Codec.app r.args r.f a))) fun _ _ _=>False)
  (hCX:∀(H:Hp)(s:Shared)(e:Value)(s':Shared),CX [] H s (fun _ _ _=>False) e s'→False) :
  PySem.W.WalkOS q loose XP YP r d [] (fun f vs=>PySem.call f vs):=
 walk_spec (K:=K) (CX:=fun _=>CX) (sp:=fun w=>sp (K w.params)) hwell hdf hlen hr hY F (fun w H xs a h1 h2 h3 h4=>hsp (K w.params) H xs a h1 h2 h3 h4) fun _ H s e s'=>hCX H s e s'
end L2
end
namespace Pl
def su{α:Type}(l:List α)(f:α→Int):Int:=l.foldr (fun a b=>f a+b) 0
theorem ZB{α:Type}(f:α→Int):su [] f=0:=rfl
theorem QN{α:Type}(a:α)(l:List α)(f:α→Int):su (a::l) f=f a+su l f:=rfl
theorem XB{α:Type}(l m:List α)(f:α→Int):su (l++m) f=su l f+su m f:=by
 induction l with
 | nil=>simp[ZB]
 | cons a l ih=>simp only[List.cons_append,QN,ih];lia
theorem Qk{α:Type}{l:List α}{f g:α→Int}(h:∀ a∈l,f a=g a):su l f=su l g:=by
 induction l with
 | nil=>rfl
 | cons a l ih=>rw[QN,QN,h a (by simp),ih (fun x hx=>h x (by simp[hx]))]
theorem Zu{α:Type}(l:List α)(f g:α→Int):su l (fun a=>f a+g a)=su l f+su l g:=by
 induction l with
 | nil=>rfl
 | cons a l ih=>simp only[QN,ih];lia
theorem Z5{α:Type}(l:List α)(f g:α→Int):su l (fun a=>f a-g a)=su l f-su l g:=by
 induction l with
 | nil=>rfl
 | cons a l ih=>simp only[QN,ih];lia
theorem zt{α:Type}(l:List α)(f:α→Int):su l (fun a=>- f a) = - su l f:=by
 induction l with
 | nil=>rfl
 | cons a l ih=>simp only[QN,ih];lia
theorem Z6{α:Type}(l:List α)(c:Int)(f:α→Int):su l (fun a=>c*f a)=c*su l f:=by
 induction l with
 | nil=>simp[ZB]
 | cons a l ih=>simp only[QN,ih,Int.mul_add]
theorem zr{α:Type}(l:List α):su l (fun _=>0)=0:=by
 induction l with
 | nil=>rfl
 | cons a l ih=>simp only[QN,ih];lia
theorem QX{α:Type}{l:List α}{f:α→Int}(h:∀ a∈l,f a=0):su l f=0:=by
 rw[Qk h,zr]
theorem Xj{α β:Type}(l:List α)(m:List β)(f:α→β→Int) :
  su l (fun a=>su m (fun b=>f a b))=su m (fun b=>su l (fun a=>f a b)):=by
 induction l with
 | nil=>simp only[ZB];exact (zr m).symm
 | cons a l ih=>simp only[QN,ih];exact (Zu m _ _).symm
theorem qN{α:Type}{l:List α}{f:α→Int}(h:∀ a∈l,0≤f a):0≤su l f:=by
 induction l with
 | nil=>simp[ZB]
 | cons a l ih=>
  have h1:=h a (by simp)
  have h2:=ih (fun x hx=>h x (by simp[hx]))
  rw[QN];lia
theorem su_pos{α:Type}{l:List α}{f:α→Int}(h:∀ a∈l,0≤f a){x:α}(hx:x∈l)(hp:0<f x):0<su l f:=by
 induction l with
 | nil=>simp at hx
 | cons a l ih=>
  have h1:=h a (by simp)
  have h2:=qN (l:=l) (f:=f) (fun x hx=>h x (by simp[hx]))
  rw[QN]
  rcases List.mem_cons.1 hx with rfl | hx
  ·lia
  ·have:=ih (fun x hx=>h x (by simp[hx])) hx
   lia
theorem su_eq_zero{α:Type}{l:List α}{f:α→Int}(h:∀ a∈l,0≤f a)(h0:su l f=0):∀ x∈l,f x=0:=by
 intro x hx
 have h1:=h x hx
 rcases Int.lt_or_eq_of_le h1 with h2 | h2
 ·have:=su_pos h hx h2;lia
 ·exact h2.symm
theorem su_perm{α:Type}{l m:List α}(h:l.Perm m)(f:α→Int):su l f=su m f:=by
 induction h with
 | nil=>rfl
 | cons a _ ih=>simp only[QN,ih]
 | swap a b l=>simp only[QN];lia
 | trans _ _ h1 h2=>rw[h1,h2]
theorem su_map{α β:Type}(l:List α)(g:α→β)(f:β→Int):su (l.map g) f=su l (fun a=>f (g a)):=by
 induction l with
 | nil=>rfl
 | cons a l ih=>simp only[yD,QN,ih]
theorem XA{α:Type} [DecidableEq α] {l:List α} {x:α} (hx:x∈l) (f:α→Int):su l f=f x+su (l.erase x) f:=by
 rw[su_perm (List.perm_cons_erase hx) f,QN]
theorem ZA{α:Type} [DecidableEq α] {l:List α} (hn:l.Nodup) {x:α} (hx:x∈l) (f:α→Int) :
  su l (fun a=>if a=x then f a else 0)=f x:=by
 rw[XA hx,if_pos rfl,QX (fun a ha=>?_)]
 ·lia
 ·have:a≠x:=by
   intro e;subst e
   exact (List.Nodup.not_mem_erase hn) ha
  rw[if_neg this]
theorem su_none{α:Type} [DecidableEq α] {l:List α} {x:α} (hx:x∉l) (f:α→Int) :
  su l (fun a=>if a=x then f a else 0)=0:=by
 apply QX
 intro a ha
 have:a≠x:=by intro e;subst e;exact hx ha
 rw[if_neg this]
theorem su_filter{α:Type}(l:List α)(p:α→Bool)(f:α→Int):su (l.filter p) f=su l (fun a=>if p a=true then f a else 0):=by
 induction l with
 | nil=>rfl
 | cons a l ih=>
  by_cases h:p a=true
  ·rw[yS h,QN,QN,ih,if_pos h]
  ·rw[jf h,QN,ih,if_neg h];lia
theorem solve{α:Type} [DecidableEq α]:∀ (I:List (α→Int)) (J:List α),J.Nodup→I.length<J.length→
  ∃ c:α→Int,(∃ j∈J,c j≠0)∧∀ r∈I,su J (fun j=>r j*c j)=0:=by
 intro I
 generalize hk:I.length=k
 induction k generalizing I with
 | zero=>
  intro J hn hl
  have:I=[]:=by cases I <;> simp_all
  subst this
  refine⟨fun _=>1,?_,by simp⟩
  cases J with
  | nil=>simp at hl
  | cons j J=>exact⟨j,by simp,by simp⟩
 | succ k ih=>
  intro J hn hl
  obtain⟨r,I',rfl⟩:∃ r I',I=r::I':=by cases I with
   | nil=>simp at hk
   | cons r I'=>exact⟨r,I',rfl⟩
  simp only[yx,Nat.add_right_cancel_iff] at hk
  by_cases hz:∀ j∈J,r j=0
  ·obtain⟨c,h1,h2⟩:=ih I' hk J hn (by lia)
   refine⟨c,h1,?_⟩
   intro q hq
   rcases List.mem_cons.1 hq with rfl | hq
   ·exact QX (fun j hj=>by rw[hz j hj,jA])
   ·exact h2 q hq
  ·obtain⟨j0,hj0,hr0⟩:∃ j0,j0∈J∧r j0≠0:=by
    apply yf
    intro hc
    apply hz
    intro j hj
    apply yf
    intro hne
    exact hc ⟨j,hj,hne⟩
   have hlen:(J.erase j0).length=J.length-1:=jn hj0
   obtain⟨c,⟨j1,hj1,hc1⟩,h2⟩:=ih (I'.map (fun q j=>r j0*q j-r j*q j0)) (by simp[hk]) (J.erase j0) (hn.erase j0) (by lia)
   have hne1:j1≠j0:=by
    intro e;subst e
    exact (List.Nodup.not_mem_erase hn) hj1
   refine⟨fun j=>if j=j0 then-su (J.erase j0) (fun j=>r j*c j) else r j0*c j,⟨j1,jd hj1,?_⟩,?_⟩
   ·simp only[if_neg hne1]
    exact Int.mul_ne_zero hr0 hc1
   ·intro q hq
    have key:su J (fun j=>q j*(if j=j0 then-su (J.erase j0) (fun j=>r j*c j) else r j0*c j))
      = q j0*(- su (J.erase j0) (fun j=>r j*c j))+su (J.erase j0) (fun j=>q j*(r j0*c j)):=by
     rw[XA hj0]
     simp only[if_true]
     congr 1
     apply Qk
     intro j hj
     have:j≠j0:=by
      intro e;subst e
      exact (List.Nodup.not_mem_erase hn) hj
     rw[if_neg this]
    show su J _=0
    rw[key]
    rcases List.mem_cons.1 hq with rfl | hq
    ·have:su (J.erase j0) (fun j=>q j*(q j0*c j))=q j0*su (J.erase j0) (fun j=>q j*c j):=by
      rw[←Z6]
      apply Qk
      intro j _
      rw[Go]
     rw[this,Int.mul_neg];lia
    ·have h3:=h2 (fun j=>r j0*q j-r j*q j0) (List.mem_map.2 ⟨q,hq,rfl⟩)
     have:su (J.erase j0) (fun j=>q j*(r j0*c j))-q j0*su (J.erase j0) (fun j=>r j*c j)=0:=by
      rw[←h3,←Z6,←Z5]
      apply Qk
      intro j _
      rw[GU,←x4,xn (q j) (r j0),←x4,xn (q j0) (r j)]
     rw[Int.mul_neg];lia
end Pl
namespace Pl
structure Dr where
 X:Nat→Int
 Y:Nat→Int
 E:List (Nat×Nat)
 s:Nat×Nat→Int
 D:Int
def Dr.h(K:Dr)(e:Nat×Nat)(t:Int):Int:=2*(K.D*K.Y e.1)+K.s e*(t-2*K.X e.1)
abbrev Dr.act(K:Dr)(e:Nat×Nat)(t:Int):Prop:=K.X e.1≤t∧t<K.X e.2
def Dr.below(K : Dr)(e f : Nat × Nat) : Prop :=
  K.h e (2 * max (K.X e.1) (K.X f.1)) ≤ K.h f (2 * max (K.X e.1) (K.X f.1)) ∧
  K.h e (2 * min (K.X e.2) (K.X f.2)) ≤ K.h f (2 * min (K.X e.2) (K.X f.2)) ∧
  (K.h e (2 * max (K.X e.1) (K.X f.1)) < K.h f (2 * max (K.X e.1) (K.X f.1)) ∨
   K.h e (2 * min (K.X e.2) (K.X f.2)) < K.h f (2 * min (K.X e.2) (K.X f.2)))
structure Dr.Ok(K:Dr):Prop where
 dpos:0<K.D
 nodup:K.E.Nodup
 left:∀ e∈K.E,K.X e.1<K.X e.2
 slope:∀ e∈K.E,K.D*K.Y e.2=K.D*K.Y e.1+K.s e*(K.X e.2-K.X e.1)
 inj:∀ e∈K.E,∀ f∈K.E,(K.X e.1=K.X f.1→e.1=f.1)∧(K.X e.1=K.X f.2→e.1=f.2)∧(K.X e.2=K.X f.2→e.2=f.2)
 cross:∀ e∈K.E,∀ f∈K.E,e≠f→max (K.X e.1) (K.X f.1)<min (K.X e.2) (K.X f.2)→K.below e f∨K.below f e
 clear:∀ e∈K.E,∀ f∈K.E,(K.X e.1<K.X f.1→K.X f.1<K.X e.2→K.h e (2*K.X f.1)≠2*(K.D*K.Y f.1))∧
  (K.X e.1<K.X f.2→K.X f.2<K.X e.2→K.h e (2*K.X f.2)≠2*(K.D*K.Y f.2))
theorem lin_lt{A B p q t:Int}(hp:p<t)(hq:t<q)(h1:A+B*p≤0)(h2:A+B*q≤0)(h3:A+B*p<0∨A+B*q<0):A+B*t<0:=by
 have e:(q-p)*(A+B*t)=(q-t)*(A+B*p)+(t-p)*(A+B*q):=by grind
 have a1:(q-t)*(A+B*p)≤0:=yL (by lia) h1
 have a2:(t-p)*(A+B*q)≤0:=yL (by lia) h2
 have a3:(q-p)*(A+B*t)<0:=by
  rcases h3 with h3 | h3
  ·have:(q-t)*(A+B*p)<0:=yN (by lia) h3
   lia
  ·have:(t-p)*(A+B*q)<0:=yN (by lia) h3
   lia
 apply yf
 intro hc
 have:0≤(q-p)*(A+B*t):=jN (by lia) (by lia)
 lia
theorem Dr.h_sub(K:Dr)(e f:Nat×Nat)(t:Int):K.h e t-K.h f t=(K.h e 0-K.h f 0)+(K.s e-K.s f)*t:=by
 unfold Dr.h;grind
theorem Dr.below_lt{K:Dr}{e f:Nat×Nat}(h:K.below e f){t:Int}
  (h1:2*K.X e.1<t) (h2:2*K.X f.1<t) (h3:t<2*K.X e.2) (h4:t<2*K.X f.2):K.h e t<K.h f t:=by
 obtain⟨a,b,c⟩:=h
 have e0:=K.h_sub e f t
 have e1:=K.h_sub e f (2*max (K.X e.1) (K.X f.1))
 have e2:=K.h_sub e f (2*min (K.X e.2) (K.X f.2))
 have:=lin_lt (A:=K.h e 0-K.h f 0) (B:=K.s e-K.s f) (p:=2*max (K.X e.1) (K.X f.1)) (q:=2*min (K.X e.2) (K.X f.2)) (t:=t)
  (by lia) (by lia) (by lia) (by lia) (by lia)
 lia
theorem Dr.h_left(K:Dr)(e:Nat×Nat):K.h e (2*K.X e.1)=2*(K.D*K.Y e.1):=by
 unfold Dr.h;grind
theorem Dr.Ok.h_right{K:Dr}(O:K.Ok){e:Nat×Nat}(he:e∈K.E):K.h e (2*K.X e.2)=2*(K.D*K.Y e.2):=by
 have:=O.slope e he
 unfold Dr.h;grind
theorem Dr.Ok.order{K:Dr}(O:K.Ok){e f:Nat×Nat}(he:e∈K.E)(hf:f∈K.E){t u:Int}
  (h1:2*K.X e.1<t) (h2:2*K.X f.1<t) (h3:t<2*K.X e.2) (h4:t<2*K.X f.2)
  (k1:2*K.X e.1<u) (k2:2*K.X f.1<u) (k3:u<2*K.X e.2) (k4:u<2*K.X f.2) :
  (K.h e t<K.h f t↔K.h e u<K.h f u):=by
 by_cases hne:e=f
 ·subst hne;lia
 ·rcases O.cross e he f hf hne (by lia) with hb | hb
  ·have:=Dr.below_lt hb h1 h2 h3 h4
   have:=Dr.below_lt hb k1 k2 k3 k4
   lia
  ·have:=Dr.below_lt hb h2 h1 h4 h3
   have:=Dr.below_lt hb k2 k1 k4 k3
   lia
theorem Dr.Ok.distinct{K:Dr}(O:K.Ok){e f:Nat×Nat}(he:e∈K.E)(hf:f∈K.E)(hne:e≠f){t:Int}
  (h1:2*K.X e.1<t) (h2:2*K.X f.1<t) (h3:t<2*K.X e.2) (h4:t<2*K.X f.2):K.h e t≠K.h f t:=by
 rcases O.cross e he f hf hne (by lia) with hb | hb
 ·have:=Dr.below_lt hb h1 h2 h3 h4
  lia
 ·have:=Dr.below_lt hb h2 h1 h4 h3
  lia
theorem lin_near{A B p q t:Int}(hp:p<t)(hq:t<q)(h1:A+B*p≤0)(h2:A+B*q≤0):A+B*t≤0:=by
 have e:(q-p)*(A+B*t)=(q-t)*(A+B*p)+(t-p)*(A+B*q):=by grind
 have a1:(q-t)*(A+B*p)≤0:=yL (by lia) h1
 have a2:(t-p)*(A+B*q)≤0:=yL (by lia) h2
 apply yf
 intro hc
 have:0<(q-p)*(A+B*t):=jX (by lia) (by lia)
 lia
theorem Dr.Ok.in_order{K:Dr}(O:K.Ok){i e:Nat×Nat}(hi:i∈K.E)(he:e∈K.E)
  (p1:K.X e.1<K.X i.2) (p2:K.X i.2<K.X e.2) {t:Int}
  (h1:2*K.X i.1<t) (h2:2*K.X e.1<t) (h3:t<2*K.X i.2) :
  (K.h i t<K.h e t↔2*(K.D*K.Y i.2)<K.h e (2*K.X i.2)):=by
 have hne:i≠e:=by intro h;subst h;lia
 have hl:=O.left i hi
 have hx:=(O.clear e he i hi).2 p1 p2
 have hr:=O.h_right hi
 have hm:min (K.X i.2) (K.X e.2)=K.X i.2:=by lia
 have hm':min (K.X e.2) (K.X i.2)=K.X i.2:=by lia
 rcases O.cross i hi e he hne (by lia) with hb | hb
 ·have a:=Dr.below_lt hb h1 h2 h3 (by lia)
  have b:=hb.2.1
  rw[hm] at b
  lia
 ·have a:=Dr.below_lt hb h2 h1 (by lia) h3
  have b:=hb.2.1
  rw[hm'] at b
  lia
theorem Dr.Ok.out_order{K:Dr}(O:K.Ok){o e:Nat×Nat}(ho:o∈K.E)(he:e∈K.E)
  (p1:K.X e.1<K.X o.1) (p2:K.X o.1<K.X e.2) {t:Int}
  (h1:t<2*K.X o.2) (h2:t<2*K.X e.2) (h3:2*K.X o.1<t) :
  (K.h o t<K.h e t↔2*(K.D*K.Y o.1)<K.h e (2*K.X o.1)):=by
 have hne:o≠e:=by intro h;subst h;lia
 have hl:=O.left o ho
 have hx:=(O.clear e he o ho).1 p1 p2
 have hr:=K.h_left o
 have hm:max (K.X o.1) (K.X e.1)=K.X o.1:=by lia
 have hm':max (K.X e.1) (K.X o.1)=K.X o.1:=by lia
 rcases O.cross o ho e he hne (by lia) with hb | hb
 ·have a:=Dr.below_lt hb h3 (by lia) h1 h2
  have b:=hb.1
  rw[hm] at b
  lia
 ·have a:=Dr.below_lt hb (by lia) h3 h2 h1
  have b:=hb.1
  rw[hm'] at b
  lia
end Pl
namespace Pl
def Dr.Cons(K:Dr)(N:Nat×Nat→Int):Prop:=∀ v:Nat,
 su K.E (fun m=>if m.2=v then N m else 0)=su K.E (fun m=>if m.1=v then N m else 0)
def Dr.bl(K:Dr)(N:Nat×Nat→Int)(e:Nat×Nat)(t:Int):Int:=
 su K.E (fun m=>if K.act m t∧K.h m (2*t+1)<K.h e (2*t+1) then N m else 0)
theorem Dr.Ok.inj12{K:Dr}(O:K.Ok){e f:Nat×Nat}(he:e∈K.E)(hf:f∈K.E):K.X e.1=K.X f.2↔e.1=f.2:=
 ⟨(O.inj e he f hf).2.1,fun h=>by rw[h]⟩
theorem Dr.Ok.inj11{K:Dr}(O:K.Ok){e f:Nat×Nat}(he:e∈K.E)(hf:f∈K.E):K.X e.1=K.X f.1↔e.1=f.1:=
 ⟨(O.inj e he f hf).1,fun h=>by rw[h]⟩
theorem Dr.Ok.inj22{K:Dr}(O:K.Ok){e f:Nat×Nat}(he:e∈K.E)(hf:f∈K.E):K.X e.2=K.X f.2↔e.2=f.2:=
 ⟨(O.inj e he f hf).2.2,fun h=>by rw[h]⟩
def Dr.isEnd(K:Dr)(v:Nat):Prop:=∃ m∈K.E,m.1=v∨m.2=v
theorem Dr.Ok.end1{K:Dr}(O:K.Ok){v:Nat}(hv:K.isEnd v){m:Nat×Nat}(hm:m∈K.E):K.X m.1=K.X v↔m.1=v:=by
 obtain⟨f,hf,rfl | rfl⟩:=hv
 ·exact O.inj11 hm hf
 ·exact O.inj12 hm hf
theorem Dr.Ok.end2{K:Dr}(O:K.Ok){v:Nat}(hv:K.isEnd v){m:Nat×Nat}(hm:m∈K.E):K.X m.2=K.X v↔m.2=v:=by
 obtain⟨f,hf,rfl | rfl⟩:=hv
 ·have:=O.inj12 hf hm
  constructor
  ·intro h;exact (this.1 h.symm).symm
  ·intro h;rw[h]
 ·exact O.inj22 hm hf
theorem Dr.Ok.bl_step{K:Dr}(O:K.Ok){N:Nat×Nat→Int}(C:K.Cons N){e:Nat×Nat}(he:e∈K.E){t:Int}
  (h1:K.act e t) (h2:K.act e (t+1)):K.bl N e t=K.bl N e (t+1):=by
 have same:∀ m∈K.E,K.X m.1≠t+1→K.X m.2≠t+1→
   ((K.act m t∧K.h m (2*t+1)<K.h e (2*t+1))↔(K.act m (t+1)∧K.h m (2*(t+1)+1)<K.h e (2*(t+1)+1))):=by
  intro m hm n1 n2
  unfold Dr.act at *
  by_cases ha:K.X m.1≤t∧t<K.X m.2
  ·have:=O.order hm he (t:=2*t+1) (u:=2*(t+1)+1) (by lia) (by lia) (by lia) (by lia) (by lia) (by lia) (by lia) (by lia)
   constructor
   ·intro h;exact⟨by lia,this.1 h.2⟩
   ·intro h;exact⟨by lia,this.2 h.2⟩
  ·constructor
   ·intro h;exact absurd h.1 ha
   ·intro h;exact absurd h.1 (by lia)
 by_cases hv:∃ v,K.isEnd v∧K.X v=t+1
 ·obtain⟨v,hv,hx⟩:=hv
  have hc:=C v
  let U:Bool:=decide (2*(K.D*K.Y v)<K.h e (2*K.X v))
  have key:∀ m∈K.E,(if K.act m t∧K.h m (2*t+1)<K.h e (2*t+1) then N m else 0) =
    (if K.act m (t+1)∧K.h m (2*(t+1)+1)<K.h e (2*(t+1)+1) then N m else 0)
    + (if U then 1 else 0)*((if m.2=v then N m else 0)-(if m.1=v then N m else 0)):=by
   intro m hm
   have hl:=O.left m hm
   by_cases q2:m.2=v
   ·have q1:m.1≠v:=by intro h;rw[h,q2] at hl;lia
    have i:=O.in_order (i:=m) (e:=e) hm he (by rw[q2];unfold Dr.act at *;lia) (by rw[q2];unfold Dr.act at *;lia) (t:=2*t+1)
     (by rw[q2] at hl;lia) (by unfold Dr.act at *;lia) (by rw[q2];lia)
    rw[q2] at i hl
    have n2:¬ (K.act m (t+1)∧K.h m (2*(t+1)+1)<K.h e (2*(t+1)+1)):=by
     intro h;have:=h.1;unfold Dr.act at this;rw[q2] at this;lia
    have a:K.act m t:=by unfold Dr.act;rw[q2];lia
    rw[if_neg n2,if_pos q2,if_neg q1]
    by_cases u:2*(K.D*K.Y v)<K.h e (2*K.X v)
    ·rw[if_pos ⟨a,i.2 u⟩];simp[U,u]
    ·rw[if_neg (fun h=>u (i.1 h.2))];simp[U,u]
   ·by_cases q1:m.1=v
    ·have i:=O.out_order (o:=m) (e:=e) hm he (by rw[q1];unfold Dr.act at *;lia) (by rw[q1];unfold Dr.act at *;lia) (t:=2*(t+1)+1)
      (by rw[q1] at hl;lia) (by unfold Dr.act at *;lia) (by rw[q1];lia)
     rw[q1] at i hl
     have n2:¬ (K.act m t∧K.h m (2*t+1)<K.h e (2*t+1)):=by
      intro h;have:=h.1;unfold Dr.act at this;rw[q1] at this;lia
     have a:K.act m (t+1):=by unfold Dr.act;rw[q1];lia
     rw[if_neg n2,if_neg q2,if_pos q1]
     by_cases u:2*(K.D*K.Y v)<K.h e (2*K.X v)
     ·rw[if_pos ⟨a,i.2 u⟩];simp[U,u];lia
     ·rw[if_neg (fun h=>u (i.1 h.2))];simp[U,u]
    ·have a1:K.X m.1≠t+1:=by rw[←hx];exact fun h=>q1 ((O.end1 hv hm).1 h)
     have a2:K.X m.2≠t+1:=by rw[←hx];exact fun h=>q2 ((O.end2 hv hm).1 h)
     rw[if_neg q1,if_neg q2]
     simp only[same m hm a1 a2]
     lia
  unfold Dr.bl
  rw[Qk key,Zu,Z6,Z5,hc]
  omega
 ·unfold Dr.bl
  apply Qk
  intro m hm
  have a1:K.X m.1≠t+1:=fun h=>hv ⟨m.1,⟨m,hm,Or.inl rfl⟩,h⟩
  have a2:K.X m.2≠t+1:=fun h=>hv ⟨m.2,⟨m,hm,Or.inr rfl⟩,h⟩
  simp only[same m hm a1 a2]
theorem Dr.Ok.bl_nat{K:Dr}(O:K.Ok){N:Nat×Nat→Int}(C:K.Cons N){e:Nat×Nat}(he:e∈K.E){t:Int}
  (h1:K.act e t) (k:Nat) (h2:K.act e (t+k)):K.bl N e t=K.bl N e (t+k):=by
 induction k with
 | zero=>simp
 | succ k ih=>
  have h3:K.act e (t+k):=by unfold Dr.act at *;lia
  rw[ih h3]
  have:=O.bl_step C he h3 (by unfold Dr.act at *;lia)
  rw[this]
  congr 1
  lia
theorem Dr.Ok.bl_const{K:Dr}(O:K.Ok){N:Nat×Nat→Int}(C:K.Cons N){e:Nat×Nat}(he:e∈K.E){t u:Int}
  (h1:K.act e t) (h2:K.act e u):K.bl N e t=K.bl N e u:=by
 rcases Ug t u with h | h
 ·have:=O.bl_nat C he h1 (u-t).toNat (by rw[xX (by lia)];rwa [show t+(u-t)=u by lia])
  rw[xX (by lia),show t+(u-t)=u by lia] at this
  exact this
 ·have:=O.bl_nat C he h2 (t-u).toNat (by rw[xX (by lia)];rwa [show u+(t-u)=t by lia])
  rw[xX (by lia),show u+(t-u)=t by lia] at this
  exact this.symm
def Dr.base(K:Dr)(N:Nat×Nat→Int)(v:Nat):Int:=
 su K.E (fun m=>if K.X m.1<K.X v∧K.X v<K.X m.2∧K.h m (2*K.X v)<2*(K.D*K.Y v) then N m else 0)
theorem Dr.h_before{K:Dr}(O:K.Ok){e:Nat×Nat}(he:e∈K.E)(k:Int):K.h e (2*K.X e.2-k)=2*(K.D*K.Y e.2)-K.s e*k:=by
 have:=O.slope e he
 unfold Dr.h;grind
theorem Dr.h_behind(K:Dr)(e:Nat×Nat)(k:Int):K.h e (2*K.X e.1+k)=2*(K.D*K.Y e.1)+K.s e*k:=by
 unfold Dr.h;grind
theorem Dr.Ok.bl_in{K:Dr}(O:K.Ok)(N:Nat×Nat→Int){i:Nat×Nat}(hi:i∈K.E) :
  K.bl N i (K.X i.2-1)=K.base N i.2+su K.E (fun m=>if m.2=i.2∧K.s i<K.s m then N m else 0):=by
 unfold Dr.bl Dr.base
 rw[←Zu]
 apply Qk
 intro m hm
 have hl:=O.left m hm
 have hli:=O.left i hi
 have hh:=Dr.h_before O hi 1
 by_cases q:m.2=i.2
 ·have hb:=Dr.h_before O hm 1
  rw[q] at hb hl
  have n1:¬ (K.X m.1<K.X i.2∧K.X i.2<K.X m.2∧K.h m (2*K.X i.2)<2*(K.D*K.Y i.2)):=by rw[q];lia
  rw[if_neg n1,show 2*(K.X i.2-1)+1=2*K.X i.2-1 by lia]
  unfold Dr.act
  rw[q]
  by_cases c:K.s i<K.s m
  ·rw[if_pos (by lia),if_pos (by simp[c])];lia
  ·rw[if_neg (by lia),if_neg (by simp[c])];rfl
 ·have hx:K.X m.2≠K.X i.2:=fun h=>q ((O.inj22 hm hi).1 h)
  rw[if_neg (c:=m.2=i.2∧K.s i<K.s m) (by simp[q])]
  by_cases a:K.X m.1<K.X i.2∧K.X i.2<K.X m.2
  ·have io:=O.in_order (i:=i) (e:=m) hi hm a.1 a.2 (t:=2*(K.X i.2-1)+1) (by lia) (by lia) (by lia)
   have cl:=(O.clear m hm i hi).2 a.1 a.2
   have di:=O.distinct hi hm (by intro h;subst h;exact q rfl) (t:=2*(K.X i.2-1)+1) (by lia) (by lia) (by lia) (by lia)
   unfold Dr.act
   by_cases c:K.h m (2*K.X i.2)<2*(K.D*K.Y i.2)
   ·rw[if_pos (by lia),if_pos ⟨a.1,a.2,c⟩];lia
   ·rw[if_neg (by lia),if_neg (by lia)];rfl
  ·unfold Dr.act
   rw[if_neg (by lia),if_neg (by lia)];rfl
theorem Dr.Ok.bl_out{K:Dr}(O:K.Ok)(N:Nat×Nat→Int){o:Nat×Nat}(ho:o∈K.E) :
  K.bl N o (K.X o.1)=K.base N o.1+su K.E (fun m=>if m.1=o.1∧K.s m<K.s o then N m else 0):=by
 unfold Dr.bl Dr.base
 rw[←Zu]
 apply Qk
 intro m hm
 have hl:=O.left m hm
 have hli:=O.left o ho
 have hh:=Dr.h_behind K o 1
 by_cases q:m.1=o.1
 ·have hb:=Dr.h_behind K m 1
  rw[q] at hb hl
  have n1:¬ (K.X m.1<K.X o.1∧K.X o.1<K.X m.2∧K.h m (2*K.X o.1)<2*(K.D*K.Y o.1)):=by rw[q];lia
  rw[if_neg n1]
  unfold Dr.act
  rw[q]
  by_cases c:K.s m<K.s o
  ·rw[if_pos (by lia),if_pos (by simp[c])];lia
  ·rw[if_neg (by lia),if_neg (by simp[c])];rfl
 ·have hx:K.X m.1≠K.X o.1:=fun h=>q ((O.inj11 hm ho).1 h)
  rw[if_neg (c:=m.1=o.1∧K.s m<K.s o) (by simp[q])]
  by_cases a:K.X m.1<K.X o.1∧K.X o.1<K.X m.2
  ·have io:=O.out_order (o:=o) (e:=m) ho hm a.1 a.2 (t:=2*K.X o.1+1) (by lia) (by lia) (by lia)
   have cl:=(O.clear m hm o ho).1 a.1 a.2
   have di:=O.distinct ho hm (by intro h;subst h;exact q rfl) (t:=2*K.X o.1+1) (by lia) (by lia) (by lia) (by lia)
   unfold Dr.act
   by_cases c:K.h m (2*K.X o.1)<2*(K.D*K.Y o.1)
   ·rw[if_pos (by lia),if_pos ⟨a.1,a.2,c⟩];lia
   ·rw[if_neg (by lia),if_neg (by lia)];rfl
  ·unfold Dr.act
   rw[if_neg (by lia),if_neg (by lia)];rfl
end Pl
namespace Pl
def Dr.isDart(K:Dr)(d:Nat×Nat):Prop:=d∈K.E∨(d.2,d.1)∈K.E
def Dr.ln(K:Dr)(d:Nat×Nat):Nat×Nat:=if K.X d.1<K.X d.2 then d else (d.2,d.1)
def Dr.Wd(K:Dr)(N:Nat×Nat→Int)(d:Nat×Nat):Int:=
 if K.X d.1<K.X d.2 then K.bl N d (K.X d.1)+N d else K.bl N (d.2,d.1) (K.X d.2)
def Dr.fl(K:Dr)(N:Nat×Nat→Int)(d:Nat×Nat):Int:=
 if K.X d.1<K.X d.2 then N d else-N (d.2,d.1)
theorem Dr.Ok.dart_cases{K:Dr}(O:K.Ok){d:Nat×Nat}(h:K.isDart d):(K.X d.1<K.X d.2∧d∈K.E)∨(K.X d.2<K.X d.1∧(d.2,d.1)∈K.E):=by
 rcases h with h | h
 ·exact Or.inl ⟨O.left d h,h⟩
 ·exact Or.inr ⟨O.left _ h,h⟩
theorem Dr.isDart.rev{K:Dr}{d:Nat×Nat}(h:K.isDart d):K.isDart (d.2,d.1):=h.symm
theorem Dr.Ok.W1{K:Dr}(O:K.Ok)(N:Nat×Nat→Int){d:Nat×Nat}(h:K.isDart d) :
  K.Wd N d-K.Wd N (d.2,d.1)=K.fl N d:=by
 unfold Dr.Wd Dr.fl
 rcases O.dart_cases h with ⟨a,_⟩ | ⟨a,_⟩
 ·rw[if_pos a,if_neg (by show ¬ K.X d.2<K.X d.1;lia),if_pos a]
  show K.bl N d (K.X d.1)+N d-K.bl N d (K.X d.1)=N d
  lia
 ·rw[if_neg (by lia),if_pos (by exact a),if_neg (by lia)]
  show K.bl N (d.2,d.1) (K.X d.2)-(K.bl N (d.2,d.1) (K.X d.2)+N (d.2,d.1)) = - N (d.2,d.1)
  lia
theorem Dr.Ok.slope_in{K:Dr}(O:K.Ok){e f:Nat×Nat}(he:e∈K.E)(hf:f∈K.E)(h:e.2=f.2)(hs:K.s e=K.s f):e=f:=by
 apply yf
 intro hne
 have h1:=Dr.h_before O he 1
 have h2:=Dr.h_before O hf 1
 have l1:=O.left e he
 have l2:=O.left f hf
 rw[h] at h1 l1
 exact O.distinct he hf hne (t:=2*K.X f.2-1) (by lia) (by lia) (by rw[h];lia) (by lia) (by rw[h1,h2,hs])
theorem Dr.Ok.slope_out{K:Dr}(O:K.Ok){e f:Nat×Nat}(he:e∈K.E)(hf:f∈K.E)(h:e.1=f.1)(hs:K.s e=K.s f):e=f:=by
 apply yf
 intro hne
 have h1:=Dr.h_behind K e 1
 have h2:=Dr.h_behind K f 1
 have l1:=O.left e he
 have l2:=O.left f hf
 rw[h] at h1 l1
 exact O.distinct he hf hne (t:=2*K.X f.1+1) (by rw[h];lia) (by lia) (by lia) (by lia) (by rw[h1,h2,hs])
theorem Dr.Ok.arr_left{K:Dr}(O:K.Ok){N:Nat×Nat→Int}(C:K.Cons N){u v:Nat} (h:(u,v)∈K.E) :
  K.Wd N (u,v)=K.base N v+su K.E (fun m=>if m.2=v∧K.s (u,v)≤K.s m then N m else 0):=by
 have hl:=O.left _ h
 unfold Dr.Wd
 rw[if_pos hl,O.bl_const C h (t:=K.X (u,v).1) (u:=K.X (u,v).2-1) (by constructor <;> lia) (by constructor <;> lia),O.bl_in N h]
 show K.base N v+su K.E _+N (u,v)=_
 have:su K.E (fun m=>if m.2=v∧K.s (u,v)≤K.s m then N m else 0) =
   su K.E (fun m=>if m.2=v∧K.s (u,v)<K.s m then N m else 0)+N (u,v):=by
  rw[←ZA O.nodup h N,←Zu]
  apply Qk
  intro m hm
  by_cases q:m=(u,v)
  ·subst q;simp
  ·rw[if_neg q]
   by_cases c:m.2=v
   ·have:K.s (u,v)≠K.s m:=fun hs=>q (O.slope_in hm h c hs.symm)
    have e:(m.2=v∧K.s (u,v)≤K.s m)↔(m.2=v∧K.s (u,v)<K.s m):=by lia
    simp only[e];lia
   ·simp[c]
 rw[this]
 show K.base N v+su K.E (fun m=>if m.2=v∧K.s (u,v)<K.s m then N m else 0)+N (u,v)=_
 lia
theorem Dr.Ok.arr_right{K:Dr}(O:K.Ok)(N:Nat×Nat→Int){u v:Nat} (h:(v,u)∈K.E) :
  K.Wd N (u,v)=K.base N v+su K.E (fun m=>if m.1=v∧K.s m<K.s (v,u) then N m else 0):=by
 have hl:=O.left _ h
 unfold Dr.Wd
 rw[if_neg (by show ¬ K.X u<K.X v;have:K.X v<K.X u:=hl;lia)]
 exact O.bl_out N h
theorem Dr.Ok.lv_right{K:Dr}(O:K.Ok)(N:Nat×Nat→Int){v b:Nat} (h:(v,b)∈K.E) :
  K.Wd N (v,b)=K.base N v+su K.E (fun m=>if m.1=v∧K.s m≤K.s (v,b) then N m else 0):=by
 have hl:=O.left _ h
 unfold Dr.Wd
 rw[if_pos hl,O.bl_out N h]
 show K.base N v+su K.E (fun m=>if m.1=v∧K.s m<K.s (v,b) then N m else 0)+N (v,b)=_
 have:su K.E (fun m=>if m.1=v∧K.s m≤K.s (v,b) then N m else 0) =
   su K.E (fun m=>if m.1=v∧K.s m<K.s (v,b) then N m else 0)+N (v,b):=by
  rw[←ZA O.nodup h N,←Zu]
  apply Qk
  intro m hm
  by_cases q:m=(v,b)
  ·subst q;simp
  ·rw[if_neg q]
   by_cases c:m.1=v
   ·have:K.s m≠K.s (v,b):=fun hs=>q (O.slope_out hm h c hs)
    have e:(m.1=v∧K.s m≤K.s (v,b))↔(m.1=v∧K.s m<K.s (v,b)):=by lia
    simp only[e];lia
   ·simp[c]
 lia
theorem Dr.Ok.lv_left{K:Dr}(O:K.Ok){N:Nat×Nat→Int}(C:K.Cons N){v b:Nat} (h:(b,v)∈K.E) :
  K.Wd N (v,b)=K.base N v+su K.E (fun m=>if m.2=v∧K.s (b,v)<K.s m then N m else 0):=by
 have hl:K.X b<K.X v:=O.left _ h
 unfold Dr.Wd
 rw[if_neg (by show ¬ K.X v<K.X b;lia)]
 show K.bl N (b,v) (K.X b)=_
 rw[O.bl_const C h (t:=K.X b) (u:=K.X (b,v).2-1) (by constructor <;> (try show K.X b≤K.X b) <;> (try exact hl) <;> lia) (by constructor <;> (try show K.X b≤K.X v-1) <;> (try show K.X v-1<K.X v) <;> lia),O.bl_in N h]
def cr(a b:Bool×Int):Int:=if a.1=b.1 then b.2-a.2 else a.2-b.2
def hf(r d:Bool×Int):Int:=if cr r d<0 then 0 else if 0<cr r d then 2 else if r.1=d.1 then 3 else 1
def sn(r a b:Bool×Int):Prop:=hf r a<hf r b∨(hf r a=hf r b∧cr a b<0)
def Dr.ky(K:Dr)(v c:Nat):Bool×Int:=(decide (K.X v<K.X c),K.s (K.ln (v,c)))
def Dr.isNext(K:Dr)(u v b:Nat):Prop:=K.isDart (v,b)∧∀ c,K.isDart (v,c)→¬ sn (K.ky v u) (K.ky v c) (K.ky v b)
theorem Dr.Ok.ky_right{K:Dr}(O:K.Ok){v c:Nat} (h:(v,c)∈K.E):K.ky v c=(true,K.s (v,c)):=by
 have hl:K.X v<K.X c:=O.left _ h
 unfold Dr.ky Dr.ln
 simp[hl]
theorem Dr.Ok.ky_left{K:Dr}(O:K.Ok){v c:Nat} (h:(c,v)∈K.E):K.ky v c=(false,K.s (c,v)):=by
 have hl:K.X c<K.X v:=O.left _ h
 unfold Dr.ky Dr.ln
 have:¬ K.X v<K.X c:=by lia
 simp[this]
theorem k1{x y z:Int} (h:¬ sn (false,x) (false,y) (true,z)):x≤y:=by
 simp only[sn,hf,cr] at h
 simp at h
 split at h <;> (try split at h) <;> (try split at h) <;> (try split at h) <;> (try split at h) <;> lia
theorem k2{x y z:Int} (h:¬ sn (false,x) (true,y) (true,z)):y≤z:=by
 simp only[sn,hf,cr] at h
 simp at h
 split at h <;> (try split at h) <;> (try split at h) <;> (try split at h) <;> (try split at h) <;> lia
theorem k3{x y z:Int} (h:¬ sn (false,x) (false,y) (false,z)) (hz:z<x):(x≤y↔z<y):=by
 simp only[sn,hf,cr] at h
 simp at h
 split at h <;> (try split at h) <;> (try split at h) <;> (try split at h) <;> (try split at h) <;> lia
theorem k4{x y z:Int} (h:¬ sn (false,x) (false,y) (false,z)) (hz:x≤z):x≤y∧y≤z:=by
 simp only[sn,hf,cr] at h
 simp at h
 split at h <;> (try split at h) <;> (try split at h) <;> (try split at h) <;> (try split at h) <;> lia
theorem k5{x y z:Int} (h:¬ sn (false,x) (true,y) (false,z)) (hz:x≤z):False:=by
 simp only[sn,hf,cr] at h
 simp at h
 split at h <;> (try split at h) <;> (try split at h) <;> (try split at h) <;> (try split at h) <;> lia
theorem k6{x y z:Int} (h:¬ sn (true,x) (true,y) (true,z)) (hz:z<x):(y<x↔y≤z):=by
 simp only[sn,hf,cr] at h
 simp at h
 split at h <;> (try split at h) <;> (try split at h) <;> (try split at h) <;> (try split at h) <;> lia
theorem k7{x y z:Int} (h:¬ sn (true,x) (true,y) (true,z)) (hz:x≤z):x≤y∧y≤z:=by
 simp only[sn,hf,cr] at h
 simp at h
 split at h <;> (try split at h) <;> (try split at h) <;> (try split at h) <;> (try split at h) <;> lia
theorem k8{x y z:Int} (h:¬ sn (true,x) (false,y) (true,z)) (hz:x≤z):False:=by
 simp only[sn,hf,cr] at h
 simp at h
 split at h <;> (try split at h) <;> (try split at h) <;> (try split at h) <;> (try split at h) <;> lia
theorem k9{x y z:Int} (h:¬ sn (true,x) (true,y) (false,z)):x≤y:=by
 simp only[sn,hf,cr] at h
 simp at h
 split at h <;> (try split at h) <;> (try split at h) <;> (try split at h) <;> (try split at h) <;> lia
theorem k10{x y z:Int} (h:¬ sn (true,x) (false,y) (false,z)):y≤z:=by
 simp only[sn,hf,cr] at h
 simp at h
 split at h <;> (try split at h) <;> (try split at h) <;> (try split at h) <;> (try split at h) <;> lia
theorem Dr.Ok.W2{K:Dr}(O:K.Ok){N:Nat×Nat→Int}(C:K.Cons N){u v b:Nat} (h:K.isDart (u,v)) (hb:K.isNext u v b) :
  K.Wd N (u,v)=K.Wd N (v,b):=by
 obtain⟨hd,hn⟩:=hb
 have inn:∀ m∈K.E,m.2=v→¬ sn (K.ky v u) (false,K.s m) (K.ky v b):=by
  intro m hm e
  have:(m.1,v)∈K.E:=by rw[←e];exact hm
  have k:=hn m.1 (Or.inr this)
  rw[O.ky_left this] at k
  rw[show m=(m.1,v) by rw[←e]]
  exact k
 have out:∀ m∈K.E,m.1=v→¬ sn (K.ky v u) (true,K.s m) (K.ky v b):=by
  intro m hm e
  have:(v,m.2)∈K.E:=by rw[←e];exact hm
  have k:=hn m.2 (Or.inl this)
  rw[O.ky_right this] at k
  rw[show m=(v,m.2) by rw[←e]]
  exact k
 have hc:=C v
 have all2:∀ (p:Nat×Nat→Prop) [DecidablePred p],(∀ m∈K.E,m.2=v→p m)→
   su K.E (fun m=>if m.2=v∧p m then N m else 0)=su K.E (fun m=>if m.2=v then N m else 0):=by
  intro p _ hp
  apply Qk
  intro m hm
  by_cases q:m.2=v
  ·simp[q,hp m hm q]
  ·simp[q]
 have all1:∀ (p:Nat×Nat→Prop) [DecidablePred p],(∀ m∈K.E,m.1=v→p m)→
   su K.E (fun m=>if m.1=v∧p m then N m else 0)=su K.E (fun m=>if m.1=v then N m else 0):=by
  intro p _ hp
  apply Qk
  intro m hm
  by_cases q:m.1=v
  ·simp[q,hp m hm q]
  ·simp[q]
 have none2:∀ (p:Nat×Nat→Prop) [DecidablePred p],(∀ m∈K.E,m.2=v→¬ p m)→
   su K.E (fun m=>if m.2=v∧p m then N m else 0)=0:=by
  intro p _ hp
  apply QX
  intro m hm
  rw[if_neg (fun h=>hp m hm h.1 h.2)]
 have none1:∀ (p:Nat×Nat→Prop) [DecidablePred p],(∀ m∈K.E,m.1=v→¬ p m)→
   su K.E (fun m=>if m.1=v∧p m then N m else 0)=0:=by
  intro p _ hp
  apply QX
  intro m hm
  rw[if_neg (fun h=>hp m hm h.1 h.2)]
 have same2:∀ (p q:Nat×Nat→Prop) [DecidablePred p] [DecidablePred q],(∀ m∈K.E,m.2=v→(p m↔q m))→
   su K.E (fun m=>if m.2=v∧p m then N m else 0)=su K.E (fun m=>if m.2=v∧q m then N m else 0):=by
  intro p q _ _ hp
  apply Qk
  intro m hm
  by_cases c:m.2=v
  ·simp[c,hp m hm c]
  ·simp[c]
 have same1:∀ (p q:Nat×Nat→Prop) [DecidablePred p] [DecidablePred q],(∀ m∈K.E,m.1=v→(p m↔q m))→
   su K.E (fun m=>if m.1=v∧p m then N m else 0)=su K.E (fun m=>if m.1=v∧q m then N m else 0):=by
  intro p q _ _ hp
  apply Qk
  intro m hm
  by_cases c:m.1=v
  ·simp[c,hp m hm c]
  ·simp[c]
 rcases h with h | h
 ·rw[O.ky_left h] at inn out
  rw[O.arr_left C h]
  rcases hd with hd | hd
  ·rw[O.ky_right hd] at inn out
   rw[O.lv_right N hd,all2 (fun m=>K.s (u,v)≤K.s m) (fun m hm q=>k1 (inn m hm q)),
    all1 (fun m=>K.s m≤K.s (v,b)) (fun m hm q=>k2 (out m hm q)),hc]
  ·have hd:(b,v)∈K.E:=hd
   rw[O.ky_left hd] at inn out
   rw[O.lv_left C hd]
   by_cases z:K.s (b,v)<K.s (u,v)
   ·rw[same2 (fun m=>K.s (u,v)≤K.s m) (fun m=>K.s (b,v)<K.s m) (fun m hm q=>k3 (inn m hm q) z)]
   ·have z:K.s (u,v)≤K.s (b,v):=by lia
    rw[all2 (fun m=>K.s (u,v)≤K.s m) (fun m hm q=>(k4 (inn m hm q) z).1),
     none2 (fun m=>K.s (b,v)<K.s m) (fun m hm q=>by have:=(k4 (inn m hm q) z).2;lia),hc]
    congr 1
    apply QX
    intro m hm
    by_cases q:m.1=v
    ·exact (k5 (out m hm q) z).elim
    ·simp[q]
 ·have h:(v,u)∈K.E:=h
  rw[O.ky_right h] at inn out
  rw[O.arr_right N h]
  rcases hd with hd | hd
  ·rw[O.ky_right hd] at inn out
   rw[O.lv_right N hd]
   by_cases z:K.s (v,b)<K.s (v,u)
   ·rw[same1 (fun m=>K.s m<K.s (v,u)) (fun m=>K.s m≤K.s (v,b)) (fun m hm q=>k6 (out m hm q) z)]
   ·have z:K.s (v,u)≤K.s (v,b):=by lia
    rw[all1 (fun m=>K.s m≤K.s (v,b)) (fun m hm q=>(k7 (out m hm q) z).2),
     none1 (fun m=>K.s m<K.s (v,u)) (fun m hm q=>by have:=(k7 (out m hm q) z).1;lia),←hc]
    congr 1
    symm
    apply QX
    intro m hm
    by_cases q:m.2=v
    ·exact (k8 (inn m hm q) z).elim
    ·simp[q]
  ·have hd:(b,v)∈K.E:=hd
   rw[O.ky_left hd] at inn out
   rw[O.lv_left C hd,none1 (fun m=>K.s m<K.s (v,u)) (fun m hm q=>by have:=k9 (out m hm q);lia),
    none2 (fun m=>K.s (b,v)<K.s m) (fun m hm q=>by have:=k10 (inn m hm q);lia)]
end Pl
namespace Pl
theorem cr_def(a b:Bool)(x y:Int):cr (a,x) (b,y)=if a=b then y-x else x-y:=rfl
theorem hf_spec(r d:Bool×Int):(cr r d<0∧hf r d=0)∨(0<cr r d∧hf r d=2)∨(cr r d=0∧r.1=d.1∧hf r d=3)∨(cr r d=0∧r.1≠d.1∧hf r d=1):=by
 unfold hf
 by_cases h1:cr r d<0
 ·simp[h1]
 ·by_cases h2:0<cr r d
  ·simp[h1,h2]
  ·have h0:cr r d=0:=by omega
   by_cases h3:r.1=d.1
   ·simp[h3,h0]
   ·simp[h3,h0]
def kk(M:Int)(a:Bool×Int):Int:=if a.1=true then a.2 else M+a.2
def Bd(M:Int)(a:Bool×Int):Prop:=-M<2*a.2∧2*a.2<M
theorem Yv{M N:Int}{a:Bool×Int}(h:Bd M a)(l:M≤N):Bd N a:=⟨by have:=h.1;lia,by have:=h.2;lia⟩
theorem bd_one(x:Bool×Int):∃ M,0≤M∧Bd M x:=by
 refine⟨if 0≤x.2 then 2*x.2+1 else 1-2*x.2,?_⟩
 unfold Bd;split <;> lia
theorem bd_add {P Q:(Bool×Int)}:∃ M,0≤M∧Bd M P∧Bd M Q:=by
 obtain⟨m,z,p⟩:=bd_one P
 obtain⟨n,y,q⟩:=bd_one Q
 exact⟨m+n,by lia,Yv p (by lia),Yv q (by lia)⟩
theorem ex_bd(a b c d:Bool×Int):∃ M,Bd M a∧Bd M b∧Bd M c∧Bd M d:=by
 obtain⟨m,z,p,q⟩:=@bd_add a b
 obtain⟨n,y,r,s⟩:=@bd_add c d
 exact⟨m+n,Yv p (by lia),Yv q (by lia),Yv r (by lia),Yv s (by lia)⟩
theorem kk_inj{M:Int}{a b:Bool×Int}(ha:Bd M a)(hb:Bd M b)(h:kk M a=kk M b):a=b:=by
 obtain⟨f,x⟩:=a
 obtain⟨g,y⟩:=b
 unfold Bd at *
 cases f <;> cases g <;> simp[kk] at * <;> lia
theorem cr_key{M:Int}{a b:Bool×Int}(ha:Bd M a)(hb:Bd M b):(cr a b<0↔if kk M b<kk M a then kk M a<kk M b+M else kk M a+M<kk M b):=by
 obtain⟨f,x⟩:=a
 obtain⟨g,y⟩:=b
 obtain⟨h1,h2⟩:=ha
 obtain⟨h3,h4⟩:=hb
 cases f <;> cases g <;> simp[kk,cr_def] at * <;> lia
theorem cr_sw(a b:Bool×Int):cr b a = - cr a b:=by
 unfold cr
 by_cases h:a.1=b.1
 ·rw[if_pos h,if_pos h.symm];lia
 ·rw[if_neg h,if_neg (Ne.symm h)];lia
theorem cr_same{M:Int}{a b:Bool×Int}(ha:Bd M a)(hb:Bd M b)(h:cr a b=0):(a.1=b.1↔kk M a=kk M b):=by
 obtain⟨f,x⟩:=a
 obtain⟨g,y⟩:=b
 obtain⟨h1,h2⟩:=ha
 obtain⟨h3,h4⟩:=hb
 cases f <;> cases g <;> simp[kk,cr_def] at * <;> lia
theorem hf_key{M:Int}{r d:Bool×Int}(hr:Bd M r)(hd:Bd M d) :
  hf r d=(if kk M d<kk M r then (if kk M r<kk M d+M then 0 else if kk M d+M<kk M r then 2 else 1) else if kk M d=kk M r then 3 else if kk M r+M<kk M d then 0 else if kk M d<kk M r+M then 2 else 1):=by
 have e1:=cr_key hr hd
 have e2:=cr_key hd hr
 have e3:=cr_same hr hd
 rw[cr_sw r d] at e2
 unfold hf
 generalize cr r d=c at *
 generalize kk M r=x at *
 generalize kk M d=y at *
 have : -M<M:=Int.lt_trans hr.1 hr.2
 lia
theorem kk_bd{M:Int}{a:Bool×Int}(ha:Bd M a) : -M<2*kk M a∧2*kk M a<3*M:=by
 obtain⟨h1,h2⟩:=ha
 unfold kk
 split <;> lia
theorem ZV{M:Int}{r a b:Bool×Int}(hr:Bd M r)(ha:Bd M a)(hb:Bd M b) :
  sn r a b↔(kk M a<kk M r∧kk M r≤kk M b)∨((kk M a<kk M r↔kk M b<kk M r)∧kk M b<kk M a):=by
 unfold sn
 rw[cr_key ha hb,hf_key hr ha,hf_key hr hb]
 have b1:=kk_bd hr
 have b2:=kk_bd ha
 have b3:=kk_bd hb
 clear hr ha hb
 generalize kk M r=x at *
 generalize kk M a=y at *
 generalize kk M b=z at *
 by_cases c1:y<x <;> by_cases c2:z<x <;> by_cases c3:z<y <;> simp only[c1,c2,c3,if_true,if_false,true_and,false_and,true_iff,false_iff,not_true,or_false,and_true,and_false,or_true] <;> lia
theorem sn_sub{a b c x:Bool×Int}(h1:¬ sn a c b)(h2:¬ sn a x b)(hbc:b≠c)(h3:sn b x c):sn a x c:=by
 obtain⟨M,ba,bb,bc,bx⟩:=ex_bd a b c x
 rw[ZV ba bc bb] at h1
 rw[ZV ba bx bb] at h2
 rw[ZV bb bx bc] at h3
 rw[ZV ba bx bc]
 have h4:=fun e=>hbc (kk_inj bb bc e)
 lia
theorem sn_trans{r a b c:Bool×Int}(h1:sn r a b)(h2:sn r b c):sn r a c:=by
 obtain⟨M,br,ba,bb,bc⟩:=ex_bd r a b c
 rw[ZV br ba bb] at h1
 rw[ZV br bb bc] at h2
 rw[ZV br ba bc]
 lia
theorem sn_inj{x y z:Bool×Int}(h1:¬ sn x y z)(h2:¬ sn y x z):x=y:=by
 obtain⟨M,bx,b,bz,_⟩:=ex_bd x y z z
 rw[ZV bx b bz] at h1
 rw[ZV b bx bz] at h2
 refine kk_inj bx b ?_
 lia
theorem sn_tot{a b c:Bool×Int}(h1:¬ sn a c b)(hbc:b≠c):sn a b c:=by
 obtain⟨M,ba,bb,bc,_⟩:=ex_bd a b c c
 rw[ZV ba bc bb] at h1
 rw[ZV ba bb bc]
 have h4:=fun e=>hbc (kk_inj bb bc e)
 lia
theorem sn_self{b c:Bool×Int}:¬ sn b b c:=by
 obtain⟨M,bb,bc,_⟩:=ex_bd b c c c
 rw[ZV bb bb bc]
 lia
end Pl
namespace Pl
structure Dr.Rot(K:Dr)(nx:Nat×Nat→Nat×Nat):Prop where
 fst:∀ d,K.isDart d→(nx d).1=d.2
 next:∀ d,K.isDart d→K.isNext d.1 d.2 (nx d).2
theorem Dr.Rot.dart{K:Dr}{nx:Nat×Nat→Nat×Nat}(R:K.Rot nx){d:Nat×Nat}(h:K.isDart d):K.isDart (nx d):=by
 have:=(R.next d h).1
 rw[←R.fst d h] at this
 exact this
theorem Dr.Ok.ky_inj{K:Dr}(O:K.Ok){v a b:Nat} (ha:K.isDart (v,a)) (hb:K.isDart (v,b)) (h:K.ky v a=K.ky v b):a=b:=by
 rcases ha with ha | ha <;> rcases hb with hb | hb
 ·rw[O.ky_right ha,O.ky_right hb] at h
  have:=O.slope_out ha hb rfl (by simpa using h)
  simpa using this
 ·have hb:(b,v)∈K.E:=hb
  rw[O.ky_right ha,O.ky_left hb] at h
  simp at h
 ·have ha:(a,v)∈K.E:=ha
  rw[O.ky_left ha,O.ky_right hb] at h
  simp at h
 ·have ha:(a,v)∈K.E:=ha
  have hb:(b,v)∈K.E:=hb
  rw[O.ky_left ha,O.ky_left hb] at h
  have:=O.slope_in ha hb rfl (by simpa using h)
  simpa using this
theorem Dr.Ok.nx_inj{K:Dr}(O:K.Ok){nx:Nat×Nat→Nat×Nat}(R:K.Rot nx){d e:Nat×Nat}(hd:K.isDart d)(he:K.isDart e)(h:nx d=nx e):d=e:=by
 have h2:d.2=e.2:=by rw[←R.fst d hd,←R.fst e he,h]
 have n1:=R.next d hd
 have n2:=R.next e he
 rw[h2,h] at n1
 have d1:K.isDart (e.2,d.1):=by rw[←h2];exact hd.rev
 have d2:K.isDart (e.2,e.1):=he.rev
 have:=sn_inj (n1.2 _ d2) (n2.2 _ d1)
 have:=O.ky_inj d1 d2 this
 exact Prod.ext this h2
def Dr.nb(K:Dr)(v:Nat):List Nat:=(K.E.filter (fun m=>m.1=v)).map (·.2)++(K.E.filter (fun m=>m.2=v)).map (·.1)
theorem Dr.mem_nb{K:Dr}{v c:Nat}:c∈K.nb v↔K.isDart (v,c):=by
 unfold Dr.nb Dr.isDart
 simp only[Up,Ud,x8,decide_eq_true_eq]
 constructor
 ·rintro (⟨m,⟨h1,h2⟩,h3⟩ | ⟨m,⟨h1,h2⟩,h3⟩)
  ·left;rw[←h2,←h3];exact h1
  ·right;show (c,v)∈K.E;rw[←h2,←h3];exact h1
 ·rintro (h | h)
  ·exact Or.inl ⟨(v,c),⟨h,rfl⟩,rfl⟩
  ·exact Or.inr ⟨(c,v),⟨h,rfl⟩,rfl⟩
open Classical in
theorem Dr.Ok.turn_all{K:Dr}(O:K.Ok){nx:Nat×Nat→Nat×Nat}(R:K.Rot nx)(v:Nat)(P:Nat→Prop)
  (hP:∀ a,K.isDart (v,a)→P a→P (nx (a,v)).2) {c:Nat} (hc:K.isDart (v,c)) :
  ∀(n:Nat)(a:Nat),K.isDart (v,a)→P a→((K.nb v).filter (fun x=>decide (sn (K.ky v a) (K.ky v x) (K.ky v c)))).length≤n→P c:=by
 intro n
 induction n with
 | zero=>
  intro a ha hPa hn
  apply yf
  intro hcon
  have hb:=hP a ha hPa
  have nx1:=R.next (a,v) ha.rev
  have hbc:(nx (a,v)).2≠c:=by intro e;rw[e] at hb;exact hcon hb
  have t:=sn_tot (nx1.2 c hc) (fun e=>hbc (O.ky_inj nx1.1 hc e))
  have:(nx (a,v)).2∈(K.nb v).filter (fun x=>decide (sn (K.ky v a) (K.ky v x) (K.ky v c))):=by
   rw[x8]
   exact⟨Dr.mem_nb.2 nx1.1,by simpa using t⟩
  have:0<((K.nb v).filter (fun x=>decide (sn (K.ky v a) (K.ky v x) (K.ky v c)))).length:=xG this
  lia
 | succ n ih=>
  intro a ha hPa hn
  have hb:=hP a ha hPa
  have nx1:=R.next (a,v) ha.rev
  by_cases hbc:(nx (a,v)).2=c
  ·rw[hbc] at hb;exact hb
  ·have hkey:K.ky v (nx (a,v)).2≠K.ky v c:=fun e=>hbc (O.ky_inj nx1.1 hc e)
   have t:=sn_tot (nx1.2 c hc) hkey
   apply ih (nx (a,v)).2 nx1.1 hb
   have hsub:((K.nb v).filter (fun x=>decide (sn (K.ky v (nx (a,v)).2) (K.ky v x) (K.ky v c)))).length
     < ((K.nb v).filter (fun x=>decide (sn (K.ky v a) (K.ky v x) (K.ky v c)))).length:=by
    have himp:∀ x∈K.nb v,sn (K.ky v (nx (a,v)).2) (K.ky v x) (K.ky v c)→sn (K.ky v a) (K.ky v x) (K.ky v c):=by
     intro x hx h3
     exact sn_sub (nx1.2 c hc) (nx1.2 x (Dr.mem_nb.1 hx)) hkey h3
    have hmem:=Dr.mem_nb.2 nx1.1
    show _<_
    generalize K.nb v=l at *
    clear ih hn
    induction l with
    | nil=>simp at hmem
    | cons y l ihl=>
     have step:∀ x∈l,sn (K.ky v (nx (a,v)).2) (K.ky v x) (K.ky v c)→sn (K.ky v a) (K.ky v x) (K.ky v c):=
      fun x hx=>himp x (ym _ hx)
     have le:((l.filter (fun x=>decide (sn (K.ky v (nx (a,v)).2) (K.ky v x) (K.ky v c)))).length
       ≤ (l.filter (fun x=>decide (sn (K.ky v a) (K.ky v x) (K.ky v c)))).length):=by
      clear ihl himp hmem
      induction l with
      | nil=>simp
      | cons z l ihl2=>
       have:=ihl2 (fun x hx=>step x (ym _ hx))
       have hz:=step z (by simp)
       by_cases q1:sn (K.ky v (nx (a,v)).2) (K.ky v z) (K.ky v c)
       ·rw[yS (by simpa using q1),yS (by simpa using hz q1)]
        simp only[yx];lia
       ·rw[jf (by simpa using q1)]
        by_cases q2:sn (K.ky v a) (K.ky v z) (K.ky v c)
        ·rw[yS (by simpa using q2)];simp only[yx];lia
        ·rw[jf (by simpa using q2)];exact this
     rcases List.mem_cons.1 hmem with e | hmem
     ·subst e
      rw[jf (by simpa using sn_self),yS (by simpa using t)]
      simp only[yx];lia
     ·have:=ihl step hmem
      have hy:=himp y (by simp)
      by_cases q1:sn (K.ky v (nx (a,v)).2) (K.ky v y) (K.ky v c)
      ·rw[yS (by simpa using q1),yS (by simpa using hy q1)]
       simp only[yx];lia
      ·rw[jf (by simpa using q1)]
       by_cases q2:sn (K.ky v a) (K.ky v y) (K.ky v c)
       ·rw[yS (by simpa using q2)];simp only[yx];lia
       ·rw[jf (by simpa using q2)];exact this
   lia
theorem Dr.Ok.turn{K:Dr}(O:K.Ok){nx:Nat×Nat→Nat×Nat}(R:K.Rot nx)(v:Nat)(P:Nat→Prop)
  (hP:∀ a,K.isDart (v,a)→P a→P (nx (a,v)).2) {a c:Nat} (ha:K.isDart (v,a)) (hc:K.isDart (v,c)) (h:P a):P c:=
 O.turn_all R v P hP hc _ a ha h (yl _)
end Pl
namespace Pl
abbrev Dt:=Nat×Nat
def it(nx:Dt→Dt):Nat→Dt→Dt
 | 0,d=>d
 | k+1,d=>nx (it nx k d)
theorem XS(nx:Dt→Dt)(k:Nat)(d:Dt):it nx (k+1) d=nx (it nx k d):=rfl
theorem ZN(nx:Dt→Dt)(j k:Nat)(d:Dt):it nx (j+k) d=it nx j (it nx k d):=by
 induction j with
 | zero=>simp[it]
 | succ j ih=>rw[Nat.succ_add,XS,XS,ih]
theorem Dr.Rot.it_dart{K:Dr}{nx:Dt→Dt}(R:K.Rot nx){d:Dt}(h:K.isDart d)(k:Nat):K.isDart (it nx k d):=by
 induction k with
 | zero=>exact h
 | succ k ih=>exact R.dart ih
theorem Dr.Ok.it_inj{K:Dr}(O:K.Ok){nx:Dt→Dt}(R:K.Rot nx){d e:Dt}(hd:K.isDart d)(he:K.isDart e)(k:Nat)(h:it nx k d=it nx k e):d=e:=by
 induction k with
 | zero=>exact h
 | succ k ih=>exact ih (O.nx_inj R (R.it_dart hd k) (R.it_dart he k) h)
def wk(nx:Dt→Dt)(d:Dt)(k:Nat):List Dt:=(yj k).map (fun j=>it nx j d)
theorem Zb{nx:Dt→Dt}{d x:Dt}{k:Nat}:x∈wk nx d k↔∃ j,j<k∧it nx j d=x:=by
 simp[wk]
theorem wk_length(nx:Dt→Dt)(d:Dt)(k:Nat):(wk nx d k).length=k:=by simp[wk]
theorem wk_succ(nx:Dt→Dt)(d:Dt)(k:Nat):wk nx d (k+1)=wk nx d k++[it nx k d]:=by
 simp[wk,xf]
theorem least{P:Nat→Prop}(h:∃ n,P n):∃ n,P n∧∀ m,m<n→¬ P m:=by
 apply yf
 intro hc
 obtain⟨n,hn⟩:=h
 have:∀ n,¬ P n:=by
  intro n
  induction n using Nat.strongRecOn with
  | ind n ih=>exact fun hp=>hc ⟨n,hp,ih⟩
 exact this n hn
theorem nodup_len{α:Type} [DecidableEq α]:∀ {l m:List α},l.Nodup→(∀ x∈l,x∈m)→l.length≤m.length
 | [],m,_,_=>by simp
 | a::l,m,hn,hs=>by
  have ha:=hs a (by simp)
  rw[jR] at hn
  have:=nodup_len (l:=l) (m:=m.erase a) hn.2 (fun x hx=>by
   have hne:x≠a:=by intro e;subst e;exact hn.1 hx
   exact (xR hne).2 (hs x (by simp[hx])))
  rw[jn ha] at this
  have:=xG ha
  simp only[yx];lia
def Dr.darts(K:Dr):List Dt:=K.E++K.E.map (fun m=>(m.2,m.1))
theorem Dr.mem_darts{K:Dr}{d:Dt}:d∈K.darts↔K.isDart d:=by
 unfold Dr.darts Dr.isDart
 rw[Up,Ud]
 constructor
 ·rintro (h | ⟨m,hm,rfl⟩)
  ·exact Or.inl h
  ·exact Or.inr hm
 ·rintro (h | h)
  ·exact Or.inl h
  ·exact Or.inr ⟨_,h,rfl⟩
theorem Dr.darts_length(K:Dr):K.darts.length=2*K.E.length:=by
 simp[Dr.darts];lia
structure Per(nx:Dt→Dt)(d:Dt)(k:Nat):Prop where
 pos:0<k
 back:it nx k d=d
 first:∀ j,0<j→j<k→it nx j d≠d
theorem JI{α:Type}{f:Nat→α}{k:Nat}(h:∀ i j,i<j→j<k→f i≠f j):((yj k).map f).Nodup:=by
 unfold List.Nodup
 rw[List.pairwise_map]
 have:(yj k).Pairwise (fun a b=>a<b∧b<k):=by
  rw[j9]
  intro i j hi hj hij
  simp at hi hj
  simp;lia
 exact this.imp (fun {a b} hab=>h a b hab.1 hab.2)
theorem Dr.Ok.wk_nodup_of{K:Dr}(O:K.Ok){nx:Dt→Dt}(R:K.Rot nx){d:Dt}(hd:K.isDart d){k:Nat}(h:∀ j,0<j→j<k→it nx j d≠d):(wk nx d k).Nodup:=by
 apply JI
 intro i j hij hj e
 have e2:it nx i d=it nx i (it nx (j-i) d):=by
  rw[←ZN,show i+(j-i)=j by lia];exact e
 have:=O.it_inj R hd (R.it_dart hd _) i e2
 exact h (j-i) (by lia) (by lia) this.symm
theorem Dr.Ok.period{K:Dr}(O:K.Ok){nx:Dt→Dt}(R:K.Rot nx){d:Dt}(hd:K.isDart d):∃ k,Per nx d k∧k≤2*K.E.length:=by
 have ex:∃ k,0<k∧it nx k d=d:=by
  apply yf
  intro hc
  have hn:(wk nx d (2*K.E.length+1)).Nodup:=O.wk_nodup_of R hd (fun j h0 _ e=>hc ⟨j,h0,e⟩)
  have:=nodup_len (m:=K.darts) hn (fun x hx=>by
   obtain⟨j,_,rfl⟩:=Zb.1 hx
   exact Dr.mem_darts.2 (R.it_dart hd j))
  rw[wk_length,Dr.darts_length] at this
  lia
 obtain⟨k,⟨h0,h1⟩,h2⟩:=least ex
 have hf:∀ j,0<j→j<k→it nx j d≠d:=fun j hj hjk e=>h2 j hjk ⟨hj,e⟩
 refine⟨k,⟨h0,h1,hf⟩,?_⟩
 have hn:(wk nx d k).Nodup:=O.wk_nodup_of R hd hf
 have:=nodup_len (m:=K.darts) hn (fun x hx=>by
  obtain⟨j,_,rfl⟩:=Zb.1 hx
  exact Dr.mem_darts.2 (R.it_dart hd j))
 rw[wk_length,Dr.darts_length] at this
 exact this
theorem Per.nodup{K:Dr}(O:K.Ok){nx:Dt→Dt}(R:K.Rot nx){d:Dt}(hd:K.isDart d){k:Nat}(p:Per nx d k):(wk nx d k).Nodup:=
 O.wk_nodup_of R hd p.first
theorem it_mul{nx:Dt→Dt}{d:Dt}{k:Nat}(h:it nx k d=d)(n:Nat):it nx (k*n) d=d:=by
 induction n with
 | zero=>rfl
 | succ n ih=>rw[Nat.mul_succ,ZN,h,ih]
theorem Per.mod{nx:Dt→Dt}{d:Dt}{k:Nat}(p:Per nx d k)(n:Nat):it nx n d=it nx (n%k) d:=by
 have h:=Nat.div_add_mod n k
 have:it nx n d=it nx (n%k+k*(n/k)) d:=by rw[Gn,h]
 rw[this,ZN,it_mul p.back]
theorem Per.mem{nx:Dt→Dt}{d x:Dt}{k:Nat}(p:Per nx d k):x∈wk nx d k↔∃ j,it nx j d=x:=by
 rw[Zb]
 constructor
 ·rintro⟨j,_,h⟩;exact⟨j,h⟩
 ·rintro⟨j,h⟩
  exact⟨j%k,Nat.mod_lt _ p.pos,by rw[←p.mod];exact h⟩
theorem Per.nx_mem{K:Dr}(O:K.Ok){nx:Dt→Dt}(R:K.Rot nx){d x:Dt}(hd:K.isDart d)(hx:K.isDart x){k:Nat}(p:Per nx d k) :
  nx x∈wk nx d k↔x∈wk nx d k:=by
 rw[p.mem,p.mem]
 constructor
 ·rintro⟨j,h⟩
  have:it nx (j+k) d=nx x:=by rw[ZN,p.back,h]
  rw[show j+k=(j+k-1)+1 by have:=p.pos;lia,XS] at this
  exact⟨_,O.nx_inj R (R.it_dart hd _) hx this⟩
 ·rintro⟨j,h⟩
  exact⟨j+1,by rw[XS,h]⟩
def QZ(C:List Dt)(e:Dt):Int:=(if e∈C then 1 else 0)-(if (e.2,e.1)∈C then 1 else 0)
theorem Dr.Ok.not_both{K:Dr}(O:K.Ok){d:Dt}(h1:d∈K.E) (h2:(d.2,d.1)∈K.E):False:=by
 have a:=O.left _ h1
 have b:=O.left _ h2
 simp only at b
 lia
theorem Dr.Ok.su_darts{K:Dr}(O:K.Ok){C:List Dt}(hn:C.Nodup)(hs:∀ d∈C,K.isDart d)(f:Dt→Int) :
  su C f=su K.E (fun m=>(if m∈C then f m else 0)+(if (m.2,m.1)∈C then f (m.2,m.1) else 0)):=by
 rw[Zu]
 have e1:∀ m∈K.E,(if m∈C then f m else 0)=su C (fun d=>if d=m then f d else 0):=by
  intro m _
  by_cases h:m∈C
  ·rw[if_pos h,ZA hn h]
  ·rw[if_neg h,su_none h]
 have e2:∀ m∈K.E,(if (m.2,m.1)∈C then f (m.2,m.1) else 0)=su C (fun d=>if d=(m.2,m.1) then f d else 0):=by
  intro m _
  by_cases h:(m.2,m.1)∈C
  ·rw[if_pos h,ZA hn h]
  ·rw[if_neg h,su_none h]
 rw[Qk e1,Qk e2,Xj,Xj (l:=K.E),←Zu]
 apply Qk
 intro d hd
 rcases hs d hd with h | h
 ·have a:su K.E (fun m=>if d=m then f d else 0)=f d:=by
   refine (Qk ?_).trans (ZA O.nodup h (fun _=>f d))
   intro m _
   by_cases q:d=m
   ·simp[q]
   ·have:¬ m=d:=fun e=>q e.symm
    simp[q,this]
  have b:su K.E (fun m=>if d=(m.2,m.1) then f d else 0)=0:=by
   apply QX
   intro m hm
   apply if_neg
   intro e
   apply O.not_both h
   rw[e];exact hm
  rw[a,b];lia
 ·have a:su K.E (fun m=>if d=m then f d else 0)=0:=by
   apply QX
   intro m hm
   apply if_neg
   intro e
   rw[←e] at hm
   exact O.not_both hm h
  have b:su K.E (fun m=>if d=(m.2,m.1) then f d else 0)=f d:=by
   refine (Qk ?_).trans (ZA O.nodup h (fun _=>f d))
   intro m _
   by_cases q:d=(m.2,m.1)
   ·have:m=(d.2,d.1):=by rw[q]
    rw[if_pos q,if_pos this]
   ·have:¬ m=(d.2,d.1):=fun e=>q (by rw[e])
    simp[q,this]
  rw[a,b];lia
theorem Dr.Ok.flow_cons{K : Dr}(O : K.Ok){C : List Dt}(hn : C.Nodup)(hs : ∀ d ∈ C, K.isDart d)
    (hc : ∀ v : Nat, su C (fun d => if d.2 = v then 1 else 0) = su C (fun d => if d.1 = v then 1 else 0)) : K.Cons (QZ C) := by
  intro v
  have h := hc v
  rw [O.su_darts hn hs, O.su_darts hn hs] at h
  have : su K.E (fun m => if m.2 = v then QZ C m else 0) - su K.E (fun m => if m.1 = v then QZ C m else 0) = 0 := by
    rw [← Z5]
    have h' : su K.E (fun m => (((if m ∈ C then (if m.2 = v then 1 else 0) else 0) + (if (m.2, m.1) ∈ C then (if (m.2, m.1).2 = v then 1 else 0) else 0)) : Int)
      - ((if m ∈ C then (if m.1 = v then 1 else 0) else 0) + (if (m.2, m.1) ∈ C then (if (m.2, m.1).1 = v then 1 else 0) else 0))) = 0 := by
      rw [Z5, h]; lia
    refine (Qk ?_).trans h'
    intro m _
    unfold QZ
    by_cases a : m ∈ C <;> by_cases b : (m.2, m.1) ∈ C <;> simp only [a, b, if_true, if_false] <;>
      by_cases c : m.1 = v <;> by_cases d : m.2 = v <;> simp only [c, d, if_true, if_false] <;> lia
  lia
theorem Dr.Rot.walk_cons{K:Dr}{nx:Dt→Dt}(R:K.Rot nx){d:Dt}(hd:K.isDart d)(v:Nat)(k:Nat) :
  su (wk nx d k) (fun d=>if d.2=v then 1 else 0)+(if d.1=v then 1 else 0) =
  su (wk nx d k) (fun d=>if d.1=v then 1 else 0)+(if (it nx k d).1=v then 1 else 0):=by
 induction k with
 | zero=>rfl
 | succ k ih=>
  rw[wk_succ,XB,XB,QN,ZB,QN,ZB]
  have:(it nx (k+1) d).1=(it nx k d).2:=R.fst _ (R.it_dart hd k)
  rw[this]
  lia
theorem Dr.Ok.closed_cons{K:Dr}(O:K.Ok){nx:Dt→Dt}(R:K.Rot nx){d:Dt}(hd:K.isDart d){k:Nat}
  (hn:(wk nx d k).Nodup) (hb:(it nx k d).1=d.1):K.Cons (QZ (wk nx d k)):=by
 apply O.flow_cons hn
 ·intro x hx
  obtain⟨j,_,rfl⟩:=Zb.1 hx
  exact R.it_dart hd j
 ·intro v
  have:=R.walk_cons hd v k
  rw[hb] at this
  lia
theorem Dr.Ok.fl_flow{K:Dr}(O:K.Ok)(C:List Dt){d:Dt}(hd:K.isDart d) :
  K.fl (QZ C) d=(if d∈C then 1 else 0)-(if (d.2,d.1)∈C then 1 else 0):=by
 unfold Dr.fl QZ
 rcases O.dart_cases hd with ⟨a,_⟩ | ⟨a,_⟩
 ·rw[if_pos a]
 ·rw[if_neg (by lia)]
  show -((if (d.2,d.1)∈C then (1:Int) else 0)-(if d∈C then 1 else 0))=_
  lia
def Dr.Conn(K:Dr):Prop:=∀(Q:Nat→Prop)(d e:Dt),K.isDart d→K.isDart e→(∀ x,K.isDart x→Q x.1→Q x.2)→Q d.1→Q e.1
def Dr.Conn2(K:Dr)(v:Nat):Prop:=∀(Q:Nat→Prop)(d e:Dt),K.isDart d→K.isDart e→d.1≠v→e.1≠v→
 (∀ x,K.isDart x→x.1≠v→x.2≠v→Q x.1→Q x.2)→Q d.1→Q e.1
theorem Dr.Ok.spread{K:Dr}(O:K.Ok){nx:Dt→Dt}(R:K.Rot nx)(hc:K.Conn){P:Dt→Prop}
  (h1:∀ d,K.isDart d→P d→P (d.2,d.1)) (h2:∀ d,K.isDart d→P d→P (nx d)) {d e:Dt} (hd:K.isDart d) (he:K.isDart e) (h:P d):P e:=by
 have rot:∀ v a c,K.isDart (v,a)→K.isDart (v,c)→P (v,a)→P (v,c):=by
  intro v a c ha hc hp
  refine O.turn R v (fun a=>P (v,a)) ?_ ha hc hp
  intro a ha hpa
  have:=h2 (a,v) ha.rev (h1 (v,a) ha hpa)
  have e:nx (a,v)=(v,(nx (a,v)).2):=Prod.ext (R.fst (a,v) ha.rev) rfl
  rw[e] at this
  exact this
 have:=hc (fun v=>∀ x,K.isDart (v,x)→P (v,x)) d e hd he (fun x hx hQ c hcd=>by
  have:=h1 x hx (hQ x.2 hx)
  exact rot x.2 x.1 c hx.rev hcd this) (fun x hx=>rot d.1 d.2 x hd hx h)
 exact this e.2 he
theorem Dr.Ok.spread2{K:Dr}(O:K.Ok){nx:Dt→Dt}(R:K.Rot nx){v:Nat}(hc:K.Conn2 v){P:Dt→Prop}
  (h1:∀ d,K.isDart d→P d→P (d.2,d.1)) (h2:∀ d,K.isDart d→d.2≠v→P d→P (nx d)) {d e:Dt} (hd:K.isDart d) (he:K.isDart e)
  (nd:d.1≠v) (ne:e.1≠v) (h:P d):P e:=by
 have rot:∀ w a c,w≠v→K.isDart (w,a)→K.isDart (w,c)→P (w,a)→P (w,c):=by
  intro w a c hw ha hc hp
  refine O.turn R w (fun a=>P (w,a)) ?_ ha hc hp
  intro a ha hpa
  have:=h2 (a,w) ha.rev hw (h1 (w,a) ha hpa)
  have e:nx (a,w)=(w,(nx (a,w)).2):=Prod.ext (R.fst (a,w) ha.rev) rfl
  rw[e] at this
  exact this
 have:=hc (fun w=>∀ x,K.isDart (w,x)→P (w,x)) d e hd he nd ne (fun x hx n1 n2 hQ c hcd=>by
  have:=h1 x hx (hQ x.2 hx)
  exact rot x.2 x.1 c n2 hx.rev hcd this) (fun x hx=>rot d.1 d.2 x nd hd hx h)
 exact this e.2 he
theorem Dr.Ok.around{K:Dr}(O:K.Ok){nx:Dt→Dt}(R:K.Rot nx)(hc:K.Conn){d:Dt}(hd:K.isDart d){k:Nat}(p:Per nx d k)
  {e:Dt} (he:K.isDart e):K.Wd (QZ (wk nx d k)) e=K.Wd (QZ (wk nx d k)) d-1+(if e∈wk nx d k then 1 else 0):=by
 have C:=O.closed_cons R hd (p.nodup O R hd) (by rw[p.back])
 refine O.spread R hc (P:=fun e=>K.Wd (QZ (wk nx d k)) e=K.Wd (QZ (wk nx d k)) d-1+(if e∈wk nx d k then 1 else 0)) ?_ ?_ hd he ?_
 ·intro x hx hp
  have w1:=O.W1 (QZ (wk nx d k)) hx
  rw[O.fl_flow _ hx] at w1
  show K.Wd (QZ (wk nx d k)) (x.2,x.1)=_
  lia
 ·intro x hx hp
  have w2:=O.W2 C (u:=x.1) (v:=x.2) (b:=(nx x).2) hx (R.next x hx)
  have e:nx x=(x.2,(nx x).2):=Prod.ext (R.fst x hx) rfl
  rw[←e] at w2
  have m:=p.nx_mem O R hd hx
  show K.Wd (QZ (wk nx d k)) (nx x)=_
  rw[←w2]
  simp only[m]
  exact hp
 ·have:d∈wk nx d k:=p.mem.2 ⟨0,rfl⟩
  rw[if_pos this];lia
theorem Dr.Ok.W_it{K:Dr}(O:K.Ok){nx:Dt→Dt}(R:K.Rot nx){N:Dt→Int}(C:K.Cons N){d:Dt}(hd:K.isDart d)(j:Nat) :
  K.Wd N (it nx j d)=K.Wd N d:=by
 induction j with
 | zero=>rfl
 | succ j ih=>
  have hx:=R.it_dart hd j
  have w2:=O.W2 C (u:=(it nx j d).1) (v:=(it nx j d).2) (b:=(nx (it nx j d)).2) hx (R.next _ hx)
  have e:nx (it nx j d)=((it nx j d).2,(nx (it nx j d)).2):=Prod.ext (R.fst _ hx) rfl
  rw[←e] at w2
  rw[XS,←w2]
  exact ih
theorem Dr.Ok.once{K:Dr}(O:K.Ok){nx:Dt→Dt}(R:K.Rot nx){d:Dt}(hd:K.isDart d)(hc:K.Conn2 d.1){k:Nat}(p:Per nx d k)
  {j:Nat} (h0:0<j) (hj:j<k):(it nx j d).1≠d.1:=by
 intro hb
 have hn:(wk nx d j).Nodup:=O.wk_nodup_of R hd (fun i h1 h2=>p.first i h1 (by lia))
 have C:=O.closed_cons R hd hn hb
 have hy:=R.it_dart hd j
 have noloop:∀ x,K.isDart x→x.1≠x.2:=by
  intro x hx e
  rcases O.dart_cases hx with ⟨a,_⟩ | ⟨a,_⟩ <;> rw[e] at a <;> lia
 have hyC:it nx j d∉wk nx d j:=by
  intro h
  obtain⟨i,hi,e⟩:=Zb.1 h
  have:=p.nodup O R hd
  have e2:it nx i d=it nx i (it nx (j-i) d):=by rw[←ZN,show i+(j-i)=j by lia];exact e
  exact p.first (j-i) (by lia) (by lia) (O.it_inj R hd (R.it_dart hd _) i e2).symm
 have wy:=O.W_it R C hd j
 have inv1:∀ x,K.isDart x→K.Wd (QZ (wk nx d j)) x=K.Wd (QZ (wk nx d j)) d-1+(if x∈wk nx d j then 1 else 0)→
   K.Wd (QZ (wk nx d j)) (x.2,x.1)=K.Wd (QZ (wk nx d j)) d-1+(if (x.2,x.1)∈wk nx d j then 1 else 0):=by
  intro x hx hp
  have w1:=O.W1 (QZ (wk nx d j)) hx
  rw[O.fl_flow _ hx] at w1
  lia
 have Yy:K.Wd (QZ (wk nx d j)) d=K.Wd (QZ (wk nx d j)) d-1+(if d∈wk nx d j then 1 else 0):=by
  have:d∈wk nx d j:=Zb.2 ⟨0,h0,rfl⟩
  rw[if_pos this];lia
 have fin:K.Wd (QZ (wk nx d j)) ((it nx j d).2,(it nx j d).1)=K.Wd (QZ (wk nx d j)) d-1+(if ((it nx j d).2,(it nx j d).1)∈wk nx d j then 1 else 0):=by
  refine O.spread2 R hc (P:=fun e=>K.Wd (QZ (wk nx d j)) e=K.Wd (QZ (wk nx d j)) d-1+(if e∈wk nx d j then 1 else 0)) inv1 ?_ (d:=(d.2,d.1)) hd.rev hy.rev (fun e=>noloop d hd e.symm) (fun e=>noloop _ hy (by rw[hb];exact e.symm)) (inv1 d hd Yy)
  intro x hx hv hp
  have w2:=O.W2 C (u:=x.1) (v:=x.2) (b:=(nx x).2) hx (R.next x hx)
  have e:nx x=(x.2,(nx x).2):=Prod.ext (R.fst x hx) rfl
  rw[←e] at w2
  have m:nx x∈wk nx d j↔x∈wk nx d j:=by
   rw[Zb,Zb]
   constructor
   ·rintro⟨i,hi,h⟩
    cases i with
    | zero=>
     exfalso
     apply hv
     rw[←R.fst x hx,←h];rfl
    | succ i=>exact⟨i,by lia,O.nx_inj R (R.it_dart hd _) hx h⟩
   ·rintro⟨i,hi,h⟩
    by_cases q:i+1<j
    ·exact⟨i+1,q,by rw[XS,h]⟩
    ·exfalso
     apply hv
     rw[←R.fst x hx,←h,←XS nx i d,show i+1=j by lia,hb]
  show K.Wd (QZ (wk nx d j)) (nx x)=_
  rw[←w2]
  simp only[m]
  exact hp
 have last:K.Wd (QZ (wk nx d j)) (it nx j d)=K.Wd (QZ (wk nx d j)) d-1+(if it nx j d∈wk nx d j then 1 else 0):=inv1 _ hy.rev fin
 rw[if_neg hyC] at last
 lia
end Pl
namespace Pl
def Dr.cw(K:Dr)(d m:Dt):Int:=
 if K.X d.1<K.X d.2 then (if K.act m (K.X d.1)∧K.h m (2*K.X d.1+1)<K.h d (2*K.X d.1+1) then 1 else 0)+(if m=d then 1 else 0)
 else (if K.act m (K.X d.2)∧K.h m (2*K.X d.2+1)<K.h (d.2,d.1) (2*K.X d.2+1) then 1 else 0)
theorem Zy(p:Prop) [Decidable p] (x:Int):(if p then 1 else 0)*x=if p then x else 0:=by
 by_cases h:p
 ·rw[if_pos h,if_pos h,Int.one_mul]
 ·rw[if_neg h,if_neg h,jA]
theorem Dr.Ok.Wd_cw{K:Dr}(O:K.Ok)(N:Dt→Int){d:Dt}(hd:K.isDart d):K.Wd N d=su K.E (fun m=>K.cw d m*N m):=by
 unfold Dr.Wd Dr.cw Dr.bl
 rcases O.dart_cases hd with ⟨a,b⟩ | ⟨a,b⟩
 ·rw[if_pos a]
  have:=ZA O.nodup b N
  rw[←this,←Zu]
  apply Qk
  intro m _
  rw[if_pos a,Int.add_mul,Zy,Zy]
 ·rw[if_neg (by lia)]
  apply Qk
  intro m _
  rw[if_neg (c:=K.X d.1<K.X d.2) (by lia),Zy]
theorem Dr.Ok.Wd_zero{K:Dr}(O:K.Ok){N:Dt→Int}(h:∀ e∈K.E,N e=0){d:Dt}(hd:K.isDart d):K.Wd N d=0:=by
 rw[O.Wd_cw N hd]
 apply QX
 intro m hm
 rw[h m hm,xI]
theorem Dr.Ok.Wd_sum{K:Dr}(O:K.Ok){α:Type}(l:List α)(c:α→Int)(F:α→Dt→Int){d:Dt}(hd:K.isDart d) :
  K.Wd (fun e=>su l (fun r=>c r*F r e)) d=su l (fun r=>c r*K.Wd (F r) d):=by
 rw[O.Wd_cw _ hd]
 have:∀ m∈K.E,K.cw d m*su l (fun r=>c r*F r m)=su l (fun r=>c r*(K.cw d m*F r m)):=by
  intro m _
  rw[←Z6]
  apply Qk
  intro r _
  rw[Go]
 rw[Qk this,Xj]
 apply Qk
 intro r _
 rw[Z6,O.Wd_cw _ hd]
theorem cons_sum{K:Dr}{α:Type}(l:List α)(c:α→Int)(F:α→Dt→Int) (h:∀ r∈l,K.Cons (F r)):K.Cons (fun e=>su l (fun r=>c r*F r e)):=by
 intro v
 have a:∀ (p:Dt→Prop) [DecidablePred p],su K.E (fun m=>if p m then su l (fun r=>c r*F r m) else 0)=su l (fun r=>c r*su K.E (fun m=>if p m then F r m else 0)):=by
  intro p _
  have:∀ m∈K.E,(if p m then su l (fun r=>c r*F r m) else 0)=su l (fun r=>c r*(if p m then F r m else 0)):=by
   intro m _
   by_cases q:p m
   ·simp only[if_pos q]
   ·simp only[if_neg q,xI];exact (zr l).symm
  rw[Qk this,Xj]
  apply Qk
  intro r _
  rw[Z6]
 rw[a (fun m=>m.2=v),a (fun m=>m.1=v)]
 apply Qk
 intro r hr
 rw[h r hr v]
theorem cons_grad{K:Dr}{V:List Nat}(hV:V.Nodup)(hE:∀ e∈K.E,e.1∈V∧e.2∈V){M:Dt→Int}(hM:K.Cons M)(f:Nat→Int) :
  su K.E (fun e=>M e*(f e.2-f e.1))=0:=by
 have a2:su K.E (fun e=>M e*f e.2)=su V (fun v=>f v*su K.E (fun m=>if m.2=v then M m else 0)):=by
  have:∀ e∈K.E,M e*f e.2=su V (fun v=>f v*(if e.2=v then M e else 0)):=by
   intro e he
   have:=ZA hV (hE e he).2 (fun v=>f v*M e)
   rw[xn,←this]
   apply Qk
   intro v _
   by_cases q:e.2=v
   ·simp[q]
   ·have:¬ v=e.2:=fun h=>q h.symm
    simp[q,this]
  rw[Qk this,Xj]
  apply Qk;intro v _
  rw[Z6]
 have a1:su K.E (fun e=>M e*f e.1)=su V (fun v=>f v*su K.E (fun m=>if m.1=v then M m else 0)):=by
  have:∀ e∈K.E,M e*f e.1=su V (fun v=>f v*(if e.1=v then M e else 0)):=by
   intro e he
   have:=ZA hV (hE e he).1 (fun v=>f v*M e)
   rw[xn,←this]
   apply Qk
   intro v _
   by_cases q:e.1=v
   ·simp[q]
   ·have:¬ v=e.1:=fun h=>q h.symm
    simp[q,this]
  rw[Qk this,Xj]
  apply Qk;intro v _
  rw[Z6]
 have:su K.E (fun e=>M e*(f e.2-f e.1))=su K.E (fun e=>M e*f e.2)-su K.E (fun e=>M e*f e.1):=by
  rw[←Z5]
  apply Qk;intro e _
  rw[xD]
 rw[this,a1,a2]
 have:su V (fun v=>f v*su K.E (fun m=>if m.2=v then M m else 0))=su V (fun v=>f v*su K.E (fun m=>if m.1=v then M m else 0)):=by
  apply Qk;intro v _
  rw[hM v]
 lia
structure XW(K:Dr)(nx:Dt→Dt)(pr:Dt→Nat)(d0:Dt)(Rp:List Dt):Prop where
 per:∀ d,K.isDart d→Per nx d (pr d)
 out:K.isDart d0
 zero:∀ N,K.Wd N d0=0
 dart:∀ r∈Rp,K.isDart r
 nodup:Rp.Nodup
 sep:∀ r∈Rp,∀ q∈Rp,q∈wk nx r (pr r)→q=r
 inner:∀ r∈Rp,d0∉wk nx r (pr r)
 all:∀ d,K.isDart d→d∈wk nx d0 (pr d0)∨∃ r∈Rp,d∈wk nx r (pr r)
theorem XW.W{K:Dr}{nx:Dt→Dt}{pr:Dt→Nat}{d0:Dt}{Rp:List Dt}(Z:XW K nx pr d0 Rp)(O:K.Ok)(R:K.Rot nx)(hc:K.Conn)
  {r:Dt} (hr:K.isDart r) (h0:d0∉wk nx r (pr r)) {e:Dt} (he:K.isDart e):K.Wd (QZ (wk nx r (pr r))) e=if e∈wk nx r (pr r) then 1 else 0:=by
 have a:=O.around R hc hr (Z.per r hr) he
 have b:=O.around R hc hr (Z.per r hr) Z.out
 rw[Z.zero,if_neg h0] at b
 lia
theorem XW.cons{K:Dr}{nx:Dt→Dt}{pr:Dt→Nat}{d0:Dt}{Rp:List Dt}(Z:XW K nx pr d0 Rp)(O:K.Ok)(R:K.Rot nx)
  {r:Dt} (hr:K.isDart r):K.Cons (QZ (wk nx r (pr r))):=
 O.closed_cons R hr ((Z.per r hr).nodup O R hr) (by rw[(Z.per r hr).back])
theorem YB{α β:Type}{f:α→β}(hf:∀ a b,f a=f b→a=b){l:List α}(h:l.Nodup):(l.map f).Nodup:=by
 unfold List.Nodup at *
 rw[List.pairwise_map]
 exact h.imp (fun {a b} hab e=>hab (hf a b e))
theorem XW.euler_le{K:Dr}{nx:Dt→Dt}{pr:Dt→Nat}{d0:Dt}{Rp:List Dt}(Z:XW K nx pr d0 Rp)(O:K.Ok)(R:K.Rot nx)(hc:K.Conn)
  {V:List Nat} (hV:V.Nodup) (hE:∀ e∈K.E,e.1∈V∧e.2∈V) (hD:∀ v∈V,∃ x,K.isDart (v,x)):Rp.length+V.length≤K.E.length+1:=by
 apply yf
 intro hcon
 have hv0:d0.1∈V:=by
  rcases Z.out with h | h
  ·exact (hE _ h).1
  ·exact (hE _ h).2
 have hl:(V.erase d0.1).length=V.length-1:=jn hv0
 have hpos:=xG hv0
 have hJ:(Rp.map (Sum.inl (β:=Nat))++(V.erase d0.1).map (Sum.inr (α:=Dt))).Nodup:=by
  rw[Gi]
  refine⟨YB (fun a b h=>by simpa using h) Z.nodup,YB (fun a b h=>by simpa using h) (hV.erase _),?_⟩
  intro a ha b hb e
  obtain⟨x,_,rfl⟩:=List.mem_map.1 ha
  obtain⟨y,_,rfl⟩:=List.mem_map.1 hb
  simp at e
 obtain⟨c,⟨j,hj,hcj⟩,hs⟩:=solve (K.E.map (fun e (z:Dt ⊕ Nat)=>match z with
  | .inl r=>QZ (wk nx r (pr r)) e
  | .inr v=>(if e.2=v then 1 else 0)-(if e.1=v then 1 else 0)))
  (Rp.map (Sum.inl (β:=Nat))++(V.erase d0.1).map (Sum.inr (α:=Dt))) hJ (by simp[hl];lia)
 let f:Nat→Int:=fun v=>if v∈V.erase d0.1 then c (.inr v) else 0
 let M:Dt→Int:=fun e=>su Rp (fun r=>c (.inl r)*QZ (wk nx r (pr r)) e)
 have hpick:∀ w,su (V.erase d0.1) (fun v=>(if w=v then 1 else 0)*c (.inr v))=f w:=by
  intro w
  show _=if w∈V.erase d0.1 then c (.inr w) else 0
  by_cases q:w∈V.erase d0.1
  ·rw[if_pos q,←ZA (hV.erase _) q (fun v=>c (.inr v))]
   apply Qk;intro v _
   rw[Zy]
   by_cases z:w=v
   ·simp[z]
   ·have:¬ v=w:=fun h=>z h.symm
    simp[z,this]
  ·rw[if_neg q]
   apply QX
   intro v hv
   have:w≠v:=by intro e;subst e;exact q hv
   rw[if_neg this,jA]
 have hM:∀ e∈K.E,M e+(f e.2-f e.1)=0:=by
  intro e he
  have:=hs _ (List.mem_map.2 ⟨e,he,rfl⟩)
  rw[XB,su_map,su_map] at this
  simp only at this
  have h1:su Rp (fun r=>QZ (wk nx r (pr r)) e*c (.inl r))=M e:=by
   apply Qk;intro r _
   rw[xn]
  have h2:su (V.erase d0.1) (fun v=>((if e.2=v then 1 else 0)-(if e.1=v then 1 else 0))*c (.inr v))=f e.2-f e.1:=by
   rw[←hpick e.2,←hpick e.1,←Z5]
   apply Qk;intro v _
   rw[GU]
  rw[h1,h2] at this
  exact this
 have hMc:K.Cons M:=cons_sum Rp (fun r=>c (.inl r)) (fun r=>QZ (wk nx r (pr r))) (fun r hr=>Z.cons O R (Z.dart r hr))
 have hz:=cons_grad hV hE hMc f
 have hsq:su K.E (fun e=>M e*M e)=0:=by
  have:su K.E (fun e=>M e*M e) = - su K.E (fun e=>M e*(f e.2-f e.1)):=by
   rw[←zt]
   apply Qk;intro e he
   have:=hM e he
   have h:f e.2-f e.1 = - M e:=by lia
   rw[h,Int.mul_neg,Int.neg_neg]
  lia
 have hM0:∀ e∈K.E,M e=0:=by
  intro e he
  have:=su_eq_zero (l:=K.E) (f:=fun e=>M e*M e) (fun e _=>by
   rcases Ug 0 (M e) with h | h
   ·exact jN h h
   ·exact yP h h) hsq e he
  rcases Int.mul_eq_zero.1 this with h | h <;> exact h
 have hin:∀ r∈Rp,c (.inl r)=0:=by
  intro r hr
  have w:=O.Wd_zero hM0 (Z.dart r hr)
  rw[O.Wd_sum Rp (fun r=>c (.inl r)) (fun r=>QZ (wk nx r (pr r))) (Z.dart r hr)] at w
  refine (ZA Z.nodup hr (fun r=>c (.inl r))).symm.trans ((Qk ?_).trans w)
  intro q hq
  rw[Z.W O R hc (Z.dart q hq) (Z.inner q hq) (Z.dart r hr)]
  by_cases z:q=r
  ·subst z
   have:q∈wk nx q (pr q):=(Z.per q (Z.dart q hq)).mem.2 ⟨0,rfl⟩
   rw[if_pos this];simp
  ·have:r∉wk nx q (pr q):=fun h=>z (Z.sep q hq r hr h).symm
   rw[if_neg this];simp[z]
 have hf:∀ x,K.isDart x→f x.1=0→f x.2=0:=by
  intro x hx h
  rcases hx with hx | hx
  ·have a:=hM _ hx
   rw[hM0 _ hx] at a;lia
  ·have a:=hM _ hx
   rw[hM0 _ hx] at a;simp only at a;lia
 rcases List.mem_append.1 hj with h | h
 ·obtain⟨r,hr,rfl⟩:=List.mem_map.1 h
  exact hcj (hin r hr)
 ·obtain⟨v,hv,rfl⟩:=List.mem_map.1 h
  obtain⟨x,hx⟩:=hD v (jd hv)
  have f0:f d0.1=0:=if_neg (List.Nodup.not_mem_erase hV)
  have:=hc (fun w=>f w=0) d0 (v,x) Z.out hx hf f0
  have e:f v=c (.inr v):=if_pos hv
  exact hcj (by rw[←e];exact this)
theorem XW.euler_ge{K:Dr}{nx:Dt→Dt}{pr:Dt→Nat}{d0:Dt}{Rp:List Dt}(Z:XW K nx pr d0 Rp)(O:K.Ok)(R:K.Rot nx)
  {V:List Nat} (hV:V.Nodup) (hE:∀ e∈K.E,e.1∈V∧e.2∈V):K.E.length+1≤Rp.length+V.length:=by
 apply yf
 intro hcon
 have hv0:d0.1∈V:=by
  rcases Z.out with h | h
  ·exact (hE _ h).1
  ·exact (hE _ h).2
 have hl:(V.erase d0.1).length=V.length-1:=jn hv0
 have hpos:=xG hv0
 obtain⟨N,⟨j,hj,hcj⟩,hs⟩:=solve ((V.erase d0.1).map (fun v (e:Dt)=>(if e.2=v then 1 else 0)-(if e.1=v then 1 else 0))++Rp.map (fun r e=>K.cw r e))
  K.E O.nodup (by simp[hl];lia)
 have h1:∀ v∈V.erase d0.1,su K.E (fun m=>if m.2=v then N m else 0)=su K.E (fun m=>if m.1=v then N m else 0):=by
  intro v hv
  have:=hs _ (GC _ (List.mem_map.2 ⟨v,hv,rfl⟩))
  have e:su K.E (fun m=>((if m.2=v then 1 else 0)-(if m.1=v then 1 else 0))*N m)=su K.E (fun m=>if m.2=v then N m else 0)-su K.E (fun m=>if m.1=v then N m else 0):=by
   rw[←Z5]
   apply Qk;intro m _
   rw[GU,Zy,Zy]
  rw[e] at this
  lia
 have tot:∀(g:Dt→Nat),(∀ e∈K.E,g e∈V)→su V (fun v=>su K.E (fun m=>if g m=v then N m else 0))=su K.E N:=by
  intro g hg
  rw[Xj]
  apply Qk;intro m hm
  refine (Qk ?_).trans (ZA hV (hg m hm) (fun _=>N m))
  intro v _
  by_cases q:g m=v
  ·simp[q]
  ·have:¬ v=g m:=fun h=>q h.symm
   simp[q,this]
 have t2:=tot (fun m=>m.2) (fun e he=>(hE e he).2)
 have t1:=tot (fun m=>m.1) (fun e he=>(hE e he).1)
 have C:K.Cons N:=by
  intro v
  by_cases hv:v∈V
  ·by_cases q:v=d0.1
   ·subst q
    rw[XA hv0] at t1 t2
    have:su (V.erase d0.1) (fun v=>su K.E (fun m=>if m.2=v then N m else 0))=su (V.erase d0.1) (fun v=>su K.E (fun m=>if m.1=v then N m else 0)):=
     Qk h1
    lia
   ·exact h1 v ((xR q).2 hv)
  ·rw[QX (fun m hm=>if_neg (fun (e:m.2=v)=>hv (by rw[←e];exact (hE m hm).2))),
    QX (fun m hm=>if_neg (fun (e:m.1=v)=>hv (by rw[←e];exact (hE m hm).1)))]
 have W0:∀ d,K.isDart d→K.Wd N d=0:=by
  intro d hd
  rcases Z.all d hd with h | ⟨r,hr,h⟩
  ·obtain⟨i,_,rfl⟩:=Zb.1 h
   rw[O.W_it R C Z.out,Z.zero]
  ·obtain⟨i,_,rfl⟩:=Zb.1 h
   rw[O.W_it R C (Z.dart r hr),O.Wd_cw N (Z.dart r hr)]
   exact hs _ (yW _ (List.mem_map.2 ⟨r,hr,rfl⟩))
 have w1:=O.W1 N (d:=j) (Or.inl hj)
 rw[W0 j (Or.inl hj),W0 (j.2,j.1) (Or.inr hj)] at w1
 unfold Dr.fl at w1
 rw[if_pos (O.left j hj)] at w1
 lia
end Pl
namespace Pl
theorem top_of{α:Type}(h:α→Int):∀(l:List α),l≠[]→∃ m∈l,∀ x∈l,h x≤h m
 | [],hn=>absurd rfl hn
 | [a],_=>⟨a,by simp,by simp⟩
 | a::b::l,_=>by
  obtain⟨m,hm,hx⟩:=top_of h (b::l) (by simp)
  by_cases q:h a≤h m
  ·refine⟨m,ym _ hm,?_⟩
   intro x hx'
   rcases List.mem_cons.1 hx' with rfl | hx'
   ·exact q
   ·exact hx x hx'
  ·refine⟨a,by simp,?_⟩
   intro x hx'
   rcases List.mem_cons.1 hx' with rfl | hx'
   ·lia
   ·have:=hx x hx';lia
theorem abel{α:Type} [DecidableEq α] (h N:α→Int):∀(n:Nat)(l:List α),l.length=n→l.Nodup→(∀ x∈l,∀ y∈l,h x=h y→x=y)→
  (∀ m∈l,0≤su l (fun x=>if h x≤h m then N x else 0))→∀ H,(∀ m∈l,h m≤H)→
  su l (fun x=>N x*h x)≤su l N*H∧((∃ y,y<H∧0<su l (fun x=>if h x≤y then N x else 0))→su l (fun x=>N x*h x)<su l N*H):=by
 intro n
 induction n with
 | zero=>
  intro l hl _ _ _ H _
  have:l=[]:=by cases l <;> simp_all
  subst this
  refine⟨by simp[ZB],?_⟩
  rintro⟨y,_,h⟩
  simp[ZB] at h
 | succ n ih=>
  intro l hl hn hinj hpos H hH
  obtain⟨m,hm,htop⟩:=top_of h l (by intro e;subst e;simp at hl)
  have hne:∀ x∈l.erase m,x≠m:=by
   intro x hx e;subst e
   exact (List.Nodup.not_mem_erase hn) hx
  have hlt:∀ x∈l.erase m,h x<h m:=by
   intro x hx
   have h1:=htop x (jd hx)
   have h2:h x≠h m:=fun e=>hne x hx (hinj x (jd hx) m hm e)
   lia
  have hpart:∀ y,y<h m→su l (fun x=>if h x≤y then N x else 0)=su (l.erase m) (fun x=>if h x≤y then N x else 0):=by
   intro y hy
   rw[XA hm,if_neg (by lia)];lia
  have hwhole:∀ y,h m≤y→su l (fun x=>if h x≤y then N x else 0)=su l N:=by
   intro y hy
   apply Qk
   intro x hx
   have:=htop x hx
   rw[if_pos (by lia)]
  have key:=ih (l.erase m) (by rw[jn hm];lia) (hn.erase m)
   (fun x hx y hy=>hinj x (jd hx) y (jd hy))
   (fun x hx=>by rw[←hpart (h x) (hlt x hx)];exact hpos x (jd hx))
   (h m) (fun x hx=>by have:=hlt x hx;lia)
  have e1:su l (fun x=>N x*h x)=N m*h m+su (l.erase m) (fun x=>N x*h x):=XA hm _
  have e2:su l N=N m+su (l.erase m) N:=XA hm _
  have tot:0≤su l N:=by rw[←hwhole (h m) (GV _)];exact hpos m hm
  have hmH:=hH m hm
  have e3:su l N*h m=N m*h m+su (l.erase m) N*h m:=by rw[e2,Int.add_mul]
  have le1:su l N*h m≤su l N*H:=xE hmH tot
  constructor
  ·have:=key.1
   lia
  ·rintro⟨y,hy,hy0⟩
   by_cases q:y<h m
   ·have:=key.2 ⟨y,q,by rw[←hpart y q];exact hy0⟩
    lia
   ·rw[hwhole y (by lia)] at hy0
    have lt1:su l N*h m<su l N*H:=Int.mul_lt_mul_of_pos_left (by lia) hy0
    have:=key.1
    lia
def Dr.tot(K:Dr)(N:Dt→Int)(t:Int):Int:=su K.E (fun m=>if K.act m t then N m else 0)
theorem Dr.Ok.tot_step{K:Dr}(O:K.Ok){N:Dt→Int}(C:K.Cons N)(t:Int):K.tot N (t+1)=K.tot N t:=by
 have hc:su K.E (fun m=>if K.X m.2=t+1 then N m else 0)=su K.E (fun m=>if K.X m.1=t+1 then N m else 0):=by
  by_cases hv:∃ v,K.isEnd v∧K.X v=t+1
  ·obtain⟨v,hv,hx⟩:=hv
   have:=C v
   rw[←hx]
   refine Eq.trans (Qk fun m hm=>?_) (this.trans (Qk fun m hm=>?_))
   ·simp only[O.end2 hv hm]
   ·simp only[O.end1 hv hm]
  ·rw[QX,QX]
   ·intro m hm
    exact if_neg (fun h=>hv ⟨m.1,⟨m,hm,Or.inl rfl⟩,h⟩)
   ·intro m hm
    exact if_neg (fun h=>hv ⟨m.2,⟨m,hm,Or.inr rfl⟩,h⟩)
 have:∀ m∈K.E,(if K.act m (t+1) then N m else 0)=(if K.act m t then N m else 0)+((if K.X m.1=t+1 then N m else 0)-(if K.X m.2=t+1 then N m else 0)):=by
  intro m hm
  have:=O.left m hm
  unfold Dr.act
  by_cases a:K.X m.1=t+1
  ·rw[if_pos a,if_neg (c:=K.X m.2=t+1) (by lia),if_pos (by lia),if_neg (by lia)];lia
  ·by_cases b:K.X m.2=t+1
   ·rw[if_neg a,if_pos b,if_neg (by lia),if_pos (by lia)];lia
   ·rw[if_neg a,if_neg b]
    by_cases c:K.X m.1≤t∧t<K.X m.2
    ·rw[if_pos c,if_pos (by lia)];lia
    ·rw[if_neg c,if_neg (by lia)];lia
 unfold Dr.tot
 rw[Qk this,Zu,Z5,hc];lia
theorem Dr.Ok.tot_zero{K:Dr}(O:K.Ok){N:Dt→Int}(C:K.Cons N){lo:Int}(hlo:∀ e∈K.E,lo≤K.X e.1)(i:Nat):K.tot N (lo-1+i)=0:=by
 induction i with
 | zero=>
  apply QX
  intro m hm
  have:=hlo m hm
  apply if_neg
  unfold Dr.act
  lia
 | succ i ih=>
  have:=O.tot_step C (lo-1+i)
  rw[ih] at this
  rw[←this]
  congr 1
  lia
theorem Dr.Ok.slab{K:Dr}(O:K.Ok){N:Dt→Int}(C:K.Cons N)(hp:∀ m∈K.E,0≤K.Wd N m){t:Int}(h0:K.tot N t=0) :
  su K.E (fun m=>if K.act m t then N m*K.h m (2*t+1) else 0)≤0∧
  ((∃ m∈K.E,K.act m t∧(0<K.Wd N m∨0<K.Wd N (m.2,m.1)))→su K.E (fun m=>if K.act m t then N m*K.h m (2*t+1) else 0)<0):=by
 let l:=K.E.filter (fun m=>decide (K.act m t))
 have hmem:∀ m,m∈l↔m∈K.E∧K.act m t:=by intro m;simp[l]
 have tr:∀ f:Dt→Int,su K.E (fun m=>if K.act m t then f m else 0)=su l f:=by
  intro f
  show _=su (K.E.filter (fun m=>decide (K.act m t))) f
  rw[su_filter]
  apply Qk;intro m _
  simp only[decide_eq_true_eq]
 have hb:∀(e:Dt)(y:Int),(∀ m∈K.E,K.act m t→(K.h m (2*t+1)≤y↔K.h m (2*t+1)<K.h e (2*t+1)))→
   su l (fun x=>if K.h x (2*t+1)≤y then N x else 0)=K.bl N e t:=by
  intro e y hy
  rw[←tr]
  unfold Dr.bl
  apply Qk
  intro m hm
  by_cases a:K.act m t
  ·rw[if_pos a]
   by_cases b:K.h m (2*t+1)≤y
   ·rw[if_pos b,if_pos ⟨a,(hy m hm a).1 b⟩]
   ·rw[if_neg b,if_neg (fun h=>b ((hy m hm a).2 h.2))]
  ·rw[if_neg a,if_neg (fun h=>a h.1)]
 have hr:∀ m∈l,su l (fun x=>if K.h x (2*t+1)≤K.h m (2*t+1) then N x else 0)=K.Wd N m:=by
  intro m hm
  obtain⟨hm,ha⟩:=(hmem m).1 hm
  have hl:=O.left m hm
  have e1:su l (fun x=>if K.h x (2*t+1)≤K.h m (2*t+1) then N x else 0)=su l (fun x=>if K.h x (2*t+1)<K.h m (2*t+1) then N x else 0)+N m:=by
   have hn:l.Nodup:=O.nodup.filter _
   rw[←ZA hn ((hmem m).2 ⟨hm,ha⟩) N,←Zu]
   apply Qk
   intro x hx
   obtain⟨hx,hxa⟩:=(hmem x).1 hx
   by_cases q:x=m
   ·subst q;simp
   ·have d:=O.distinct hx hm q (t:=2*t+1) (by unfold Dr.act at *;lia) (by unfold Dr.act at *;lia) (by unfold Dr.act at *;lia) (by unfold Dr.act at *;lia)
    rw[if_neg q]
    by_cases z:K.h x (2*t+1)<K.h m (2*t+1)
    ·rw[if_pos z,if_pos (by lia)];lia
    ·rw[if_neg z,if_neg (by lia)];lia
  have e2:su l (fun x=>if K.h x (2*t+1)<K.h m (2*t+1) then N x else 0)=K.bl N m t:=by
   rw[←hb m (K.h m (2*t+1)-1) (fun x _ _=>by lia)]
   apply Qk;intro x _
   by_cases z:K.h x (2*t+1)<K.h m (2*t+1)
   ·rw[if_pos z,if_pos (by lia)]
   ·rw[if_neg z,if_neg (by lia)]
  rw[e1,e2]
  unfold Dr.Wd
  rw[if_pos hl,O.bl_const C hm ha (u:=K.X m.1) (by unfold Dr.act;lia)]
 have hinj:∀ x∈l,∀ y∈l,K.h x (2*t+1)=K.h y (2*t+1)→x=y:=by
  intro x hx y hy e
  obtain⟨hx,hxa⟩:=(hmem x).1 hx
  obtain⟨hy,hya⟩:=(hmem y).1 hy
  apply yf
  intro q
  exact O.distinct hx hy q (t:=2*t+1) (by unfold Dr.act at *;lia) (by unfold Dr.act at *;lia) (by unfold Dr.act at *;lia) (by unfold Dr.act at *;lia) e
 have hH:∃ H,∀ m∈l,K.h m (2*t+1)<H:=by
  by_cases q:l=[]
  ·exact⟨0,by simp[q]⟩
  ·obtain⟨m,_,hm⟩:=top_of (fun m=>K.h m (2*t+1)) l q
   exact⟨K.h m (2*t+1)+1,fun x hx=>by have:=hm x hx;lia⟩
 obtain⟨H,hH⟩:=hH
 have A:=abel (fun m=>K.h m (2*t+1)) N l.length l rfl (O.nodup.filter _) hinj (fun m hm=>by
  have:=hr m hm
  rw[this]
  exact hp m ((hmem m).1 hm).1) H (fun m hm=>by have:=hH m hm;lia)
 have t0:su l N=0:=by rw[←tr];exact h0
 rw[t0,jA] at A
 rw[tr (fun m=>N m*K.h m (2*t+1))]
 refine⟨A.1,?_⟩
 rintro⟨m,hm,ha,hw⟩
 apply A.2
 have hml:=(hmem m).2 ⟨hm,ha⟩
 have hl:=O.left m hm
 rcases hw with hw | hw
 ·exact⟨K.h m (2*t+1),hH m hml,by have:=hr m hml;rw[this];exact hw⟩
 ·refine⟨K.h m (2*t+1)-1,by have:=hH m hml;lia,?_⟩
  have e:=hb m (K.h m (2*t+1)-1) (fun x _ _=>by lia)
  rw[e]
  unfold Dr.Wd at hw
  rw[if_neg (by show ¬ K.X m.2<K.X m.1;lia)] at hw
  have hw:0<K.bl N m (K.X m.1):=hw
  rw[O.bl_const C hm ha (u:=K.X m.1) (by unfold Dr.act;lia)]
  exact hw
theorem Dr.Ok.strip{K:Dr}(O:K.Ok){m:Dt}(hm:m∈K.E){lo:Int}(hlo:lo≤K.X m.1)(n:Nat) :
  su (yj n) (fun i=>if K.act m (lo+i) then K.h m (2*(lo+i)+1) else 0) =
   2*(K.D*K.Y m.1)*(min (max (lo+n) (K.X m.1)) (K.X m.2)-K.X m.1)+K.s m*((min (max (lo+n) (K.X m.1)) (K.X m.2)-K.X m.1)*(min (max (lo+n) (K.X m.1)) (K.X m.2)-K.X m.1)):=by
 have hl:=O.left m hm
 induction n with
 | zero=>
  rw[show min (max (lo+(0:Nat)) (K.X m.1)) (K.X m.2)=K.X m.1 by lia]
  simp[ZB]
 | succ n ih=>
  rw[xf,XB,QN,ZB,ih]
  by_cases a:K.act m (lo+n)
  ·rw[if_pos a]
   unfold Dr.act at a
   rw[show min (max (lo+(n:Nat)) (K.X m.1)) (K.X m.2)=lo+n by lia,show min (max (lo+((n+1:Nat):Int)) (K.X m.1)) (K.X m.2)=lo+n+1 by lia]
   unfold Dr.h
   grind
  ·rw[if_neg a]
   unfold Dr.act at a
   rw[show min (max (lo+((n+1:Nat):Int)) (K.X m.1)) (K.X m.2)=min (max (lo+(n:Nat)) (K.X m.1)) (K.X m.2) by lia]
   lia
def Dr.ar(K:Dr)(m:Dt):Int:=(K.X m.2-K.X m.1)*(K.Y m.1+K.Y m.2)
theorem Dr.Ok.strip_all{K:Dr}(O:K.Ok){m:Dt}(hm:m∈K.E){lo:Int}(hlo:lo≤K.X m.1){n:Nat}(hn:K.X m.2≤lo+n) :
  su (yj n) (fun i=>if K.act m (lo+i) then K.h m (2*(lo+i)+1) else 0)=K.D*K.ar m:=by
 have hl:=O.left m hm
 rw[O.strip hm hlo,show min (max (lo+(n:Nat)) (K.X m.1)) (K.X m.2)=K.X m.2 by lia]
 have:=O.slope m hm
 unfold Dr.ar
 grind
theorem zj(f:Dt→Int):∀ l:List Dt,∃ lo,∀ m∈l,lo≤f m
 | []=>⟨0,by simp⟩
 | a::l=>by
  obtain⟨lo,h⟩:=zj f l
  refine⟨min lo (f a),?_⟩
  intro m hm
  rcases List.mem_cons.1 hm with rfl | hm
  ·lia
  ·have:=h m hm;lia
theorem qv(f:Dt→Int):∀ l:List Dt,∃ hi,∀ m∈l,f m≤hi
 | []=>⟨0,by simp⟩
 | a::l=>by
  obtain⟨lo,h⟩:=qv f l
  refine⟨max lo (f a),?_⟩
  intro m hm
  rcases List.mem_cons.1 hm with rfl | hm
  ·lia
  ·have:=h m hm;lia
theorem Dr.Ok.area{K:Dr}(O:K.Ok){N:Dt→Int}(C:K.Cons N)(hp:∀ m∈K.E,0≤K.Wd N m) :
  su K.E (fun m=>N m*K.ar m)≤0∧((∃ m∈K.E,0<K.Wd N m∨0<K.Wd N (m.2,m.1))→su K.E (fun m=>N m*K.ar m)<0):=by
 obtain⟨lo,hlo⟩:=zj (fun m=>K.X m.1) K.E
 obtain⟨hi,hhi⟩:=qv (fun m=>K.X m.2) K.E
 let n:=(hi-lo).toNat
 have hn:∀ m∈K.E,K.X m.2≤lo+n:=by
  intro m hm
  have:=hhi m hm
  have:=hlo m hm
  have:=O.left m hm
  simp only[n];lia
 have e:K.D*su K.E (fun m=>N m*K.ar m)=su (yj n) (fun i=>su K.E (fun m=>if K.act m (lo+i) then N m*K.h m (2*(lo+i)+1) else 0)):=by
  rw[←Z6,Xj]
  apply Qk
  intro m hm
  rw[show K.D*(N m*K.ar m)=N m*(K.D*K.ar m) by rw[Go],←O.strip_all hm (hlo m hm) (hn m hm),←Z6]
  apply Qk
  intro i _
  by_cases a:K.act m (lo+i)
  ·rw[if_pos a,if_pos a]
  ·rw[if_neg a,if_neg a,xI]
 have h0:∀ i:Nat,K.tot N (lo+i)=0:=by
  intro i
  have:=O.tot_zero C hlo (i+1)
  rw[←this]
  congr 1
  lia
 have s1:∀ i∈yj n,su K.E (fun m=>if K.act m (lo+(i:Nat)) then N m*K.h m (2*(lo+i)+1) else 0)≤0:=fun i _=>(O.slab C hp (h0 i)).1
 have hd:=O.dpos
 constructor
 ·have:0≤- su (yj n) (fun i=>su K.E (fun m=>if K.act m (lo+i) then N m*K.h m (2*(lo+i)+1) else 0)):=by
   rw[←zt]
   exact qN (fun i hi=>by have:=s1 i hi;lia)
  rw[←e] at this
  apply yf
  intro hc
  have:0<K.D*su K.E (fun m=>N m*K.ar m):=jX hd (by lia)
  lia
 ·rintro⟨m,hm,hw⟩
  have hl:=O.left m hm
  have h1:=hlo m hm
  have h2:=hn m hm
  have:0 < - su (yj n) (fun i=>su K.E (fun m=>if K.act m (lo+i) then N m*K.h m (2*(lo+i)+1) else 0)):=by
   rw[←zt]
   have he:lo+((K.X m.1-lo).toNat:Nat)=K.X m.1:=by lia
   refine su_pos (fun i hi=>by have:=s1 i hi;lia) (x:=(K.X m.1-lo).toNat) (by rw[List.mem_range];lia) ?_
   have:=(O.slab C hp (h0 (K.X m.1-lo).toNat)).2 ⟨m,hm,by unfold Dr.act;lia,hw⟩
   lia
  rw[←e] at this
  apply yf
  intro hc
  have:0≤K.D*su K.E (fun m=>N m*K.ar m):=jN (by lia) (by lia)
  lia
end Pl
namespace Pl
open Gla (Pt Plan)
theorem firstAt_none{α:Type}{p:Nat→α→Bool}{l:List α}:yH p l=none↔∀(i:Nat)(h:i<l.length),p i l[i]=false:=by
 unfold yH
 simp only[Gq,y6]
 constructor
 ·intro h i hi
  have:=h (l[i],i) (by rw[GD];simp[hi])
  simpa using this
 ·rintro h ⟨x,i⟩ hx
  rw[GD] at hx
  simp only at hx
  obtain⟨hi,e⟩:=List.getElem?_eq_some_iff.1 hx
  have:=h i hi
  rw[e] at this
  simp[this]
theorem firstBad_none{α:Type}{ok:α→Bool}{before:α→α→Bool}{l:List α}(h:ju ok before l=none) :
  (∀ x∈l,ok x=true)∧(∀(i:Nat)(hi:i+1<l.length),before l[i] l[i+1]=true):=by
 unfold ju at h
 rw[firstAt_none] at h
 constructor
 ·intro x hx
  obtain⟨i,hi,rfl⟩:=List.mem_iff_getElem.1 hx
  have:=h i hi
  simp only[xS,GO] at this
  exact this.1
 ·intro i hi
  have:=h (i+1) hi
  simp only[xS,GO] at this
  have h2:=this.2
  simp only[Gb,Nat.zero_lt_succ,decide_true,jh] at h2
  rw[yd (by lia)] at h2
  simpa using h2
theorem sorted_of{α:Type}{before:α→α→Bool}(tr:∀ a b c,before a b=true→before b c=true→before a c=true){l:List α}
  (h:∀(i:Nat)(hi:i+1<l.length),before l[i] l[i+1]=true):∀(i j:Nat)(hij:i<j)(hj:j<l.length),before l[i] l[j]=true:=by
 intro i j hij
 induction j with
 | zero=>lia
 | succ j ih=>
  intro hj
  by_cases q:i=j
  ·subst q;exact h i hj
  ·exact tr _ _ _ (ih (by lia) (by lia)) (h j hj)
theorem below_trans(a b c:Pt)(h1:a.below b=true)(h2:b.below c=true):a.below c=true:=by
 unfold Pt.below at *
 simp only[y8,yk,decide_eq_true_eq,beq_iff_eq] at *
 lia
theorem lineBelow_trans(a b c:Nat×Nat)(h1:jq a b=true)(h2:jq b c=true):jq a c=true:=by
 unfold jq at *
 simp only[y8,yk,decide_eq_true_eq,beq_iff_eq] at *
 lia
structure Fine(S:Plan):Prop where
 w:S.w≤1048575
 h:S.h≤1048575
 box:∀ p∈S.pts,p.x≤S.w∧p.y≤S.h
 pts:∀(i j:Nat)(_:i<j)(hj:j<S.pts.length),(S.pts[i]).below S.pts[j]=true
 lines:∀ l∈S.lines,l.1<l.2∧l.2<S.pts.length
 sorted:∀(i j:Nat)(_:i<j)(hj:j<S.lines.length),jq S.lines[i] S.lines[j]=true
 on:∀ l∈S.lines,∀ k,k<S.pts.length→k≠l.1→k≠l.2→jw (S.pt l.1) (S.pt l.2) (S.pt k)=false
 cross:∀ l∈S.lines,∀ m∈S.lines,l≠m→jb (S.pt l.1) (S.pt l.2) (S.pt m.1) (S.pt m.2)=false
theorem ZI(p q r s:Pt):jb p q r s=jb r s p q:=by
 unfold jb
 rw[Bool.and_comm]
theorem fine_of{S:Plan}(hw:S.w≤1048575)(hh:S.h≤1048575)
  (h4:ju (fun (p:Pt)=>decide (p.x≤S.w)&&decide (p.y≤S.h)) Pt.below S.pts=none)
  (h5:ju (fun (l:Nat×Nat)=>decide (l.1<l.2)&&decide (l.2<S.pts.length)) jq S.lines=none)
  (h7:yH (xo S) S.lines=none):Fine S:=by
 obtain⟨a4,b4⟩:=firstBad_none h4
 obtain⟨a5,b5⟩:=firstBad_none h5
 rw[firstAt_none] at h7
 refine⟨hw,hh,?_,sorted_of below_trans b4,?_,sorted_of lineBelow_trans b5,?_,?_⟩
 ·intro p hp
  have:=a4 p hp
  simpa using this
 ·intro l hl
  have:=a5 l hl
  simpa using this
 ·intro l hl k hk h1 h2
  obtain⟨i,hi,rfl⟩:=List.mem_iff_getElem.1 hl
  have:=h7 i hi
  unfold xo at this
  rw[xS] at this
  have:=this.1
  rw[jO] at this
  have:=this k (List.mem_range.2 hk)
  simpa [h1,h2] using this
 ·intro l hl m hm hne
  obtain⟨i,hi,rfl⟩:=List.mem_iff_getElem.1 hl
  obtain⟨j,hj,rfl⟩:=List.mem_iff_getElem.1 hm
  have key:∀(i j:Nat)(hi:i<S.lines.length)(hj:j<S.lines.length),j<i→jb (S.pt S.lines[i].1) (S.pt S.lines[i].2) (S.pt S.lines[j].1) (S.pt S.lines[j].2)=false:=by
   intro i j hi hj hij
   have:=h7 i hi
   unfold xo at this
   rw[xS] at this
   have:=this.2
   rw[jO] at this
   have:=this S.lines[j] (by
    rw[List.mem_iff_getElem]
    exact⟨j,by simp;lia,by simp⟩)
   simpa using this
  rcases jP i j with h | h | h
  ·rw[ZI];exact key j i hj hi h
  ·subst h;exact absurd rfl hne
  ·exact key i j hi hj h
theorem Fine.nodup{S:Plan}(F:Fine S):S.lines.Nodup:=by
 unfold List.Nodup
 rw[j9]
 intro i j hi hj hij e
 have:=F.sorted i j hij hj
 rw[e] at this
 unfold jq at this
 simp at this
theorem pt_eq{S:Plan}{i:Nat}(h:i<S.pts.length):S.pt i=S.pts[i]:=by
 unfold Plan.pt
 simp[h]
theorem Fine.pt_inj{S:Plan}(F:Fine S){i j:Nat}(hi:i<S.pts.length)(hj:j<S.pts.length)(h:S.pt i=S.pt j):i=j:=by
 rw[pt_eq hi,pt_eq hj] at h
 rcases jP i j with q | q | q
 ·have:=F.pts i j q hj
  rw[h] at this
  unfold Pt.below at this
  simp at this
 ·exact q
 ·have:=F.pts j i q hi
  rw[h] at this
  unfold Pt.below at this
  simp at this
theorem Fine.pt_box{S:Plan}(F:Fine S){i:Nat}(hi:i<S.pts.length):(S.pt i).x≤S.w∧(S.pt i).y≤S.h:=by
 rw[pt_eq hi]
 exact F.box _ (yo hi)
def XP(p:Pt):Int:=1048576*(p.x:Int)+(p.y:Int)
def YP(p:Pt):Int:=(p.y:Int)
theorem XP_inj{p q:Pt}(hp:p.y≤1048575)(hq:q.y≤1048575)(h:XP p=XP q):p=q:=by
 unfold XP at h
 have:p.x=q.x∧p.y=q.y:=by lia
 cases p;cases q;simp_all
def ori(S:Plan)(l:Nat×Nat):Nat×Nat:=if XP (S.pt l.1)<XP (S.pt l.2) then l else (l.2,l.1)
def prodX(S:Plan):List (Nat×Nat)→Int
 | []=>1
 | e::r=>(XP (S.pt e.2)-XP (S.pt e.1))*prodX S r
theorem qV(S:Plan):∀ (l:List (Nat×Nat)) (e:Nat×Nat),e∈l→(XP (S.pt e.2)-XP (S.pt e.1)) ∣ prodX S l
 | [],e,h=>by simp at h
 | a::r,e,h=>by
  rcases List.mem_cons.1 h with rfl | h
  ·exact Int.dvd_mul_right _ _
  ·exact Int.dvd_trans (qV S r e h) (Int.dvd_mul_left _ _)
theorem qU(S:Plan):∀ (l:List (Nat×Nat)),(∀ e∈l,XP (S.pt e.1)<XP (S.pt e.2))→0<prodX S l
 | [],_=>by show (0:Int)<1;decide
 | a::r,h=>jX (by have:=h a (by simp);lia) (qU S r (fun e he=>h e (by simp[he])))
def dr(S:Plan):Dr where
 X:=fun i=>XP (S.pt i)
 Y:=fun i=>YP (S.pt i)
 E:=S.lines.map (ori S)
 D:=prodX S (S.lines.map (ori S))
 s:=fun e=>(YP (S.pt e.2)-YP (S.pt e.1))*(prodX S (S.lines.map (ori S))/(XP (S.pt e.2)-XP (S.pt e.1)))
theorem Fine.X_inj{S:Plan}(F:Fine S){i j:Nat}(hi:i<S.pts.length)(hj:j<S.pts.length) (h:XP (S.pt i)=XP (S.pt j)):i=j:=by
 have a:=F.pt_box hi
 have b:=F.pt_box hj
 have:=F.h
 exact F.pt_inj hi hj (XP_inj (by lia) (by lia) h)
theorem Fine.ori_cases{S:Plan}(F:Fine S){l:Nat×Nat}(h:l∈S.lines) :
  (XP (S.pt l.1)<XP (S.pt l.2)∧ori S l=l)∨(XP (S.pt l.2)<XP (S.pt l.1)∧ori S l=(l.2,l.1)):=by
 have ⟨a,b⟩:=F.lines l h
 unfold ori
 by_cases q:XP (S.pt l.1)<XP (S.pt l.2)
 ·exact Or.inl ⟨q,if_pos q⟩
 ·right
  refine⟨?_,if_neg q⟩
  have:XP (S.pt l.1)≠XP (S.pt l.2):=fun e=>by
   have:=F.X_inj (by lia) (by lia) e;lia
  lia
theorem Fine.E_left{S:Plan}(F:Fine S){e:Nat×Nat} (he:e∈(dr S).E):XP (S.pt e.1)<XP (S.pt e.2):=by
 obtain⟨l,hl,rfl⟩:=List.mem_map.1 he
 rcases F.ori_cases hl with ⟨a,b⟩ | ⟨a,b⟩
 ·rw[b];exact a
 ·rw[b];exact a
theorem Fine.E_lt{S:Plan}(F:Fine S){e:Nat×Nat} (he:e∈(dr S).E):e.1<S.pts.length∧e.2<S.pts.length:=by
 obtain⟨l,hl,rfl⟩:=List.mem_map.1 he
 have:=F.lines l hl
 rcases F.ori_cases hl with ⟨a,b⟩ | ⟨a,b⟩
 ·rw[b];lia
 ·rw[b];simp only;lia
theorem Fine.dpos{S:Plan}(F:Fine S):0<(dr S).D:=qU S _ (fun _ he=>F.E_left he)
theorem Fine.cmul{S:Plan}(F:Fine S){e:Nat×Nat} (he:e∈(dr S).E) :
  (dr S).D=((dr S).D/(XP (S.pt e.2)-XP (S.pt e.1)))*(XP (S.pt e.2)-XP (S.pt e.1))∧0<(dr S).D/(XP (S.pt e.2)-XP (S.pt e.1)):=by
 have h:=qV S _ e he
 have hl:=F.E_left he
 have e1:=(Int.ediv_mul_cancel h).symm
 refine⟨e1,?_⟩
 apply yf
 intro hc
 have:=F.dpos
 have h2:((dr S).D/(XP (S.pt e.2)-XP (S.pt e.1)))*(XP (S.pt e.2)-XP (S.pt e.1))≤0:=j5 (by lia) (by lia)
 have e1':(dr S).D=((dr S).D/(XP (S.pt e.2)-XP (S.pt e.1)))*(XP (S.pt e.2)-XP (S.pt e.1)):=e1
 lia
theorem YG(p q r:Pt):1048576*yh p q r=(XP q-XP p)*(YP r-YP p)-(YP q-YP p)*(XP r-XP p):=by
 unfold yh yQ yR XP YP
 grind
theorem Fine.side{S:Plan}(F:Fine S){e:Nat×Nat} (he:e∈(dr S).E) (z:Pt) :
  ∃ c:Int,0<c∧2*((dr S).D*YP z)-(dr S).h e (2*XP z)=c*yh (S.pt e.1) (S.pt e.2) z:=by
 obtain⟨h1,h2⟩:=F.cmul he
 refine⟨2*((dr S).D/(XP (S.pt e.2)-XP (S.pt e.1)))*1048576,by lia,?_⟩
 have ht:=YG (S.pt e.1) (S.pt e.2) z
 rw[x4,ht]
 unfold Dr.h
 show 2*((dr S).D*YP z)-(2*((dr S).D*YP (S.pt e.1))+(YP (S.pt e.2)-YP (S.pt e.1))*((dr S).D/(XP (S.pt e.2)-XP (S.pt e.1)))*(2*XP z-2*XP (S.pt e.1)))=_
 generalize (dr S).D/(XP (S.pt e.2)-XP (S.pt e.1))=c at *
 rw[h1]
 grind
theorem XC{c x y:Int}(hc:0<c)(h:y=c*x):(0<y↔0<x)∧(y=0↔x=0)∧(y<0↔x<0):=by
 rcases Int.lt_trichotomy x 0 with q | q | q
 ·have:c*x<0:=yN hc q
  lia
 ·subst q;rw[xI] at h;lia
 ·have:0<c*x:=jX hc q
  lia
theorem Fine.side_iff{S:Plan}(F:Fine S){e:Nat×Nat} (he:e∈(dr S).E) (z:Pt) :
  (0<yh (S.pt e.1) (S.pt e.2) z↔(dr S).h e (2*XP z)<2*((dr S).D*YP z))∧
  (yh (S.pt e.1) (S.pt e.2) z=0↔(dr S).h e (2*XP z)=2*((dr S).D*YP z))∧
  (yh (S.pt e.1) (S.pt e.2) z<0↔2*((dr S).D*YP z)<(dr S).h e (2*XP z)):=by
 obtain⟨c,hc,h⟩:=F.side he z
 have:=XC hc h
 lia
theorem Xz(p q r:Pt):yh q p r = - yh p q r:=by
 unfold yh yQ yR
 grind
theorem Jf(a b c:Nat):xp a b c=xp b a c:=by
 unfold xp
 rw[Nat.min_comm,Nat.max_comm]
theorem Jr(p q r:Pt):jw q p r=jw p q r:=by
 unfold jw
 rw[Xz p q r,Jf q.x,Jf q.y]
 have:(- yh p q r==0)=(yh p q r==0):=by
  rw[yw,beq_iff_eq,beq_iff_eq];lia
 rw[this]
theorem JA{d a b m:Int}(hd:0<d)(hm0:0≤m)(hm1:m≤d)(h:d*a=m*b):(0≤b→0≤a∧a≤b)∧(b≤0→b≤a∧a≤0):=by
 constructor
 ·intro hb
  have h1:0≤m*b:=jN hm0 hb
  have h2:m*b≤d*b:=Gx hm1 hb
  rw[←h] at h1 h2
  constructor
  ·apply yf;intro hc
   have:d*a<0:=yN hd (by lia)
   lia
  ·exact GS h2 hd
 ·intro hb
  have h1:m*b≤0:=yL hm0 hb
  have h2:d*b≤m*b:=Int.mul_le_mul_of_nonpos_right hm1 hb
  rw[←h] at h1 h2
  constructor
  ·exact GS h2 hd
  ·apply yf;intro hc
   have:0<d*a:=jX hd (by lia)
   lia
theorem ZZ{p q r:Pt}(h:yh p q r=0)(hpq:XP p<XP q)(h1:XP p≤XP r)(h2:XP r≤XP q):jw p q r=true:=by
 have ht:=YG p q r
 rw[h,xI] at ht
 have ey:(XP q-XP p)*(YP r-YP p)=(XP r-XP p)*(YP q-YP p):=by
  rw[xn (XP r-XP p)];omega
 have ex:(XP q-XP p)*((r.x:Int)-p.x)=(XP r-XP p)*((q.x:Int)-p.x):=by
  have e1:1048576*((XP q-XP p)*((r.x:Int)-p.x))=(XP q-XP p)*((XP r-XP p)-(YP r-YP p)):=by
   unfold XP YP;grind
  have e2:1048576*((XP r-XP p)*((q.x:Int)-p.x))=(XP r-XP p)*((XP q-XP p)-(YP q-YP p)):=by
   unfold XP YP;grind
  have e3:(XP q-XP p)*((XP r-XP p)-(YP r-YP p))=(XP r-XP p)*((XP q-XP p)-(YP q-YP p)):=by
   rw[xD,xD (XP r-XP p),ey,xn (XP q-XP p) (XP r-XP p)]
  omega
 have by':=JA (by lia) (by lia) (by lia) ey
 have bx:=JA (by lia) (by lia) (by lia) ex
 unfold jw xp
 unfold YP at by'
 simp only[yk,beq_iff_eq,decide_eq_true_eq]
 refine⟨h,?_,?_⟩
 ·lia
 ·lia
theorem Fine.on_E{S:Plan}(F:Fine S){e:Nat×Nat} (he:e∈(dr S).E) {k:Nat} (hk:k<S.pts.length) (h1:k≠e.1) (h2:k≠e.2) :
  jw (S.pt e.1) (S.pt e.2) (S.pt k)=false:=by
 obtain⟨l,hl,rfl⟩:=List.mem_map.1 he
 rcases F.ori_cases hl with ⟨a,b⟩ | ⟨a,b⟩
 ·rw[b] at h1 h2 ⊢
  exact F.on l hl k hk h1 h2
 ·rw[b] at h1 h2 ⊢
  rw[Jr]
  exact F.on l hl k hk h2 h1
theorem Z1(p q r s:Pt):jb q p r s=jb p q r s:=by
 unfold jb
 rw[Xz p q r,Xz p q s,Int.neg_mul_neg,xn (yh r s q)]
theorem Fine.cross_E{S:Plan}(F:Fine S){e f:Nat×Nat} (he:e∈(dr S).E) (hf:f∈(dr S).E) (hne:e≠f) :
  jb (S.pt e.1) (S.pt e.2) (S.pt f.1) (S.pt f.2)=false:=by
 obtain⟨l,hl,rfl⟩:=List.mem_map.1 he
 obtain⟨m,hm,rfl⟩:=List.mem_map.1 hf
 have hlm:l≠m:=fun e=>hne (by rw[e])
 have:=F.cross l hl m hm hlm
 rcases F.ori_cases hl with ⟨_,b⟩ | ⟨_,b⟩ <;> rcases F.ori_cases hm with ⟨_,d⟩ | ⟨_,d⟩ <;> rw[b,d]
 ·exact this
 ·rw[ZI,Z1,ZI];exact this
 ·rw[Z1];exact this
 ·rw[Z1,ZI,Z1,ZI];exact this
end Pl
namespace Pl
open Gla (Pt Plan)
theorem XR{α β:Type}{f:α→β}:∀ {l:List α},(∀ a∈l,∀ b∈l,f a=f b→a=b)→l.Nodup→(l.map f).Nodup
 | [],_,_=>by simp
 | a::l,h,hn=>by
  rw[jR] at hn
  rw[yD,jR]
  refine⟨?_,XR (fun x hx y hy=>h x (by simp[hx]) y (by simp[hy])) hn.2⟩
  intro hm
  obtain⟨b,hb,e⟩:=List.mem_map.1 hm
  have:=h b (by simp[hb]) a (by simp) e
  subst this
  exact hn.1 hb
theorem lin_out{A B p q:Int}(hpq:p<q)(h1:A+B*p<0)(h2:0<A+B*q):(∀ t,t≤p→A+B*t<0)∧(∀ t,q≤t→0<A+B*t):=by
 have hB:0<B:=by
  apply yf
  intro hc
  have:B*q≤B*p:=Int.mul_le_mul_of_nonpos_left (by lia) (by lia)
  lia
 constructor
 ·intro t ht
  have:B*t≤B*p:=xE ht (by lia)
  lia
 ·intro t ht
  have:B*q≤B*t:=xE ht (by lia)
  lia
theorem lin_zero{A B p q:Int}(hpq:p<q)(h1:A+B*p=0)(h2:A+B*q=0)(t:Int):A+B*t=0:=by
 have hB:B=0:=by
  have:B*(q-p)=0:=by rw[xD];lia
  rcases Int.mul_eq_zero.1 this with h | h
  ·exact h
  ·lia
 subst hB
 lia
theorem crosses_of{p q r s:Pt}(h1:yh r s p<0)(h2:0<yh r s q)(h3:0<yh p q r)(h4:yh p q s<0):jb p q r s=true:=by
 unfold jb
 simp only[yk,decide_eq_true_eq]
 exact⟨yN h3 h4,jl h1 h2⟩
theorem crosses_of'{p q r s:Pt}(h1:0<yh r s p)(h2:yh r s q<0)(h3:yh p q r<0)(h4:0<yh p q s):jb p q r s=true:=by
 unfold jb
 simp only[yk,decide_eq_true_eq]
 exact⟨jl h3 h4,yN h1 h2⟩
theorem Fine.slopeE{S:Plan}(F:Fine S){e:Nat×Nat} (he:e∈(dr S).E):(dr S).D*(dr S).Y e.2=(dr S).D*(dr S).Y e.1+(dr S).s e*((dr S).X e.2-(dr S).X e.1):=by
 obtain⟨h1,_⟩:=F.cmul he
 show (dr S).D*YP (S.pt e.2)=(dr S).D*YP (S.pt e.1)+(YP (S.pt e.2)-YP (S.pt e.1))*((dr S).D/(XP (S.pt e.2)-XP (S.pt e.1)))*(XP (S.pt e.2)-XP (S.pt e.1))
 rw[x4,←h1]
 grind
theorem Fine.h_r{S:Plan}(F:Fine S){e:Nat×Nat} (he:e∈(dr S).E):(dr S).h e (2*XP (S.pt e.2))=2*((dr S).D*YP (S.pt e.2)):=by
 have:=F.slopeE he
 have e1:(dr S).X e.2=XP (S.pt e.2):=rfl
 have e2:(dr S).Y e.2=YP (S.pt e.2):=rfl
 rw[←e1,←e2]
 unfold Dr.h;grind
theorem Fine.h_l{S:Plan}(e:Nat×Nat):(dr S).h e (2*XP (S.pt e.1))=2*((dr S).D*YP (S.pt e.1)):=(dr S).h_left e
theorem two_lines{A B x1 x2 y1 y2:Int}(hov:max x1 y1<min x2 y2)
  (c1:¬ (A+B*(2*x1)<0∧0<A+B*(2*x2)∧A+B*(2*y1)<0∧0<A+B*(2*y2)))
  (c2:¬ (0<A+B*(2*x1)∧A+B*(2*x2)<0∧0<A+B*(2*y1)∧A+B*(2*y2)<0))
  (c3:¬ (A+B*(2*x1)=0∧A+B*(2*x2)=0∧A+B*(2*y1)=0∧A+B*(2*y2)=0)) :
  ((A+B*(2*max x1 y1)≤0∧A+B*(2*min x2 y2)≤0∧(A+B*(2*max x1 y1)<0∨A+B*(2*min x2 y2)<0))∨
   (0≤A+B*(2*max x1 y1)∧0≤A+B*(2*min x2 y2)∧(0<A+B*(2*max x1 y1)∨0<A+B*(2*min x2 y2)))):=by
 generalize ha:max x1 y1=a at *
 generalize hb:min x2 y2=b at *
 apply yf
 intro hcon
 have three:(A+B*(2*a)<0∧0<A+B*(2*b))∨(0<A+B*(2*a)∧A+B*(2*b)<0)∨(A+B*(2*a)=0∧A+B*(2*b)=0):=by
  clear c1 c2 c3
  generalize A+B*(2*a)=u at *
  generalize A+B*(2*b)=v at *
  lia
 clear hcon
 rcases three with ⟨z1,z2⟩ | ⟨z1,z2⟩ | ⟨z1,z2⟩
 ·obtain⟨o1,o2⟩:=lin_out (by lia) z1 z2
  exact c1 ⟨o1 _ (by lia),o2 _ (by lia),o1 _ (by lia),o2 _ (by lia)⟩
 ·have n1:(-A)+(-B)*(2*a)<0:=by rw[Gd];lia
  have n2:0<(-A)+(-B)*(2*b):=by rw[Gd];lia
  obtain⟨o1,o2⟩:=lin_out (by lia) n1 n2
  have r1:=o1 (2*x1) (by lia)
  have r2:=o2 (2*x2) (by lia)
  have r3:=o1 (2*y1) (by lia)
  have r4:=o2 (2*y2) (by lia)
  rw[Gd] at r1 r2 r3 r4
  exact c2 ⟨by lia,by lia,by lia,by lia⟩
 ·have o:=lin_zero (by lia) z1 z2
  exact c3 ⟨o _,o _,o _,o _⟩
theorem Fine.delta1{S:Plan}(F:Fine S){e f:Nat×Nat} (hf:f∈(dr S).E) (k:Nat) (hk:(dr S).h e (2*XP (S.pt k))=2*((dr S).D*YP (S.pt k))) :
  ((dr S).h e 0-(dr S).h f 0+((dr S).s e-(dr S).s f)*(2*XP (S.pt k))<0↔yh (S.pt f.1) (S.pt f.2) (S.pt k)<0)∧
  ((dr S).h e 0-(dr S).h f 0+((dr S).s e-(dr S).s f)*(2*XP (S.pt k))=0↔yh (S.pt f.1) (S.pt f.2) (S.pt k)=0)∧
  (0<(dr S).h e 0-(dr S).h f 0+((dr S).s e-(dr S).s f)*(2*XP (S.pt k))↔0<yh (S.pt f.1) (S.pt f.2) (S.pt k)):=by
 have s:=F.side_iff hf (S.pt k)
 have d:=(dr S).h_sub e f (2*XP (S.pt k))
 rw[←d,hk]
 lia
theorem Fine.delta2{S:Plan}(F:Fine S){e f:Nat×Nat} (he:e∈(dr S).E) (k:Nat) (hk:(dr S).h f (2*XP (S.pt k))=2*((dr S).D*YP (S.pt k))) :
  ((dr S).h e 0-(dr S).h f 0+((dr S).s e-(dr S).s f)*(2*XP (S.pt k))<0↔0<yh (S.pt e.1) (S.pt e.2) (S.pt k))∧
  ((dr S).h e 0-(dr S).h f 0+((dr S).s e-(dr S).s f)*(2*XP (S.pt k))=0↔yh (S.pt e.1) (S.pt e.2) (S.pt k)=0)∧
  (0<(dr S).h e 0-(dr S).h f 0+((dr S).s e-(dr S).s f)*(2*XP (S.pt k))↔yh (S.pt e.1) (S.pt e.2) (S.pt k)<0):=by
 have s:=F.side_iff he (S.pt k)
 have d:=(dr S).h_sub e f (2*XP (S.pt k))
 rw[←d,hk]
 lia
theorem Fine.no_cross{S:Plan}(F:Fine S){e f:Nat×Nat} (he:e∈(dr S).E) (hf:f∈(dr S).E) (hne:e≠f)
  (hov:max ((dr S).X e.1) ((dr S).X f.1)<min ((dr S).X e.2) ((dr S).X f.2)):(dr S).below e f∨(dr S).below f e:=by
 have hxe:=F.E_left he
 have hxf:=F.E_left hf
 have lte:=F.E_lt he
 have ltf:=F.E_lt hf
 have k1:=F.delta1 (e:=e) hf e.1 (Fine.h_l e)
 have k2:=F.delta1 (e:=e) hf e.2 (F.h_r he)
 have k3:=F.delta2 (f:=f) he f.1 (Fine.h_l f)
 have k4:=F.delta2 (f:=f) he f.2 (F.h_r hf)
 have hov':max (XP (S.pt e.1)) (XP (S.pt f.1))<min (XP (S.pt e.2)) (XP (S.pt f.2)):=hov
 have goal:=two_lines (A:=(dr S).h e 0-(dr S).h f 0) (B:=(dr S).s e-(dr S).s f) hov' (by
   rintro⟨z1,z2,z3,z4⟩
   have:=crosses_of (p:=S.pt e.1) (q:=S.pt e.2) (r:=S.pt f.1) (s:=S.pt f.2) (k1.1.1 z1) (k2.2.2.1 z2) (k3.1.1 z3) (k4.2.2.1 z4)
   rw[F.cross_E he hf hne] at this
   cases this) (by
   rintro⟨z1,z2,z3,z4⟩
   have:=crosses_of' (p:=S.pt e.1) (q:=S.pt e.2) (r:=S.pt f.1) (s:=S.pt f.2) (k1.2.2.1 z1) (k2.1.1 z2) (k3.2.2.1 z3) (k4.1.1 z4)
   rw[F.cross_E he hf hne] at this
   cases this) (by
   rintro⟨z1,z2,z3,z4⟩
   have t1:=k1.2.1.1 z1
   have t2:=k2.2.1.1 z2
   have t3:=k3.2.1.1 z3
   have t4:=k4.2.1.1 z4
   clear k1 k2 k3 k4 z1 z2 z3 z4 hov
   have left:e.1=f.1:=by
    by_cases q:XP (S.pt e.1)≤XP (S.pt f.1)
    ·have on:=ZZ t3 hxe q (by lia)
     apply yf
     intro hc
     have ne2:f.1≠e.2:=by intro h;rw[h] at hov';lia
     rw[F.on_E he ltf.1 (fun h=>hc h.symm) ne2] at on
     cases on
    ·have on:=ZZ t1 hxf (by lia) (by lia)
     apply yf
     intro hc
     have ne2:e.1≠f.2:=by intro h;rw[h] at hov';lia
     rw[F.on_E hf lte.1 hc ne2] at on
     cases on
   have right:e.2=f.2:=by
    by_cases q:XP (S.pt f.2)≤XP (S.pt e.2)
    ·have on:=ZZ t4 hxe (by lia) q
     apply yf
     intro hc
     have ne2:f.2≠e.1:=by intro h;rw[h] at hov';lia
     rw[F.on_E he ltf.2 ne2 (fun h=>hc h.symm)] at on
     cases on
    ·have on:=ZZ t2 hxf (by lia) (by lia)
     apply yf
     intro hc
     have ne2:e.2≠f.1:=by intro h;rw[h] at hov';lia
     rw[F.on_E hf lte.2 ne2 hc] at on
     cases on
   exact hne (Prod.ext left right))
 clear k1 k2 k3 k4
 have ea:max ((dr S).X e.1) ((dr S).X f.1)=max (XP (S.pt e.1)) (XP (S.pt f.1)):=rfl
 have eb:min ((dr S).X e.2) ((dr S).X f.2)=min (XP (S.pt e.2)) (XP (S.pt f.2)):=rfl
 have ea':max ((dr S).X f.1) ((dr S).X e.1)=max (XP (S.pt e.1)) (XP (S.pt f.1)):=Int.max_comm _ _
 have eb':min ((dr S).X f.2) ((dr S).X e.2)=min (XP (S.pt e.2)) (XP (S.pt f.2)):=Int.min_comm _ _
 unfold Dr.below
 rw[ea,eb,ea',eb']
 generalize max (XP (S.pt e.1)) (XP (S.pt f.1))=a at *
 generalize min (XP (S.pt e.2)) (XP (S.pt f.2))=b at *
 have da:=(dr S).h_sub e f (2*a)
 have db:=(dr S).h_sub e f (2*b)
 rw[←da,←db] at goal
 clear hov hov' ea eb ea' eb' hxe hxf lte ltf da db
 generalize (dr S).h e (2*a)=p1 at *
 generalize (dr S).h e (2*b)=p2 at *
 generalize (dr S).h f (2*a)=p3 at *
 generalize (dr S).h f (2*b)=p4 at *
 rcases goal with ⟨g1,g2,g3⟩ | ⟨g1,g2,g3⟩
 ·left;refine⟨by lia,by lia,by lia⟩
 ·right;refine⟨by lia,by lia,by lia⟩
theorem Fine.ok{S:Plan}(F:Fine S):(dr S).Ok where
 dpos:=F.dpos
 nodup:=by
  apply XR _ F.nodup
  intro a ha b hb e
  have la:=F.lines a ha
  have lb:=F.lines b hb
  rcases F.ori_cases ha with ⟨_,p⟩ | ⟨_,p⟩ <;> rcases F.ori_cases hb with ⟨_,q⟩ | ⟨_,q⟩ <;> rw[p,q] at e
  ·exact e
  ·exfalso;rw[e] at la;simp only at la;lia
  ·exfalso;rw[←e] at lb;simp only at lb;lia
  ·obtain⟨a1,a2⟩:=a
   obtain⟨b1,b2⟩:=b
   simp only[Prod.mk.injEq] at e ⊢
   lia
 left:=fun e he=>F.E_left he
 slope:=fun e he=>F.slopeE he
 inj:=fun e he f hf=>by
  have a:=F.E_lt he
  have b:=F.E_lt hf
  exact⟨fun h=>F.X_inj a.1 b.1 h,fun h=>F.X_inj a.1 b.2 h,fun h=>F.X_inj a.2 b.2 h⟩
 cross:=fun e he f hf hne hov=>F.no_cross he hf hne hov
 clear:=fun e he f hf=>by
  have a:=F.E_left he
  have b:=F.E_lt hf
  have key:∀ k,k<S.pts.length→XP (S.pt e.1)<XP (S.pt k)→XP (S.pt k)<XP (S.pt e.2)→(dr S).h e (2*XP (S.pt k))≠2*((dr S).D*YP (S.pt k)):=by
   intro k hk h1 h2 h3
   have t:=(F.side_iff he (S.pt k)).2.1.2 h3
   have on:=ZZ t a (by lia) (by lia)
   rw[F.on_E he hk (by intro h;rw[h] at h1;lia) (by intro h;rw[h] at h2;lia)] at on
   cases on
  exact⟨fun h1 h2=>key f.1 b.1 h1 h2,fun h1 h2=>key f.2 b.2 h1 h2⟩
theorem Fine.dart_iff{S:Plan}(F:Fine S){d:Nat×Nat}:(dr S).isDart d↔d∈S.lines∨(d.2,d.1)∈S.lines:=by
 unfold Dr.isDart
 show d∈S.lines.map (ori S)∨(d.2,d.1)∈S.lines.map (ori S)↔_
 constructor
 ·rintro (h | h)
  ·obtain⟨l,hl,e⟩:=List.mem_map.1 h
   rcases F.ori_cases hl with ⟨_,p⟩ | ⟨_,p⟩ <;> rw[p] at e
   ·left;rw[←e];exact hl
   ·right;rw[←e];exact hl
  ·obtain⟨l,hl,e⟩:=List.mem_map.1 h
   rcases F.ori_cases hl with ⟨_,p⟩ | ⟨_,p⟩ <;> rw[p] at e
   ·right;rw[←e];exact hl
   ·left
    have:d=l:=by
     obtain⟨d1,d2⟩:=d
     obtain⟨l1,l2⟩:=l
     simp only[Prod.mk.injEq] at e ⊢
     lia
    rw[this];exact hl
 ·have key:∀ l∈S.lines,l∈S.lines.map (ori S)∨(l.2,l.1)∈S.lines.map (ori S):=by
   intro l hl
   rcases F.ori_cases hl with ⟨_,p⟩ | ⟨_,p⟩
   ·left;exact List.mem_map.2 ⟨l,hl,p⟩
   ·right;exact List.mem_map.2 ⟨l,hl,p⟩
  rintro (h | h)
  ·exact key d h
  ·exact (key _ h).symm
theorem Fine.near_iff{S:Plan}(F:Fine S){v c:Nat}:c∈S.near v↔(dr S).isDart (v,c):=by
 rw[F.dart_iff]
 unfold Plan.near
 rw[List.mem_filterMap]
 constructor
 ·rintro⟨l,hl,h⟩
  by_cases q:l.1=v
  ·rw[if_pos q] at h
   left
   simp only[Option.some.injEq] at h
   rw[←q,←h];exact hl
  ·rw[if_neg q] at h
   by_cases q2:l.2=v
   ·rw[if_pos q2] at h
    simp only[Option.some.injEq] at h
    right
    show (c,v)∈S.lines
    rw[←q2,←h];exact hl
   ·rw[if_neg q2] at h;cases h
 ·rintro (h | h)
  ·exact⟨(v,c),h,by simp⟩
  ·have:=F.lines _ h
   simp only at this
   refine⟨(c,v),h,?_⟩
   simp only
   rw[if_neg (by lia)];simp
theorem Fine.dart_slope{S:Plan}(F:Fine S){v c:Nat} (h:(dr S).isDart (v,c)) :
  (dr S).D*(YP (S.pt c)-YP (S.pt v))=((dr S).ky v c).2*(XP (S.pt c)-XP (S.pt v))∧XP (S.pt c)≠XP (S.pt v)∧((dr S).ky v c).1=decide (XP (S.pt v)<XP (S.pt c)):=by
 have O:=F.ok
 rcases h with h | h
 ·have hl:=F.E_left h
  simp only at hl
  have:=F.slopeE h
  rw[O.ky_right h]
  refine⟨?_,by lia,by simp[hl]⟩
  have e:(dr S).D*YP (S.pt c)=(dr S).D*YP (S.pt v)+(dr S).s (v,c)*(XP (S.pt c)-XP (S.pt v)):=this
  rw[xD];simp only;lia
 ·have h:(c,v)∈(dr S).E:=h
  have hl:=F.E_left h
  simp only at hl
  have:=F.slopeE h
  rw[O.ky_left h]
  refine⟨?_,by lia,by simp;lia⟩
  have e:(dr S).D*YP (S.pt v)=(dr S).D*YP (S.pt c)+(dr S).s (c,v)*(XP (S.pt v)-XP (S.pt c)):=this
  rw[xD]
  simp only
  rw[xD] at e ⊢;lia
theorem sign_two{k m x y:Int}(hk:0<k)(h:k*x=m*y):(0<m→(0<x↔0<y)∧(x<0↔y<0))∧(m<0→(0<x↔y<0)∧(x<0↔0<y)):=by
 have a:=XC (x:=x) hk rfl
 constructor
 ·intro hm
  have b:=XC (x:=y) hm rfl
  rw[h] at a
  lia
 ·intro hm
  have b:=XC (c:=-m) (x:=y) (by lia) rfl
  rw[Gd] at b
  rw[h] at a
  lia
theorem Fine.cross_sign{S:Plan}(F:Fine S){v a b:Nat} (ha:(dr S).isDart (v,a)) (hb:(dr S).isDart (v,b)) :
  (((yg S v a).1*(yg S v b).2-(yg S v a).2*(yg S v b).1<0↔cr ((dr S).ky v a) ((dr S).ky v b)<0)∧
  (0<(yg S v a).1*(yg S v b).2-(yg S v a).2*(yg S v b).1↔0<cr ((dr S).ky v a) ((dr S).ky v b))):=by
 obtain⟨sa,na,fa⟩:=F.dart_slope ha
 obtain⟨sb,nb,fb⟩:=F.dart_slope hb
 have dp:=F.dpos
 have key:((dr S).D*1048576)*((yg S v a).1*(yg S v b).2-(yg S v a).2*(yg S v b).1) =
   ((XP (S.pt a)-XP (S.pt v))*(XP (S.pt b)-XP (S.pt v)))*(((dr S).ky v b).2-((dr S).ky v a).2):=by
  have e1:1048576*((yg S v a).1*(yg S v b).2-(yg S v a).2*(yg S v b).1) =
    (XP (S.pt a)-XP (S.pt v))*(YP (S.pt b)-YP (S.pt v))-(YP (S.pt a)-YP (S.pt v))*(XP (S.pt b)-XP (S.pt v)):=by
   unfold yg yQ yR XP YP
   grind
  rw[x4,e1,xD,Go,sb,←x4 (dr S).D,sa]
  grind
 have t:=sign_two (k:=(dr S).D*1048576) (by lia) key
 unfold cr
 rw[fa,fb]
 rcases xJ na with q | q <;> rcases xJ nb with r | r
 ·have m:=Int.mul_pos_of_neg_of_neg (a:=XP (S.pt a)-XP (S.pt v)) (b:=XP (S.pt b)-XP (S.pt v)) (by lia) (by lia)
  have n1:¬ XP (S.pt v)<XP (S.pt a):=by lia
  have n2:¬ XP (S.pt v)<XP (S.pt b):=by lia
  simp only[n1,n2,decide_false,if_true]
  have:=t.1 m
  lia
 ·have m:=jl (a:=XP (S.pt a)-XP (S.pt v)) (b:=XP (S.pt b)-XP (S.pt v)) (by lia) (by lia)
  have n1:¬ XP (S.pt v)<XP (S.pt a):=by lia
  have n2:XP (S.pt v)<XP (S.pt b):=by lia
  simp only[n1,n2,decide_false,decide_true,jI,if_false]
  have:=t.2 m
  lia
 ·have m:=yN (a:=XP (S.pt a)-XP (S.pt v)) (b:=XP (S.pt b)-XP (S.pt v)) (by lia) (by lia)
  have n1:XP (S.pt v)<XP (S.pt a):=by lia
  have n2:¬ XP (S.pt v)<XP (S.pt b):=by lia
  simp only[n1,n2,decide_false,decide_true,Bool.true_eq_false,if_false]
  have:=t.2 m
  lia
 ·have m:=jX (a:=XP (S.pt a)-XP (S.pt v)) (b:=XP (S.pt b)-XP (S.pt v)) (by lia) (by lia)
  have n1:XP (S.pt v)<XP (S.pt a):=by lia
  have n2:XP (S.pt v)<XP (S.pt b):=by lia
  simp only[n1,n2,decide_true,if_true]
  have:=t.1 m
  lia
theorem Fine.dot_sign{S:Plan}(F:Fine S){v a b:Nat} (ha:(dr S).isDart (v,a)) (hb:(dr S).isDart (v,b))
  (h0:(yg S v a).1*(yg S v b).2-(yg S v a).2*(yg S v b).1=0) :
  ((yg S v a).1*(yg S v b).1+(yg S v a).2*(yg S v b).2<0↔((dr S).ky v a).1≠((dr S).ky v b).1):=by
 obtain⟨sa,na,fa⟩:=F.dart_slope ha
 obtain⟨sb,nb,fb⟩:=F.dart_slope hb
 rw[fa,fb]
 have xa:XP (S.pt a)-XP (S.pt v)=1048576*(yg S v a).1+(yg S v a).2:=by
  unfold yg yQ yR XP;grind
 have xb:XP (S.pt b)-XP (S.pt v)=1048576*(yg S v b).1+(yg S v b).2:=by
  unfold yg yQ yR XP;grind
 generalize (yg S v a).1=p at *
 generalize (yg S v a).2=q at *
 generalize (yg S v b).1=r at *
 generalize (yg S v b).2=s at *
 have key:(XP (S.pt a)-XP (S.pt v))*(p*r+q*s)=(p*p+q*q)*(XP (S.pt b)-XP (S.pt v)):=by
  rw[xb,show XP (S.pt a)-XP (S.pt v)=1048576*p+q from xa]
  have:p*s=q*r:=by lia
  grind
 have pos:0<p*p+q*q:=by
  have h1:0≤p*p:=by
   rcases Ug 0 p with h | h
   ·exact jN h h
   ·exact yP h h
  have h2:0≤q*q:=by
   rcases Ug 0 q with h | h
   ·exact jN h h
   ·exact yP h h
  apply yf
  intro hc
  have z1:p*p=0:=by omega
  have z2:q*q=0:=by omega
  have p0:p=0:=by rcases Int.mul_eq_zero.1 z1 with h | h <;> exact h
  have q0:q=0:=by rcases Int.mul_eq_zero.1 z2 with h | h <;> exact h
  rw[p0,q0] at xa
  apply na
  have:XP (S.pt a)-XP (S.pt v)=0:=by rw[show XP (S.pt a)-XP (S.pt v)=1048576*0+0 from xa];rfl
  lia
 have t:=sign_two (k:=p*p+q*q) (m:=XP (S.pt a)-XP (S.pt v)) (x:=XP (S.pt b)-XP (S.pt v)) (y:=p*r+q*s) pos key.symm
 rcases xJ na with u | u
 ·have:=t.2 (by lia)
  have n1:¬ XP (S.pt v)<XP (S.pt a):=by lia
  simp only[n1,decide_false,ne_eq]
  by_cases w:XP (S.pt v)<XP (S.pt b)
  ·simp only[w,decide_true];simp;lia
  ·simp only[w,decide_false];simp;lia
 ·have:=t.1 (by lia)
  have n1:XP (S.pt v)<XP (S.pt a):=by lia
  simp only[n1,decide_true,ne_eq]
  by_cases w:XP (S.pt v)<XP (S.pt b)
  ·simp only[w,decide_true];simp;lia
  ·simp only[w,decide_false];simp;lia
theorem Fine.half_eq{S:Plan}(F:Fine S){v a b:Nat} (ha:(dr S).isDart (v,a)) (hb:(dr S).isDart (v,b)) :
  (xN (yg S v a) (yg S v b):Int)=hf ((dr S).ky v a) ((dr S).ky v b):=by
 have c:=F.cross_sign ha hb
 have d:=F.dot_sign ha hb
 unfold xN hf
 simp only
 generalize (yg S v a).1*(yg S v b).2-(yg S v a).2*(yg S v b).1=x at *
 generalize (yg S v a).1*(yg S v b).1+(yg S v a).2*(yg S v b).2=y at *
 generalize cr ((dr S).ky v a) ((dr S).ky v b)=z at *
 by_cases h1:x<0
 ·rw[if_pos h1,if_pos (c:=z<0) (by lia)];rfl
 ·rw[if_neg h1,if_neg (c:=z<0) (by lia)]
  by_cases h2:0<x
  ·rw[if_pos h2,if_pos (c:=0<z) (by lia)];rfl
  ·rw[if_neg h2,if_neg (c:=0<z) (by lia)]
   have:=d (by lia)
   by_cases h3:((dr S).ky v a).1=((dr S).ky v b).1
   ·rw[if_pos h3,if_neg (fun h=>(this.1 h) h3)];rfl
   ·rw[if_neg h3,if_pos (this.2 h3)];rfl
theorem Fine.sooner_iff{S:Plan}(F:Fine S){v u a b:Nat} (hu:(dr S).isDart (v,u)) (ha:(dr S).isDart (v,a)) (hb:(dr S).isDart (v,b)) :
  xK (yg S v u) (yg S v a) (yg S v b)=true↔sn ((dr S).ky v u) ((dr S).ky v a) ((dr S).ky v b):=by
 have h1:=F.half_eq hu ha
 have h2:=F.half_eq hu hb
 have c:=(F.cross_sign ha hb).1
 unfold xK sn
 rw[←h1,←h2,←c]
 simp only[y8,yk,decide_eq_true_eq,beq_iff_eq]
 lia
theorem zx{r a:Bool×Int}:¬ sn r a a:=by
 unfold sn
 have:cr a a=0:=by unfold cr;simp
 lia
theorem Fine.next_is{S:Plan}(F:Fine S){u v:Nat} (h:(dr S).isDart (u,v)):(dr S).isNext u v (S.next u v):=by
 have hu:(dr S).isDart (v,u):=h.rev
 have hmem:u∈S.near v:=F.near_iff.2 hu
 unfold Plan.next
 have gen:∀(r:List Nat)(k:Nat)(seen:List Nat),(∀ c∈r,(dr S).isDart (v,c))→(dr S).isDart (v,k)→(∀ c∈seen,(dr S).isDart (v,c)∧¬ sn ((dr S).ky v u) ((dr S).ky v c) ((dr S).ky v k))→
   (dr S).isDart (v,r.foldl (fun (a b:Nat)=>if xK (yg S v u) (yg S v b) (yg S v a)=true then b else a) k)∧
   ∀ c,c∈r∨c∈seen→¬ sn ((dr S).ky v u) ((dr S).ky v c) ((dr S).ky v (r.foldl (fun (a b:Nat)=>if xK (yg S v u) (yg S v b) (yg S v a)=true then b else a) k)):=by
  intro r
  induction r with
  | nil=>
   intro k seen _ hk hs
   refine⟨hk,?_⟩
   rintro c (hc | hc)
   ·simp at hc
   ·exact (hs c hc).2
  | cons b r ih=>
   intro k seen hr hk hs
   have hb:=hr b (by simp)
   have hr':∀ c∈r,(dr S).isDart (v,c):=fun c hc=>hr c (by simp[hc])
   rw[xg]
   by_cases q:xK (yg S v u) (yg S v b) (yg S v k)=true
   ·rw[if_pos q]
    have q':=(F.sooner_iff hu hb hk).1 q
    have:=ih b (b::seen) hr' hb (fun c hc=>by
     rcases List.mem_cons.1 hc with rfl | hc
     ·exact⟨hb,zx⟩
     ·exact⟨(hs c hc).1,fun h=>(hs c hc).2 (sn_trans h q')⟩)
    refine⟨this.1,?_⟩
    intro c hc
    apply this.2
    rcases hc with hc | hc
    ·rcases List.mem_cons.1 hc with rfl | hc
     ·right;simp
     ·left;exact hc
    ·right;simp[hc]
   ·rw[if_neg q]
    have q':¬ sn ((dr S).ky v u) ((dr S).ky v b) ((dr S).ky v k):=fun h=>q ((F.sooner_iff hu hb hk).2 h)
    have:=ih k (b::seen) hr' hk (fun c hc=>by
     rcases List.mem_cons.1 hc with rfl | hc
     ·exact⟨hb,q'⟩
     ·exact hs c hc)
    refine⟨this.1,?_⟩
    intro c hc
    apply this.2
    rcases hc with hc | hc
    ·rcases List.mem_cons.1 hc with rfl | hc
     ·right;simp
     ·left;exact hc
    ·right;simp[hc]
 cases hn:S.near v with
 | nil=>rw[hn] at hmem;simp at hmem
 | cons k r=>
  simp only
  have all:∀ c∈k::r,(dr S).isDart (v,c):=fun c hc=>F.near_iff.1 (by rw[hn];exact hc)
  have:=gen r k [k] (fun c hc=>all c (by simp[hc])) (all k (by simp)) (fun c hc=>by
   rcases List.mem_cons.1 hc with rfl | hc
   ·exact⟨all _ (by simp),zx⟩
   ·simp at hc)
  refine⟨this.1,?_⟩
  intro c hc
  apply this.2
  have:=F.near_iff.2 hc
  rw[hn] at this
  rcases List.mem_cons.1 this with rfl | h
  ·right;simp
  ·left;exact h
def nxt(S:Plan)(d:Dt):Dt:=(d.2,S.next d.1 d.2)
theorem Fine.rot{S:Plan}(F:Fine S):(dr S).Rot (nxt S) where
 fst:=fun _ _=>rfl
 next:=fun _ h=>F.next_is h
end Pl
namespace Pl
open Gla (Pt Plan)
theorem Zh(a:Array Bool)(i j:Nat)(b d:Bool):(a.setIfInBounds i b).getD j d=if i=j∧i<a.size then b else a.getD j d:=by
 simp only[yA,Array.getElem?_setIfInBounds]
 by_cases h:i=j
 ·subst h
  by_cases h2:i<a.size
  ·simp[h2]
  ·simp[h2]
 ·simp[h]
def Z7(a:List Nat×Array Bool)(j:Nat):List Nat×Array Bool:=if a.2.getD j true=true then a else (j::a.1,a.2.setIfInBounds j true)
theorem spread_cons (near:Array (List Nat)) (n k:Nat) (r:List Nat) (seen:Array Bool) :
  jB near (n+1) (k::r) seen=jB near n ((near.getD k []).foldl Z7 (r,seen)).1 ((near.getD k []).foldl Z7 (r,seen)).2:=rfl
structure SInv(T:Nat→Prop)(v:Nat)(a:List Nat×Array Bool):Prop where
 bar:a.2.getD v true=true
 todo:∀ k∈a.1,T k
 seen:∀ j,a.2.getD j false=true→j=v∨T j
theorem sstep_inv{T:Nat→Prop}{v:Nat}{a:List Nat×Array Bool}(h:SInv T v a){j:Nat}(hj:j≠v→T j):SInv T v (Z7 a j):=by
 unfold Z7
 by_cases q:a.2.getD j true=true
 ·rw[if_pos q];exact h
 ·rw[if_neg q]
  have hv:j≠v:=by intro e;subst e;exact q h.bar
  refine⟨?_,?_,?_⟩
  ·show (a.2.setIfInBounds j true).getD v true=true
   rw[Zh,if_neg (by simp[hv])];exact h.bar
  ·intro k hk
   rcases List.mem_cons.1 hk with rfl | hk
   ·exact hj hv
   ·exact h.todo k hk
  ·intro i hi
   have hi:(a.2.setIfInBounds j true).getD i false=true:=hi
   rw[Zh] at hi
   by_cases c:j=i∧j<a.2.size
   ·rw[←c.1];exact Or.inr (hj hv)
   ·rw[if_neg c] at hi;exact h.seen i hi
theorem qR{T:Nat→Prop}{v:Nat}:∀ (l:List Nat) {a:List Nat×Array Bool},SInv T v a→(∀ j∈l,j≠v→T j)→SInv T v (l.foldl Z7 a)
 | [],_,h,_=>h
 | j::l,_,h,hl=>by
  rw[xg]
  exact qR l (sstep_inv h (hl j (by simp))) (fun i hi=>hl i (by simp[hi]))
theorem YI {near:Array (List Nat)} {T:Nat→Prop} {v:Nat} (hcl:∀ k,T k→∀ j∈near.getD k [],j≠v→T j) :
  ∀(n:Nat)(todo:List Nat)(seen:Array Bool),SInv T v (todo,seen)→∀ j,(jB near n todo seen).getD j false=true→j=v∨T j
 | 0,_,_,h,j,hj=>h.seen j hj
 | n+1,[],_,h,j,hj=>h.seen j hj
 | n+1,k::r,seen,h,j,hj=>by
  rw[spread_cons] at hj
  have hr:SInv T v (r,seen):=⟨h.bar,fun x hx=>h.todo x (by simp[hx]),h.seen⟩
  have:=qR (near.getD k []) hr (hcl k (h.todo k (by simp)))
  exact YI hcl n _ _ this j hj
theorem sstep_size(a:List Nat×Array Bool)(j:Nat):(Z7 a j).2.size=a.2.size:=by
 unfold Z7
 by_cases q:a.2.getD j true=true
 ·rw[if_pos q]
 ·rw[if_neg q];simp
theorem J7:∀(l:List Nat)(a:List Nat×Array Bool),(l.foldl Z7 a).2.size=a.2.size
 | [],_=>rfl
 | j::l,a=>by rw[xg,J7 l,sstep_size]
theorem Jy (near:Array (List Nat)):∀(n:Nat)(todo:List Nat)(seen:Array Bool),(jB near n todo seen).size=seen.size
 | 0,_,_=>rfl
 | n+1,[],_=>rfl
 | n+1,k::r,seen=>by rw[spread_cons,Jy near n,J7]
theorem nears_getD(S:Plan)(k:Nat):S.nears.getD k []=if k<S.pts.length then S.near k else []:=by
 unfold Plan.nears
 by_cases h:k<S.pts.length
 ·rw[if_pos h]
  simp[yA,h]
 ·rw[if_neg h]
  simp[yA,h]
theorem Fine.dart_lt{S:Plan}(F:Fine S){d:Dt} (h:(dr S).isDart d):d.1<S.pts.length∧d.2<S.pts.length:=by
 rcases h with h | h
 ·exact F.E_lt h
 ·exact (F.E_lt h).symm
theorem Fine.conn{S:Plan}(F:Fine S)
  (h9:(yj S.pts.length).find? (fun (i:Nat)=>!((xL S.nears S.pts.length 0 (yC S.pts.length)).getD i false))=none):(dr S).Conn:=by
 intro Q d e hd he hcl hQ
 have hiff:∀ x,(dr S).isDart x→(Q x.1↔Q x.2):=fun x hx=>⟨hcl x hx,hcl (x.2,x.1) hx.rev⟩
 have all:∀ i,i<S.pts.length→(Q i↔Q 0):=by
  intro i hi
  rw[y6] at h9
  have:=h9 i (List.mem_range.2 hi)
  simp only[Bool.not_eq_true,GO] at this
  unfold xL at this
  have inv:=YI (near:=S.nears) (T:=fun w=>(Q w↔Q 0)) (v:=S.pts.length) (fun k hk j hj _=>by
   rw[nears_getD] at hj
   by_cases q:k<S.pts.length
   ·rw[if_pos q] at hj
    have:=hiff (k,j) (F.near_iff.1 hj)
    exact this.symm.trans hk
   ·rw[if_neg q] at hj;simp at hj) _ _ _ ⟨by
    show (xY _ _ _).getD _ _=_
    rw[Zh]
    simp[yC,yA],by simp,by
    intro j hj
    have hj:(xY (yC S.pts.length) 0 true).getD j false=true:=hj
    rw[Zh] at hj
    by_cases c:0=j∧0<(yC S.pts.length).size
    ·right;rw[←c.1]
    ·rw[if_neg c] at hj
     simp[yC,yA,G3] at hj
     split at hj <;> simp at hj⟩ i this
  rcases inv with h | h
  ·lia
  ·exact h
 have h1:=all d.1 (F.dart_lt hd).1
 have h2:=all e.1 (F.dart_lt he).1
 exact h2.2 (h1.1 hQ)
theorem Fine.conn2{S:Plan}(F:Fine S){v:Nat}(hv:v<S.pts.length)(hn:2≤S.pts.length)(h10:Gs S.nears S.pts.length v=false):(dr S).Conn2 v:=by
 intro Q d e hd he nd ne hcl hQ
 have hiff:∀ x,(dr S).isDart x→x.1≠v→x.2≠v→(Q x.1↔Q x.2):=fun x hx h1 h2=>⟨hcl x hx h1 h2,hcl (x.2,x.1) hx.rev h2 h1⟩
 unfold Gs at h10
 generalize hst:(if v=0 then 1 else 0)=st at h10
 have stv:st≠v:=by rw[←hst];by_cases q:v=0 <;> simp[q] <;> lia
 have all:∀ i,i<S.pts.length→i≠v→(Q i↔Q st):=by
  intro i hi hiv
  unfold xL at h10
  have sz:(jB S.nears (S.pts.length+1) [st] (((yC S.pts.length).setIfInBounds v true).setIfInBounds st true)).size=S.pts.length:=by
   rw[Jy];simp[yC]
  have got:(jB S.nears (S.pts.length+1) [st] (((yC S.pts.length).setIfInBounds v true).setIfInBounds st true)).getD i false=true:=by
   generalize jB S.nears (S.pts.length+1) [st] (((yC S.pts.length).setIfInBounds v true).setIfInBounds st true)=A at *
   have:¬ false∈A:=by
    intro h
    rw[←Gr] at h
    rw[h10] at h
    cases h
   rw[yA,jF (by lia)]
   simp only[Ua]
   cases hA:A[i]'(by lia) with
   | true=>rfl
   | false=>
    exfalso
    apply this
    rw[←hA]
    exact Array.getElem_mem _
  have inv:=YI (near:=S.nears) (T:=fun w=>w≠v∧(Q w↔Q st)) (v:=v) (fun k hk j hj hjv=>by
   rw[nears_getD] at hj
   by_cases q:k<S.pts.length
   ·rw[if_pos q] at hj
    have:=hiff (k,j) (F.near_iff.1 hj) hk.1 hjv
    exact⟨hjv,this.symm.trans hk.2⟩
   ·rw[if_neg q] at hj;simp at hj) _ _ _ ⟨by
    show (xY _ _ _).getD _ _=_
    rw[Zh]
    by_cases c:st=v∧st<((yC S.pts.length).setIfInBounds v true).size
    ·rw[if_pos c]
    ·rw[if_neg c,Zh,if_pos ⟨rfl,by simpa [yC] using hv⟩],by
    intro k hk
    simp only[yy] at hk
    subst hk
    exact⟨stv,Iff.rfl⟩,by
    intro j hj
    have hj:(xY ((yC S.pts.length).setIfInBounds v true) st true).getD j false=true:=hj
    rw[Zh] at hj
    by_cases c:st=j∧st<((yC S.pts.length).setIfInBounds v true).size
    ·right;rw[←c.1];exact⟨stv,Iff.rfl⟩
    ·rw[if_neg c,Zh] at hj
     by_cases c2:v=j∧v<(yC S.pts.length).size
     ·left;exact c2.1.symm
     ·rw[if_neg c2] at hj
      simp[yC,yA,G3] at hj
      split at hj <;> simp at hj⟩ i got
  rcases inv with h | h
  ·exact absurd h hiv
  ·exact h.2
 have h1:=all d.1 (F.dart_lt hd).1 nd
 have h2:=all e.1 (F.dart_lt he).1 ne
 exact h2.2 (h1.1 hQ)
theorem Fine.h_nonneg{S:Plan}(F:Fine S){m:Dt} (hm:m∈(dr S).E) {t:Int} (ha:(dr S).act m t):0≤(dr S).h m (2*t+1):=by
 have hl:=F.E_left hm
 have e1:=Fine.h_l (S:=S) m
 have e2:=F.h_r hm
 have dp:=F.dpos
 have y1:0≤(dr S).D*YP (S.pt m.1):=jN (by lia) (by unfold YP;lia)
 have y2:0≤(dr S).D*YP (S.pt m.2):=jN (by lia) (by unfold YP;lia)
 have lin:∀ t,(dr S).h m t=(dr S).h m 0+(dr S).s m*t:=by intro t;unfold Dr.h;grind
 have a1:=lin (2*XP (S.pt m.1))
 have a2:=lin (2*XP (S.pt m.2))
 have a3:=lin (2*t+1)
 have ha1:XP (S.pt m.1)≤t:=ha.1
 have ha2:t<XP (S.pt m.2):=ha.2
 have:=lin_near (A:=- (dr S).h m 0) (B:=- (dr S).s m) (p:=2*XP (S.pt m.1)) (q:=2*XP (S.pt m.2)) (t:=2*t+1) (by lia) (by lia)
  (by rw[Gd];lia) (by rw[Gd];lia)
 rw[Gd] at this
 lia
theorem Fine.bottom_zero{S:Plan}(F:Fine S){a b:Nat} (h:(a,b)∈(dr S).E) (ha:(S.pt a).y=0) (hb:(S.pt b).y=0) (N:Dt→Int):(dr S).Wd N (b,a)=0:=by
 have hl:=F.E_left h
 simp only at hl
 have h0:∀ t,(dr S).h (a,b) t=0:=by
  intro t
  unfold Dr.h
  show 2*((dr S).D*YP (S.pt a))+(YP (S.pt b)-YP (S.pt a))*_*_=0
  have e1:YP (S.pt a)=0:=by unfold YP;rw[ha];rfl
  have e2:YP (S.pt b)=0:=by unfold YP;rw[hb];rfl
  rw[e1,e2];simp
 unfold Dr.Wd
 rw[if_neg (by show ¬ XP (S.pt b)<XP (S.pt a);lia)]
 show (dr S).bl N (a,b) ((dr S).X a)=0
 unfold Dr.bl
 apply QX
 intro m hm
 apply if_neg
 rintro⟨c1,c2⟩
 rw[h0] at c2
 have:=F.h_nonneg hm c1
 lia
theorem Q1{S:Plan}(F:Fine S){i j:Nat}(h:S.joined i j=true):(dr S).isDart (i,j):=by
 unfold Plan.joined at h
 rw[j6] at h
 rw[F.dart_iff]
 by_cases q:i≤j
 ·rw[x9 q,Nat.max_eq_right q] at h;exact Or.inl h
 ·rw[Nat.min_eq_right (by lia),Nat.max_eq_left (by lia)] at h;exact Or.inr h
theorem QA{S:Plan}{on:Pt→Bool}{i:Nat}:i∈yK S on↔i<S.pts.length∧on (S.pt i)=true:=by
 unfold yK
 rw[x8,List.mem_range]
theorem Fine.outer{S:Plan}(F:Fine S)(hw:0<S.w)(h6:jE S=true):∃ d0:Dt,(dr S).isDart d0∧(∀ N,(dr S).Wd N d0=0)∧(S.pt d0.1).y=0∧(S.pt d0.2).y=0∧(S.pt d0.2).x<(S.pt d0.1).x:=by
 unfold jE at h6
 simp only[yk] at h6
 obtain⟨c1,c2,_,_,e1,_⟩:=h6
 rw[j6] at c1 c2
 obtain⟨i,hi,hi2⟩:=List.mem_iff_getElem.1 c1
 obtain⟨j,hj,hj2⟩:=List.mem_iff_getElem.1 c2
 have pi:S.pt i=⟨0,0⟩:=by rw[pt_eq hi,hi2]
 have pj:S.pt j=⟨S.w,0⟩:=by rw[pt_eq hj,hj2]
 have hij:i≠j:=by intro e;subst e;rw[pi] at pj;simp at pj;lia
 have mi:i∈yK S (fun (p:Pt)=>p.y==0):=QA.2 ⟨hi,by rw[pi];rfl⟩
 have mj:j∈yK S (fun (p:Pt)=>p.y==0):=QA.2 ⟨hj,by rw[pj];rfl⟩
 have all:∀ k∈yK S (fun (p:Pt)=>p.y==0),(S.pt k).y=0:=by
  intro k hk
  have:=(QA.1 hk).2
  simpa using this
 generalize yK S (fun (p:Pt)=>p.y==0)=l at *
 match l,mi,mj,all,e1 with
 | [],mi,_,_,_=>simp at mi
 | [x],mi,mj,_,_=>
  simp at mi mj
  lia
 | x::y::r,_,_,all,e1=>
  unfold yX at e1
  simp only[xW,xw,Ga,jV,yk] at e1
  have hd:=Q1 F e1.1
  have y1:=all x (by simp)
  have y2:=all y (by simp)
  rcases hd with hd | hd
  ·refine⟨(y,x),Or.inr hd,fun N=>F.bottom_zero hd y1 y2 N,y2,y1,?_⟩
   have hl:=F.E_left hd
   unfold XP at hl
   simp only at hl ⊢
   lia
  ·refine⟨(x,y),Or.inr hd,fun N=>F.bottom_zero hd y2 y1 N,y1,y2,?_⟩
   have hl:=F.E_left hd
   unfold XP at hl
   simp only at hl ⊢
   lia
end Pl
namespace Pl
open Gla (Pt Plan)
def rd(nx:Dt→Dt):Nat→Dt→Dt→List Dt
 | 0,_,_=>[]
 | n+1,s,e=>e::(if nx e=s then [] else rd nx n s (nx e))
theorem round_rd(S:Plan):∀(n:Nat)(s e:Dt),S.round n s e=(rd (nxt S) n s e).map (·.1)
 | 0,_,_=>rfl
 | n+1,s,e=>by
  unfold Plan.round rd
  show e.1::(if nxt S e=s then [] else S.round n s (nxt S e))=_
  rw[yD]
  by_cases h:nxt S e=s
  ·rw[if_pos h,if_pos h];rfl
  ·rw[if_neg h,if_neg h,round_rd S n]
theorem rd_wk{nx:Dt→Dt}{d:Dt}{k:Nat}(p:Per nx d k):∀(j n:Nat),j<k→k≤n+j→rd nx n d (it nx j d)=(yj (k-j)).map (fun i=>it nx (j+i) d):=by
 intro j n
 induction n generalizing j with
 | zero=>intro h1 h2;lia
 | succ n ih=>
  intro h1 h2
  unfold rd
  rw[show nx (it nx j d)=it nx (j+1) d from rfl]
  by_cases q:j+1=k
  ·rw[q,if_pos p.back,show k-j=1 by lia]
   simp
  ·rw[if_neg (p.first (j+1) (by lia) (by lia)),ih (j+1) (by lia) (by lia)]
   rw[show k-j=(k-(j+1))+1 by lia,Uc,yD,GH]
   congr 1
   apply List.map_congr_left
   intro i _
   show it nx (j+1+i) d=it nx (j+(i+1)) d
   congr 1;lia
theorem rd_all{nx:Dt→Dt}{d:Dt}{k:Nat}(p:Per nx d k){n:Nat}(h:k≤n):rd nx n d d=wk nx d k:=by
 have:=rd_wk p 0 n p.pos (by lia)
 rw[show it nx 0 d=d from rfl] at this
 rw[this]
 unfold wk
 rw[Uf]
 apply List.map_congr_left
 intro i _
 rw[Nat.zero_add]
theorem wk_getElem(nx:Dt→Dt)(d:Dt)(k i:Nat) (h:i<(wk nx d k).length):(wk nx d k)[i]=it nx i d:=by
 simp[wk]
theorem wk_rot{nx:Dt→Dt}{d:Dt}{k:Nat}(p:Per nx d k){j:Nat}(hj:j≤k):wk nx (it nx j d) k=(wk nx d k).drop j++(wk nx d k).take j:=by
 apply G5
 ·simp[wk_length];lia
 ·intro i h1 h2
  rw[wk_length] at h1
  rw[wk_getElem,←ZN]
  by_cases q:i<k-j
  ·rw[x3 (by simp[wk_length];lia),GT,wk_getElem]
   congr 1;lia
  ·rw[xc (by simp[wk_length];lia),Gj,wk_getElem]
   simp only[yG,wk_length]
   rw[show i+j=(i-(k-j))+k by lia,ZN,p.back]
theorem zip_rot{nx:Dt→Dt}{d:Dt}{k:Nat}(p:Per nx d k) (hf:∀ j,(it nx (j+1) d).1=(it nx j d).2) :
  ((wk nx d k).map (·.1)).zip (((wk nx d k).map (·.1)).drop 1++((wk nx d k).map (·.1)).take 1)=wk nx d k:=by
 have pos:=p.pos
 apply G5
 ·simp[wk_length];lia
 ·intro i h1 h2
  rw[wk_length] at h2
  rw[List.getElem_zip,G6,wk_getElem]
  apply Prod.ext
  ·rfl
  ·show _=(it nx i d).2
   rw[←hf]
   by_cases q:i<k-1
   ·rw[x3 (by simp[wk_length];lia),GT,G6,wk_getElem]
    rw[Gn]
   ·rw[xc (by simp[wk_length];lia),Gj,G6,wk_getElem]
    simp only[yG,yc,wk_length]
    rw[show i-(k-1)=0 by lia,show i+1=k by lia,p.back]
    rfl
theorem zh:∀(r:List Nat)(a:Nat),(r.foldl min a=a∨r.foldl min a∈r)∧r.foldl min a≤a∧∀ x∈r,r.foldl min a≤x
 | [],a=>by simp
 | b::r,a=>by
  rw[xg]
  obtain⟨h1,h2,h3⟩:=zh r (min a b)
  refine⟨?_,by lia,?_⟩
  ·rcases h1 with h | h
   ·rw[h]
    by_cases q:a≤b
    ·left;lia
    ·right;rw[Nat.min_eq_right (by lia)];simp
   ·right;simp[h]
  ·intro x hx
   rcases List.mem_cons.1 hx with rfl | hx
   ·lia
   ·exact h3 x hx
def Xm(l:List Nat):Nat:=match l with
 | []=>0
 | a::r=>l.idxOf (r.foldl min a)
theorem zU(l:List Nat):Uy l=l.drop (Xm l)++l.take (Xm l):=by
 cases l with
 | nil=>rfl
 | cons a r=>rfl
theorem leastAt_lt{l:List Nat}(h:l≠[]):∃ hi:Xm l<l.length,∀ x∈l,l[Xm l]≤x:=by
 cases l with
 | nil=>exact absurd rfl h
 | cons a r=>
  obtain⟨h1,h2,h3⟩:=zh r a
  have hm:r.foldl min a∈a::r:=by
   rcases h1 with h | h
   ·rw[h];simp
   ·simp[h]
  have hi:(a::r).idxOf (r.foldl min a)<(a::r).length:=List.idxOf_lt_length_of_mem hm
  refine⟨hi,?_⟩
  intro x hx
  show (a::r)[(a::r).idxOf (r.foldl min a)]≤x
  rw[List.getElem_idxOf]
  rcases List.mem_cons.1 hx with rfl | hx
  ·exact h2
  ·exact h3 x hx
structure Good(S:Plan):Prop where
 fine:Fine S
 conn:(dr S).Conn
 conn2:∀ v,v<S.pts.length→(dr S).Conn2 v
 deg:∀ v,v<S.pts.length→∃ x,(dr S).isDart (v,x)
 wpos:0<S.w
 hpos:0<S.h
 frame:jE S=true
theorem Good.ex_per{S:Plan}(G:Good S)(d:Dt):∃ k,(dr S).isDart d→Per (nxt S) d k∧k≤2*S.lines.length:=by
 by_cases h:(dr S).isDart d
 ·obtain⟨k,h1,h2⟩:=G.fine.ok.period G.fine.rot h
  refine⟨k,fun _=>⟨h1,?_⟩⟩
  have:(dr S).E.length=S.lines.length:=by show (S.lines.map (ori S)).length=_;simp
  lia
 ·exact⟨0,fun h'=>absurd h' h⟩
noncomputable def Good.pr {S:Plan} (G:Good S) (d:Dt):Nat:=Classical.choose (G.ex_per d)
theorem Good.per{S:Plan}(G:Good S){d:Dt} (h:(dr S).isDart d):Per (nxt S) d (G.pr d):=(j7 (G.ex_per d) h).1
theorem Good.per_le{S:Plan}(G:Good S){d:Dt} (h:(dr S).isDart d):G.pr d≤2*S.lines.length:=(j7 (G.ex_per d) h).2
theorem per_unique{nx:Dt→Dt}{d:Dt}{j k:Nat}(h1:Per nx d j)(h2:Per nx d k):j=k:=by
 rcases jP j k with h | h | h
 ·exact absurd h1.back (h2.first j h1.pos h)
 ·exact h
 ·exact absurd h2.back (h1.first k h2.pos h)
theorem per_it{K:Dr}(O:K.Ok){nx:Dt→Dt}(R:K.Rot nx){d:Dt}(hd:K.isDart d){k:Nat}(p:Per nx d k)(j:Nat):Per nx (it nx j d) k where
 pos:=p.pos
 back:=by rw[←ZN,Gn,ZN,p.back]
 first:=fun i h0 hi e=>by
  rw[←ZN,Gn,ZN] at e
  exact p.first i h0 hi (O.it_inj R (R.it_dart hd i) hd j e)
noncomputable def Good.orb {S:Plan} (G:Good S) (d:Dt):List Dt:=wk (nxt S) d (G.pr d)
noncomputable def Good.vs {S:Plan} (G:Good S) (d:Dt):List Nat:=(G.orb d).map (·.1)
theorem Good.dart_orb{S:Plan}(G:Good S){d x:Dt} (h:(dr S).isDart d) (hx:x∈G.orb d):(dr S).isDart x:=by
 obtain⟨j,_,rfl⟩:=Zb.1 hx
 exact G.fine.rot.it_dart h j
theorem Good.pr_orb{S:Plan}(G:Good S){d x:Dt} (h:(dr S).isDart d) (hx:x∈G.orb d):G.pr x=G.pr d:=by
 obtain⟨j,_,rfl⟩:=Zb.1 hx
 exact per_unique (G.per (G.fine.rot.it_dart h j)) (per_it G.fine.ok G.fine.rot h (G.per h) j)
theorem Good.self_orb{S:Plan}(G:Good S){d:Dt} (h:(dr S).isDart d):d∈G.orb d:=(G.per h).mem.2 ⟨0,rfl⟩
theorem Good.orb_trans{S:Plan}(G:Good S){d x y:Dt} (h:(dr S).isDart d) (hx:x∈G.orb d) (hy:y∈G.orb x):y∈G.orb d:=by
 obtain⟨i,_,rfl⟩:=Zb.1 hx
 obtain⟨j,_,rfl⟩:=Zb.1 hy
 exact (G.per h).mem.2 ⟨j+i,by rw[ZN]⟩
theorem Good.orb_symm{S:Plan}(G:Good S){d x:Dt} (h:(dr S).isDart d) (hx:x∈G.orb d):d∈G.orb x:=by
 obtain⟨i,hi,rfl⟩:=Zb.1 hx
 refine (G.per (G.fine.rot.it_dart h i)).mem.2 ⟨G.pr d-i,?_⟩
 rw[←ZN,show G.pr d-i+i=G.pr d by lia,(G.per h).back]
theorem Good.vs_inj{S:Plan}(G:Good S){d x y:Dt} (h:(dr S).isDart d) (hx:x∈G.orb d) (hy:y∈G.orb d) (e:x.1=y.1):x=y:=by
 have hxd:=G.dart_orb h hx
 have hyx:y∈G.orb x:=G.orb_trans hxd (G.orb_symm h hx) hy
 obtain⟨j,hj,rfl⟩:=Zb.1 hyx
 by_cases q:j=0
 ·subst q;rfl
 ·exfalso
  exact G.fine.ok.once G.fine.rot hxd (G.conn2 _ (G.fine.dart_lt hxd).1) (G.per hxd) (by lia) hj e.symm
theorem Good.vs_ne{S:Plan}(G:Good S){d:Dt} (h:(dr S).isDart d):G.vs d≠[]:=by
 intro e
 have:=congrArg List.length e
 simp[Good.vs,Good.orb,wk_length] at this
 have:=(G.per h).pos
 lia
theorem Good.vs_get{S:Plan}(G:Good S)(d:Dt)(i:Nat) (h:i<(G.vs d).length):(G.vs d)[i]=(it (nxt S) i d).1:=by
 simp[Good.vs,Good.orb,wk]
noncomputable def Good.lead {S:Plan} (G:Good S) (d:Dt):Dt:=it (nxt S) (Xm (G.vs d)) d
theorem Good.lead_spec{S:Plan}(G:Good S){d:Dt} (h:(dr S).isDart d):G.lead d∈G.orb d∧(∀ x∈G.orb d,(G.lead d).1≤x.1)∧Uy (G.vs d)=G.vs (G.lead d):=by
 obtain⟨hi,hmin⟩:=leastAt_lt (G.vs_ne h)
 have hl:Xm (G.vs d)<G.pr d:=by simpa [Good.vs,Good.orb,wk_length] using hi
 have hmem:G.lead d∈G.orb d:=Zb.2 ⟨_,hl,rfl⟩
 refine⟨hmem,?_,?_⟩
 ·intro x hx
  have:=hmin x.1 (List.mem_map.2 ⟨x,hx,rfl⟩)
  have e:(G.vs d)[Xm (G.vs d)]=(G.lead d).1:=G.vs_get d _ hi
  rw[e] at this
  exact this
 ·rw[zU]
  show _=(wk (nxt S) (G.lead d) (G.pr (G.lead d))).map (·.1)
  rw[G.pr_orb h hmem]
  show _=(wk (nxt S) (it (nxt S) (Xm (G.vs d)) d) (G.pr d)).map (·.1)
  rw[wk_rot (G.per h) (by lia),jS,xO,jW]
  rfl
theorem Good.lead_orb{S:Plan}(G:Good S){d x:Dt} (h:(dr S).isDart d) (hx:x∈G.orb d):G.lead x=G.lead d:=by
 have hxd:=G.dart_orb h hx
 obtain⟨a1,a2,_⟩:=G.lead_spec h
 obtain⟨b1,b2,_⟩:=G.lead_spec hxd
 have b1':G.lead x∈G.orb d:=G.orb_trans h hx b1
 have a1':G.lead d∈G.orb x:=G.orb_trans hxd (G.orb_symm h hx) a1
 apply G.vs_inj h b1' a1
 have:=a2 _ b1'
 have:=b2 _ a1'
 lia
theorem Good.round_eq{S:Plan}(G:Good S){d:Dt} (h:(dr S).isDart d):S.round (2*S.lines.length+1) d d=G.vs d:=by
 rw[round_rd,rd_all (G.per h) (by have:=G.per_le h;lia)]
 rfl
theorem Good.turned{S:Plan}(G:Good S){d:Dt} (h:(dr S).isDart d):Uy (S.round (2*S.lines.length+1) d d)=G.vs (G.lead d):=by
 rw[G.round_eq h,(G.lead_spec h).2.2]
theorem Good.two{S:Plan}(G:Good S){d:Dt} (h:(dr S).isDart d):2≤G.pr d:=by
 have p:=G.per h
 have:=p.pos
 apply yf
 intro hc
 have:G.pr d=1:=by lia
 have b:=p.back
 rw[this] at b
 have:(nxt S d).1=d.1:=by rw[show nxt S d=d from b]
 have e:d.2=d.1:=this
 rcases G.fine.ok.dart_cases h with ⟨a,_⟩ | ⟨a,_⟩ <;> rw[e] at a <;> lia
def head2(l:List Nat):Dt:=(l.getD 0 0,l.getD 1 0)
theorem Good.head2_vs{S:Plan}(G:Good S){d:Dt} (h:(dr S).isDart d):head2 (G.vs d)=d:=by
 have h2:=G.two h
 have e0:(G.vs d).getD 0 0=d.1:=by
  have hl:0<(G.vs d).length:=by simp[Good.vs,Good.orb,wk_length];lia
  rw[j4,yd hl,Ua,G.vs_get];rfl
 have e1:(G.vs d).getD 1 0=d.2:=by
  have hl:1<(G.vs d).length:=by simp[Good.vs,Good.orb,wk_length];lia
  rw[j4,yd hl,Ua,G.vs_get];rfl
 unfold head2
 rw[e0,e1]
theorem Good.pairs{S:Plan}(G:Good S){d:Dt} (h:(dr S).isDart d):(G.vs d).zip ((G.vs d).drop 1++(G.vs d).take 1)=G.orb d:=
 zip_rot (G.per h) (fun _=>rfl)
theorem Good.flow_cons{S:Plan}(G:Good S){d:Dt} (h:(dr S).isDart d):(dr S).Cons (QZ (G.orb d)):=
 G.fine.ok.closed_cons G.fine.rot h ((G.per h).nodup G.fine.ok G.fine.rot h) (by rw[(G.per h).back])
theorem Good.orb_nodup{S:Plan}(G:Good S){d:Dt} (h:(dr S).isDart d):(G.orb d).Nodup:=(G.per h).nodup G.fine.ok G.fine.rot h
theorem tele{nx:Dt→Dt}{d:Dt}(g:Nat→Int) (hf:∀ j,(it nx (j+1) d).1=(it nx j d).2) (k:Nat) :
  su (wk nx d k) (fun x=>g x.2-g x.1)=g (it nx k d).1-g d.1:=by
 induction k with
 | zero=>simp[wk,ZB,it]
 | succ k ih=>rw[wk_succ,XB,QN,ZB,ih,←hf];lia
theorem foldr_su{α:Type}(l:List α)(f:α→Int):(l.map f).foldr (fun (a b:Int)=>a+b) 0=su l f:=by
 induction l with
 | nil=>rfl
 | cons a l ih=>rw[yD,List.foldr_cons,ih,QN]
theorem Good.area_eq{S:Plan}(G:Good S){d:Dt} (h:(dr S).isDart d) :
  1048576*Uz S (G.vs d) = - su (dr S).E (fun m=>QZ (G.orb d) m*(dr S).ar m):=by
 unfold Uz
 rw[G.pairs h,foldr_su,←Z6]
 have t:=tele (nx:=nxt S) (d:=d) (fun i=>XP (S.pt i)*YP (S.pt i)) (fun _=>rfl) (G.pr d)
 rw[(G.per h).back] at t
 have e:su (G.orb d) (fun x=>1048576*(((S.pt x.1).x:Int)*((S.pt x.2).y:Int)-((S.pt x.2).x:Int)*((S.pt x.1).y:Int))) =
   su (G.orb d) (fun x=>XP (S.pt x.2)*YP (S.pt x.2)-XP (S.pt x.1)*YP (S.pt x.1))-su (G.orb d) (fun x=>(dr S).ar x):=by
  rw[←Z5]
  apply Qk
  intro x _
  show _=_-(XP (S.pt x.2)-XP (S.pt x.1))*(YP (S.pt x.1)+YP (S.pt x.2))
  unfold XP YP
  grind
 rw[e]
 have t':su (G.orb d) (fun x=>XP (S.pt x.2)*YP (S.pt x.2)-XP (S.pt x.1)*YP (S.pt x.1))=0:=by
  show su (wk (nxt S) d (G.pr d)) _=0
  lia
 rw[t',G.fine.ok.su_darts (G.orb_nodup h) (fun x hx=>G.dart_orb h hx)]
 have:su (dr S).E (fun m=>(if m∈G.orb d then (dr S).ar m else 0)+(if (m.2,m.1)∈G.orb d then (dr S).ar (m.2,m.1) else 0))=su (dr S).E (fun m=>QZ (G.orb d) m*(dr S).ar m):=by
  apply Qk
  intro m _
  have:(dr S).ar (m.2,m.1) = - (dr S).ar m:=by
   show (XP (S.pt m.1)-XP (S.pt m.2))*(YP (S.pt m.2)+YP (S.pt m.1)) = - ((XP (S.pt m.2)-XP (S.pt m.1))*(YP (S.pt m.1)+YP (S.pt m.2)))
   grind
  rw[this]
  unfold QZ
  by_cases a:m∈G.orb d <;> by_cases b:(m.2,m.1)∈G.orb d <;> simp only[a,b,if_true,if_false] <;> grind
 rw[this];lia
noncomputable def Good.d0 {S:Plan} (G:Good S):Dt:=Classical.choose (G.fine.outer G.wpos G.frame)
theorem Good.d0_dart{S:Plan}(G:Good S):(dr S).isDart G.d0:=(j7 (G.fine.outer G.wpos G.frame)).1
theorem Good.d0_zero{S:Plan}(G:Good S)(N:Dt→Int):(dr S).Wd N G.d0=0:=(j7 (G.fine.outer G.wpos G.frame)).2.1 N
theorem Good.d0_fr{S:Plan}(G:Good S):(S.pt G.d0.1).y=0∧(S.pt G.d0.2).y=0∧(S.pt G.d0.2).x<(S.pt G.d0.1).x:=(j7 (G.fine.outer G.wpos G.frame)).2.2
theorem Good.W{S:Plan}(G:Good S){r:Dt} (hr:(dr S).isDart r) {e:Dt} (he:(dr S).isDart e) :
  (dr S).Wd (QZ (G.orb r)) e=(if e∈G.orb r then 1 else 0)-(if G.d0∈G.orb r then 1 else 0):=by
 have a:=G.fine.ok.around G.fine.rot G.conn hr (G.per hr) he
 have b:=G.fine.ok.around G.fine.rot G.conn hr (G.per hr) G.d0_dart
 rw[G.d0_zero] at b
 show (dr S).Wd (QZ (wk (nxt S) r (G.pr r))) e=(if e∈wk (nxt S) r (G.pr r) then 1 else 0)-(if G.d0∈wk (nxt S) r (G.pr r) then 1 else 0)
 lia
theorem Good.area_pos{S:Plan}(G:Good S){r:Dt} (hr:(dr S).isDart r):0<Uz S (G.vs r)↔G.d0∉G.orb r:=by
 have e:=G.area_eq hr
 have O:=G.fine.ok
 constructor
 ·intro h h0
  have hp:∀ m∈(dr S).E,0≤(dr S).Wd (fun e=>su [()] (fun _=>(-1)*QZ (G.orb r) e)) m:=by
   intro m hm
   rw[O.Wd_sum [()] (fun _=>-1) (fun _=>QZ (G.orb r)) (Or.inl hm),QN,ZB,G.W hr (Or.inl hm),if_pos h0]
   by_cases q:m∈G.orb r
   ·rw[if_pos q];decide
   ·rw[if_neg q];decide
  have C:(dr S).Cons (fun e=>su [()] (fun _=>(-1)*QZ (G.orb r) e)):=cons_sum [()] (fun _=>-1) (fun _=>QZ (G.orb r)) (fun _ _=>G.flow_cons hr)
  have:=(O.area C hp).1
  have e2:su (dr S).E (fun m=>su [()] (fun _=>(-1)*QZ (G.orb r) m)*(dr S).ar m) = - su (dr S).E (fun m=>QZ (G.orb r) m*(dr S).ar m):=by
   rw[←zt]
   apply Qk;intro m _
   rw[QN,ZB];grind
  rw[e2] at this
  lia
 ·intro h0
  have hW:∀ m,(dr S).isDart m→(dr S).Wd (QZ (G.orb r)) m=if m∈G.orb r then 1 else 0:=by
   intro m hm
   rw[G.W hr hm,if_neg h0];lia
  have hp:∀ m∈(dr S).E,0≤(dr S).Wd (QZ (G.orb r)) m:=by
   intro m hm
   rw[hW m (Or.inl hm)]
   by_cases q:m∈G.orb r
   ·rw[if_pos q];decide
   ·rw[if_neg q];decide
  have:=(O.area (G.flow_cons hr) hp).2 (by
   have s:=G.self_orb hr
   have hr2:=hr
   rcases hr2 with hr' | hr'
   ·exact⟨r,hr',Or.inl (by rw[hW r hr,if_pos s];decide)⟩
   ·exact⟨(r.2,r.1),hr',Or.inr (by rw[hW (r.1,r.2) hr,if_pos s];decide)⟩)
  lia
theorem Good.ways_dart{S:Plan}(G:Good S){e:Dt}:e∈Gla.ways S↔(dr S).isDart e:=by
 rw[G.fine.dart_iff]
 unfold Gla.ways
 rw[List.mem_flatMap]
 constructor
 ·rintro⟨l,hl,h⟩
  simp only[Uw,List.not_mem_nil,or_false] at h
  rcases h with rfl | rfl
  ·exact Or.inl hl
  ·exact Or.inr hl
 ·rintro (h | h)
  ·exact⟨e,h,by simp⟩
  ·exact⟨_,h,by simp⟩
theorem Good.mem_outlines{S:Plan}(G:Good S){l:List Nat}:l∈S.outlines↔∃ e,(dr S).isDart e∧G.d0∉G.orb e∧l=G.vs (G.lead e):=by
 unfold Plan.outlines
 rw[x8,List.mem_eraseDups,Ud]
 constructor
 ·rintro⟨⟨e,he,rfl⟩,ha⟩
  have he:=G.ways_dart.1 he
  have hl:=(G.lead_spec he).1
  have hld:=G.dart_orb he hl
  rw[G.turned he] at ha ⊢
  refine⟨e,he,?_,rfl⟩
  have:=(G.area_pos hld).1 (by simpa using ha)
  intro h
  exact this (G.orb_trans hld (G.orb_symm he hl) h)
 ·rintro⟨e,he,h0,rfl⟩
  have hl:=(G.lead_spec he).1
  have hld:=G.dart_orb he hl
  refine⟨⟨e,G.ways_dart.2 he,G.turned he⟩,?_⟩
  have:=(G.area_pos hld).2 (fun h=>h0 (G.orb_trans he hl h))
  simpa using this
theorem X2{α:Type} [BEq α] [LawfulBEq α]:∀(n:Nat)(l:List α),l.length≤n→l.eraseDups.Nodup
 | _,[],_=>by simp
 | 0,a::l,h=>by simp at h
 | n+1,a::l,h=>by
  rw[List.eraseDups_cons,jR]
  refine⟨?_,X2 n _ ?_⟩
  ·rw[List.mem_eraseDups,x8]
   simp
  ·have:=List.length_filter_le (fun b=>!b==a) l
   simp only[yx] at h
   lia
theorem Good.outlines_nodup{S:Plan}(_:Good S):S.outlines.Nodup:=by
 unfold Plan.outlines
 exact (X2 _ _ (yl _)).filter _
noncomputable def Good.reps {S:Plan} (_:Good S):List Dt:=S.outlines.map head2
theorem Good.mem_reps{S:Plan}(G:Good S){r:Dt}:r∈G.reps↔(dr S).isDart r∧G.d0∉G.orb r∧G.lead r=r:=by
 unfold Good.reps
 rw[Ud]
 constructor
 ·rintro⟨l,hl,rfl⟩
  obtain⟨e,he,h0,rfl⟩:=G.mem_outlines.1 hl
  have hl:=(G.lead_spec he).1
  have hld:=G.dart_orb he hl
  rw[G.head2_vs hld]
  exact⟨hld,fun h=>h0 (G.orb_trans he hl h),G.lead_orb he hl⟩
 ·rintro⟨hr,h0,hl⟩
  exact⟨G.vs r,G.mem_outlines.2 ⟨r,hr,h0,by rw[hl]⟩,G.head2_vs hr⟩
theorem Good.orbits{S:Plan}(G:Good S):XW (dr S) (nxt S) G.pr G.d0 G.reps where
 per:=fun d h=>G.per h
 out:=G.d0_dart
 zero:=G.d0_zero
 dart:=fun r hr=>(G.mem_reps.1 hr).1
 nodup:=by
  apply XR _ G.outlines_nodup
  intro a ha b hb e
  obtain⟨x,hx,_,rfl⟩:=G.mem_outlines.1 ha
  obtain⟨y,hy,_,rfl⟩:=G.mem_outlines.1 hb
  rw[G.head2_vs (G.dart_orb hx (G.lead_spec hx).1),G.head2_vs (G.dart_orb hy (G.lead_spec hy).1)] at e
  rw[e]
 sep:=fun r hr q hq h=>by
  have a:=G.mem_reps.1 hr
  have b:=G.mem_reps.1 hq
  rw[←a.2.2,←b.2.2]
  exact G.lead_orb a.1 h
 inner:=fun r hr=>(G.mem_reps.1 hr).2.1
 all:=fun d hd=>by
  by_cases h:G.d0∈G.orb d
  ·left
   exact G.orb_symm hd h
  ·right
   have hl:=(G.lead_spec hd).1
   have hld:=G.dart_orb hd hl
   exact⟨G.lead d,G.mem_reps.2 ⟨hld,fun h'=>h (G.orb_trans hd hl h'),G.lead_orb hd hl⟩,G.orb_symm hd hl⟩
theorem Good.euler{S:Plan}(G:Good S):S.outlines.length+S.pts.length=S.lines.length+1:=by
 have hE:∀ e∈(dr S).E,e.1∈yj S.pts.length∧e.2∈yj S.pts.length:=by
  intro e he
  have:=G.fine.E_lt he
  simp[this]
 have h1:=G.orbits.euler_le G.fine.ok G.fine.rot G.conn (V:=yj S.pts.length) G7 hE (fun v hv=>G.deg v (List.mem_range.1 hv))
 have h2:=G.orbits.euler_ge G.fine.ok G.fine.rot (V:=yj S.pts.length) G7 hE
 have e1:G.reps.length=S.outlines.length:=by simp[Good.reps]
 have e2:(dr S).E.length=S.lines.length:=by show (S.lines.map (ori S)).length=_;simp
 rw[e1,e2,yZ] at h1 h2
 lia
end Pl
namespace Pl
open Gla (Pt Plan)
theorem su_even{α:Type}{l:List α}{f:α→Int}(h:∀ x∈l,f x%2=0):su l f%2=0:=by
 induction l with
 | nil=>rfl
 | cons a l ih=>
  have h1:=h a (by simp)
  have h2:=ih (fun x hx=>h x (by simp[hx]))
  rw[QN];lia
theorem Y4(x y : Int) : (0 < x → (0 < y → 0 < x * y) ∧ (y ≤ 0 → x * y ≤ 0)) ∧ (x < 0 → (0 < y → x * y < 0) ∧ (y ≤ 0 → 0 ≤ x * y)) :=
  ⟨fun hx => ⟨fun hy => jX hx hy, fun hy => yL (by lia) hy⟩,
   fun hx => ⟨fun hy => jl hx hy, fun hy => yP (by lia) hy⟩⟩
def cR(p q z:Pt):Bool:=(decide (p.y≤z.y)&&(decide (z.y<q.y)&&decide (0<yh p q z))) || (decide (q.y≤z.y)&&(decide (z.y<p.y)&&decide (yh p q z<0)))
def cD(p q z:Pt):Bool:=(decide (XP p<XP z)&&(decide (XP z<XP q)&&decide (0<yh p q z))) || (decide (XP q<XP z)&&(decide (XP z<XP p)&&decide (yh p q z<0)))
def inQ(p z:Pt):Bool:=decide (XP z<XP p)&&decide (p.y≤z.y)
def b2i(b:Bool):Int:=if b=true then 1 else 0
theorem parity{p q z:Pt}(hp:XP p≠XP z)(hq:XP q≠XP z)(hon:jw p q z=false) :
  (b2i (cR p q z)+b2i (cD p q z)+(b2i (inQ p z)+b2i (inQ q z)))%2=0:=by
 have ht:1048576*yh p q z=(XP p-XP z)*(YP q-YP z)-(XP q-XP z)*(YP p-YP z):=by
  rw[YG];grind
 have nz:(XP p<XP z→XP z<XP q→yh p q z≠0)∧(XP q<XP z→XP z<XP p→yh p q z≠0):=by
  constructor
  ·intro h1 h2 h0
   rw[ZZ h0 (by lia) (by lia) (by lia)] at hon
   cases hon
  ·intro h1 h2 h0
   have:jw q p z=true:=ZZ (by rw[Xz,h0];rfl) (by lia) (by lia) (by lia)
   rw[Jr,hon] at this
   cases this
 have s1:=Y4 (XP p-XP z) (YP q-YP z)
 have s2:=Y4 (XP q-XP z) (YP p-YP z)
 unfold YP at ht s1 s2
 unfold cR cD inQ b2i
 simp only[y8,yk,decide_eq_true_eq]
 generalize (XP p-XP z)*((q.y:Int)-(z.y:Int))=u at *
 generalize (XP q-XP z)*((p.y:Int)-(z.y:Int))=w at *
 generalize yh p q z=T at *
 rcases xJ hp with a | a <;> rcases xJ hq with b | b <;>
  rcases xH z.y p.y with c | c <;> rcases xH z.y q.y with d | d <;>
  simp only[a,b,c,d,Int.not_lt.2 (Int.le_of_lt a),Int.not_lt.2 (Int.le_of_lt b),Nat.not_le.2,Nat.not_lt.2,true_and,false_and,and_true,and_false,or_false,false_or,if_true,if_false] <;>
  (first | lia | (split <;> (first | lia | (split <;> lia))))
end Pl
namespace Pl
open Gla (Pt Plan)
structure Clr(S:Plan)(z:Pt):Prop where
 x0:0<z.x
 x1:z.x<S.w
 y0:0<z.y
 y1:z.y<S.h
 off:∀ l∈S.lines,jw (S.pt l.1) (S.pt l.2) z=false
theorem clr_of{S:Plan}{z:Pt}(h:j3 S z=true):Clr S z:=by
 unfold j3 at h
 simp only[yk,decide_eq_true_eq,GW,Ge] at h
 obtain⟨a,b,c,d,e⟩:=h
 rw[jO] at e
 exact⟨a,b,c,d,fun l hl=>by simpa using e l hl⟩
theorem Clr.off_dart{S:Plan}(F:Fine S){z:Pt}(c:Clr S z){d:Dt} (hd:(dr S).isDart d):jw (S.pt d.1) (S.pt d.2) z=false:=by
 rcases F.dart_iff.1 hd with h | h
 ·exact c.off d h
 ·exact (Jr (S.pt d.1) (S.pt d.2) z).symm.trans (c.off (d.2,d.1) h)
theorem Clr.ne{S:Plan}(F:Fine S){z:Pt}(c:Clr S z){d:Dt} (hd:(dr S).isDart d):XP (S.pt d.1)≠XP z:=by
 intro e
 have b:=F.pt_box (F.dart_lt hd).1
 have:=F.h
 have hz:=c.y1
 have:S.pt d.1=z:=XP_inj (by lia) (by lia) e
 have off:=c.off_dart F hd
 rw[←this] at off
 have:jw (S.pt d.1) (S.pt d.2) (S.pt d.1)=true:=by
  unfold jw xp
  have:yh (S.pt d.1) (S.pt d.2) (S.pt d.1)=0:=by unfold yh yQ yR;grind
  simp only[yk,beq_iff_eq,decide_eq_true_eq]
  exact⟨this,by lia,by lia⟩
 rw[off] at this
 cases this
def Wz(S:Plan)(N:Dt→Int)(z:Pt):Int:=
 su (dr S).E (fun m=>if XP (S.pt m.1)<XP z∧XP z<XP (S.pt m.2)∧0<yh (S.pt m.1) (S.pt m.2) z then N m else 0)
theorem filter_len{α:Type}(l:List α)(p:α→Bool):((l.filter p).length:Int)=su l (fun x=>b2i (p x)):=by
 induction l with
 | nil=>rfl
 | cons a l ih=>
  rw[QN,←ih]
  unfold b2i
  by_cases h:p a=true
  ·rw[yS h,if_pos h,yx];lia
  ·rw[jf h,if_neg h];lia
theorem Good.inside{S:Plan}(G:Good S){z:Pt}(c:Clr S z){r:Dt} (hr:(dr S).isDart r) :
  Ui S (G.vs r) z=true↔Wz S (QZ (G.orb r)) z%2=1:=by
 have F:=G.fine
 have e0:Ui S (G.vs r) z=decide (((G.orb r).filter (fun (x:Nat×Nat)=>cR (S.pt x.1) (S.pt x.2) z)).length%2=1):=by
  unfold Ui
  rw[G.pairs hr]
  rfl
 rw[e0,decide_eq_true_eq]
 have e1:=filter_len (G.orb r) (fun (x:Nat×Nat)=>cR (S.pt x.1) (S.pt x.2) z)
 have par:=su_even (l:=G.orb r) (f:=fun x=>b2i (cR (S.pt x.1) (S.pt x.2) z)+b2i (cD (S.pt x.1) (S.pt x.2) z)+(b2i (inQ (S.pt x.1) z)+b2i (inQ (S.pt x.2) z))) (fun x hx=>by
  have hd:=G.dart_orb hr hx
  exact parity (c.ne F hd) (c.ne F (d:=(x.2,x.1)) hd.rev) (c.off_dart F hd))
 rw[Zu,Zu,Zu] at par
 have t:=tele (nx:=nxt S) (d:=r) (fun i=>b2i (inQ (S.pt i) z)) (fun _=>rfl) (G.pr r)
 rw[(G.per hr).back,Z5] at t
 have t':su (G.orb r) (fun x=>b2i (inQ (S.pt x.2) z))=su (G.orb r) (fun x=>b2i (inQ (S.pt x.1) z)):=by
  show su (wk (nxt S) r (G.pr r)) _=su (wk (nxt S) r (G.pr r)) _
  lia
 rw[t'] at par
 have e2:(su (G.orb r) (fun x=>b2i (cD (S.pt x.1) (S.pt x.2) z))-Wz S (QZ (G.orb r)) z)%2=0:=by
  rw[F.ok.su_darts (G.orb_nodup hr) (fun x hx=>G.dart_orb hr hx)]
  unfold Wz
  rw[←Z5]
  apply su_even
  intro m hm
  have hl:=F.E_left hm
  have ts:=Xz (S.pt m.1) (S.pt m.2) z
  have a1:b2i (cD (S.pt m.1) (S.pt m.2) z)=if XP (S.pt m.1)<XP z∧XP z<XP (S.pt m.2)∧0<yh (S.pt m.1) (S.pt m.2) z then 1 else 0:=by
   unfold b2i cD
   simp only[y8,yk,decide_eq_true_eq]
   by_cases q:XP (S.pt m.1)<XP z∧XP z<XP (S.pt m.2)∧0<yh (S.pt m.1) (S.pt m.2) z
   ·rw[if_pos q,if_pos (Or.inl q)]
   ·rw[if_neg q,if_neg (by lia)]
  have a2:b2i (cD (S.pt (m.2,m.1).1) (S.pt (m.2,m.1).2) z)=if XP (S.pt m.1)<XP z∧XP z<XP (S.pt m.2)∧0<yh (S.pt m.1) (S.pt m.2) z then 1 else 0:=by
   unfold b2i cD
   simp only[y8,yk,decide_eq_true_eq]
   rw[ts]
   by_cases q:XP (S.pt m.1)<XP z∧XP z<XP (S.pt m.2)∧0<yh (S.pt m.1) (S.pt m.2) z
   ·rw[if_pos q,if_pos (Or.inr (by lia))]
   ·rw[if_neg q,if_neg (by lia)]
  rw[a1,a2]
  unfold QZ
  by_cases q:XP (S.pt m.1)<XP z∧XP z<XP (S.pt m.2)∧0<yh (S.pt m.1) (S.pt m.2) z
  ·simp only[if_pos q]
   by_cases u:m∈G.orb r <;> by_cases v:(m.2,m.1)∈G.orb r <;> simp only[u,v,if_true,if_false] <;> decide
  ·simp only[if_neg q]
   by_cases u:m∈G.orb r <;> by_cases v:(m.2,m.1)∈G.orb r <;> simp only[u,v,if_true,if_false] <;> decide
 lia
structure Under(S:Plan)(z:Pt)(e:Dt):Prop where
 mem:e∈(dr S).E
 l:XP (S.pt e.1)<XP z
 r:XP z<XP (S.pt e.2)
 up:0<yh (S.pt e.1) (S.pt e.2) z
 top:∀ m∈(dr S).E,XP (S.pt m.1)<XP z→XP z<XP (S.pt m.2)→0<yh (S.pt m.1) (S.pt m.2) z→(dr S).h m (2*XP z)≤(dr S).h e (2*XP z)
theorem Under.W{S:Plan}(F:Fine S){z:Pt}(c:Clr S z){e:Dt}(u:Under S z e){N:Dt→Int} (C:(dr S).Cons N):Wz S N z=(dr S).Wd N e:=by
 have O:=F.ok
 have hl:=F.E_left u.mem
 unfold Dr.Wd
 rw[if_pos (by exact hl),O.bl_const C u.mem (u:=XP z) ⟨GV _,hl⟩ ⟨by show XP (S.pt e.1)≤XP z;have:=u.l;lia,u.r⟩]
 unfold Wz Dr.bl
 rw[←ZA O.nodup u.mem N,←Zu]
 apply Qk
 intro m hm
 have hml:=F.E_left hm
 have n1:=c.ne F (d:=m) (Or.inl hm)
 have ul:=u.l
 have ur:=u.r
 by_cases q:m=e
 ·subst q
  rw[if_pos ⟨u.l,u.r,u.up⟩,if_neg (by lia),if_pos rfl];lia
 ·rw[if_neg q]
  have se:=(F.side_iff u.mem z).1
  have sm:=(F.side_iff hm z).1
  by_cases a:XP (S.pt m.1)<XP z∧XP z<XP (S.pt m.2)
  ·have d:=O.distinct hm u.mem q (t:=2*XP z) (by show 2*XP (S.pt m.1)<_;lia) (by show 2*XP (S.pt e.1)<_;lia) (by show _<2*XP (S.pt m.2);lia) (by show _<2*XP (S.pt e.2);lia)
   have o:=O.order hm u.mem (t:=2*XP z) (u:=2*XP z+1) (by show 2*XP (S.pt m.1)<_;lia) (by show 2*XP (S.pt e.1)<_;lia) (by show _<2*XP (S.pt m.2);lia) (by show _<2*XP (S.pt e.2);lia)
    (by show 2*XP (S.pt m.1)<_;lia) (by show 2*XP (S.pt e.1)<_;lia) (by show _<2*XP (S.pt m.2);lia) (by show _<2*XP (S.pt e.2);lia)
   have act:(dr S).act m (XP z):=⟨by show XP (S.pt m.1)≤XP z;lia,a.2⟩
   have eu:=se.1 u.up
   by_cases w:0<yh (S.pt m.1) (S.pt m.2) z
   ·have tp:=u.top m hm a.1 a.2 w
    rw[if_pos ⟨a.1,a.2,w⟩,if_pos ⟨act,o.1 (by lia)⟩];lia
   ·rw[if_neg (by lia),if_neg (fun h=>w (sm.2 (by have:=o.2 h.2;lia)))];lia
  ·rw[if_neg (by lia),if_neg (fun h=>a (by
    have h1:XP (S.pt m.1)≤XP z:=h.1.1
    have h2:XP z<XP (S.pt m.2):=h.1.2
    lia))];lia
theorem Good.inside_iff{S:Plan}(G:Good S){z:Pt}(c:Clr S z){e:Dt}(u:Under S z e){r:Dt} (hr:(dr S).isDart r) (h0:G.d0∉G.orb r) :
  Ui S (G.vs r) z=true↔e∈G.orb r:=by
 rw[G.inside c hr,u.W G.fine c (G.flow_cons hr),G.W hr (Or.inl u.mem),if_neg h0]
 by_cases q:e∈G.orb r
 ·simp[q]
 ·simp[q]
theorem QY(S:Plan)(on:Pt→Bool):(yK S on).Pairwise (· < ·):=by
 unfold yK
 apply List.Pairwise.filter
 rw[j9]
 intro i j hi hj hij
 simpa using hij
theorem Xd{S:Plan}:∀ {l:List Nat},yX S l=true→l.Pairwise (· < ·)→∀ {v w:Nat},v∈l→w∈l→v<w→∃ x∈l,v<x∧S.joined v x=true
 | [],_,_,_,_,hv,_,_=>by simp at hv
 | [a],_,_,_,_,hv,hw,hlt=>by simp at hv hw;lia
 | a::b::r,hc,hp,v,w,hv,hw,hlt=>by
  have hc':=hc
  unfold yX at hc'
  simp only[xW,xw,Ga,jV,yk] at hc'
  have hp':=List.pairwise_cons.1 hp
  rcases List.mem_cons.1 hv with e | hv2
  ·subst e
   exact⟨b,by simp,hp'.1 b (by simp),hc'.1⟩
  ·have hw':w∈b::r:=by
    rcases List.mem_cons.1 hw with e | hw2
    ·have:=hp'.1 v hv2;lia
    ·exact hw2
   have tail:yX S (b::r)=true:=by
    unfold yX
    simpa using hc'.2
   obtain⟨x,hx,h1,h2⟩:=Xd tail hp'.2 hv2 hw' hlt
   exact⟨x,by simp[hx],h1,h2⟩
theorem Xe{S:Plan}:∀ {l:List Nat},yX S l=true→l.Pairwise (· < ·)→∀ {v w:Nat},v∈l→w∈l→w<v→∃ x∈l,x<v∧S.joined x v=true
 | [],_,_,_,_,hv,_,_=>by simp at hv
 | [a],_,_,_,_,hv,hw,hlt=>by simp at hv hw;lia
 | a::b::r,hc,hp,v,w,hv,hw,hlt=>by
  have hc':=hc
  unfold yX at hc'
  simp only[xW,xw,Ga,jV,yk] at hc'
  have hp':=List.pairwise_cons.1 hp
  rcases List.mem_cons.1 hv with e | hv2
  ·rcases List.mem_cons.1 hw with e2 | hw2
   ·lia
   ·have:=hp'.1 w hw2;lia
  ·have tail:yX S (b::r)=true:=by
    unfold yX
    simpa using hc'.2
   by_cases q:v=b
   ·subst q
    exact⟨a,by simp,hp'.1 v (by simp),hc'.1⟩
   ·have hb:b<v:=by
     rcases List.mem_cons.1 hv2 with e | hv3
     ·exact absurd e q
     ·exact (List.pairwise_cons.1 hp'.2).1 v hv3
    obtain⟨x,hx,h1,h2⟩:=Xe tail hp'.2 hv2 (w:=b) (by simp) hb
    exact⟨x,by simp[hx],h1,h2⟩
theorem Xn(S:Plan)(i j:Nat):S.joined i j=S.joined j i:=by
 unfold Plan.joined
 rw[Nat.min_comm,Nat.max_comm]
structure Frame(S:Plan):Prop where
 c00:∃ i,i<S.pts.length∧S.pt i=⟨0,0⟩
 cw0:∃ i,i<S.pts.length∧S.pt i=⟨S.w,0⟩
 c0h:∃ i,i<S.pts.length∧S.pt i=⟨0,S.h⟩
 cwh:∃ i,i<S.pts.length∧S.pt i=⟨S.w,S.h⟩
 bot:yX S (yK S (fun (p:Pt)=>p.y==0))=true
 top:yX S (yK S (fun (p:Pt)=>p.y==S.h))=true
 lef:yX S (yK S (fun (p:Pt)=>p.x==0))=true
 rig:yX S (yK S (fun (p:Pt)=>p.x==S.w))=true
theorem frame_of{S:Plan}(h6:jE S=true):Frame S:=by
 unfold jE at h6
 simp only[yk] at h6
 obtain⟨c1,c2,c3,c4,e1,e2,e3,e4⟩:=h6
 have ex:∀ p,S.pts.contains p=true→∃ i,i<S.pts.length∧S.pt i=p:=by
  intro p hp
  rw[j6] at hp
  obtain⟨i,hi,h⟩:=List.mem_iff_getElem.1 hp
  exact⟨i,hi,by rw[pt_eq hi,h]⟩
 exact⟨ex _ c1,ex _ c2,ex _ c3,ex _ c4,e1,e2,e3,e4⟩
theorem Fine.lt_iff{S:Plan}(F:Fine S){i j:Nat}(hi:i<S.pts.length)(hj:j<S.pts.length):i<j↔(S.pt i).y<(S.pt j).y∨((S.pt i).y=(S.pt j).y∧(S.pt i).x<(S.pt j).x):=by
 have key:∀ i j,i<S.pts.length→j<S.pts.length→i<j→(S.pt i).y<(S.pt j).y∨((S.pt i).y=(S.pt j).y∧(S.pt i).x<(S.pt j).x):=by
  intro i j hi hj hij
  have:=F.pts i j hij hj
  rw[pt_eq hi,pt_eq hj]
  unfold Pt.below at this
  simpa using this
 constructor
 ·exact key i j hi hj
 ·intro h
  rcases jP i j with q | q | q
  ·exact q
  ·subst q;lia
  ·have:=key j i hj hi q;lia
end Pl
namespace Pl
open Gla (Pt Plan)
def Fr(S:Plan)(d:Dt):Prop:=
 ((S.pt d.1).y=0∧(S.pt d.2).y=0∧(S.pt d.2).x<(S.pt d.1).x)∨
 ((S.pt d.1).x=0∧(S.pt d.2).x=0∧(S.pt d.1).y<(S.pt d.2).y)∨
 ((S.pt d.1).y=S.h∧(S.pt d.2).y=S.h∧(S.pt d.1).x<(S.pt d.2).x)∨
 ((S.pt d.1).x=S.w∧(S.pt d.2).x=S.w∧(S.pt d.2).y<(S.pt d.1).y)
theorem half_lt{r c b:Int×Int}(h:¬ xK r c b=true):xN r b≤xN r c∧(xN r b=xN r c→0≤c.1*b.2-c.2*b.1):=by
 unfold xK at h
 simp only[y8,yk,decide_eq_true_eq,beq_iff_eq] at h
 constructor
 ·lia
 ·intro e;lia
structure Coo(f g:Int×Int→Int):Prop where
 cross:∀ a b:Int×Int,a.1*b.2-a.2*b.1=g a*f b-f a*g b
 dot:∀ a b:Int×Int,a.1*b.1+a.2*b.2=f a*f b+g a*g b
theorem YX{f g:Int×Int→Int}(K:Coo f g){r c b:Int×Int}(h:¬ xK r c b=true)(r1:f r<0)(r2:g r=0)
  (c1:0<f c) (c2:g c=0) (b2:0≤g b):0<f b∧g b=0:=by
 obtain⟨h1,_⟩:=half_lt h
 have hc:xN r c=1:=by
  unfold xN
  simp only
  rw[K.cross,K.dot,r2,c2]
  have:f r*f c<0:=jl r1 c1
  rw[if_neg (by simp),if_neg (by simp),if_pos (by lia)]
 rw[hc] at h1
 unfold xN at h1
 simp only at h1
 rw[K.cross,K.dot,r2] at h1
 have p:0≤- (f r*g b):=by
  have:=j5 (a:=f r) (b:=g b) (by lia) b2
  lia
 rw[jA,jA] at h1
 rw[if_neg (by lia)] at h1
 by_cases q:0<0-f r*g b
 ·rw[if_pos q] at h1;lia
 ·rw[if_neg q] at h1
  have g0:g b=0:=by
   have:f r*g b=0:=by lia
   rcases Int.mul_eq_zero.1 this with h | h
   ·lia
   ·exact h
  refine⟨?_,g0⟩
  by_cases w:f r*f b+0<0
  ·apply yf
   intro hcon
   have:=yP (a:=f r) (b:=f b) (by lia) (by lia)
   lia
  ·rw[if_neg w] at h1;lia
theorem zY{f g:Int×Int→Int}(K:Coo f g){r c b:Int×Int}(h:¬ xK r c b=true)(r1:f r<0)(r2:g r=0)
  (c1:f c=0) (c2:0<g c) (b1:f b≤0) (b2:0≤g b):f b=0∧0<g b:=by
 obtain⟨h1,h2⟩:=half_lt h
 have hc:xN r c=2:=by
  unfold xN
  simp only
  rw[K.cross,K.dot,r2,c1]
  have:f r*g c<0:=jl r1 c2
  rw[if_neg (by lia),if_pos (by lia)]
 rw[hc] at h1 h2
 have p:f r*g b≤0:=j5 (a:=f r) (b:=g b) (by lia) b2
 have p2:0≤f r*f b:=yP (by lia) b1
 have hb:xN r b=2∧f r*g b<0:=by
  unfold xN at h1 ⊢
  simp only at h1 ⊢
  rw[K.cross,K.dot,r2] at h1 ⊢
  rw[jA,jA] at h1 ⊢
  rw[if_neg (by lia)] at h1 ⊢
  by_cases q:0<0-f r*g b
  ·rw[if_pos q];exact⟨rfl,by lia⟩
  ·rw[if_neg q] at h1
   rw[if_neg (by lia)] at h1
   lia
 have h3:=h2 hb.1
 rw[K.cross,c1,jA] at h3
 refine⟨?_,?_⟩
 ·apply yf
  intro hcon
  have:=yN (a:=g c) (b:=f b) c2 (by lia)
  lia
 ·apply yf
  intro hcon
  have:g b=0:=by lia
  rw[this] at hb
  lia
theorem Fine.not_sooner{S:Plan}(F:Fine S){u v c:Nat} (h:(dr S).isDart (u,v)) (hc:(dr S).isDart (v,c)) :
  ¬ xK (yg S v u) (yg S v c) (yg S v (S.next u v))=true:=by
 have n:=F.next_is h
 intro hs
 exact n.2 c hc ((F.sooner_iff h.rev hc n.1).1 hs)
theorem coo1:Coo (fun d=>- d.1) (fun d=>d.2):=⟨fun a b=>by grind,fun a b=>by grind⟩
theorem coo2:Coo (fun d=>d.2) (fun d=>d.1):=⟨fun a b=>by grind,fun a b=>by grind⟩
theorem coo3:Coo (fun d=>d.1) (fun d=>- d.2):=⟨fun a b=>by grind,fun a b=>by grind⟩
theorem coo4:Coo (fun d=>- d.2) (fun d=>- d.1):=⟨fun a b=>by grind,fun a b=>by grind⟩
theorem Fr.next{S:Plan}(F:Fine S)(A:Frame S)(hw:0<S.w)(hh:0<S.h){d:Dt} (hd:(dr S).isDart d) (h:Fr S d):Fr S (nxt S d):=by
 obtain⟨u,v⟩:=d
 have lt:=F.dart_lt hd
 simp only at lt
 have nd:(dr S).isDart (v,S.next u v):=F.rot.dart hd
 have ltb:=(F.dart_lt nd).2
 simp only at ltb
 have boxv:=F.pt_box lt.2
 have boxu:=F.pt_box lt.1
 have boxb:=F.pt_box ltb
 show Fr S (v,S.next u v)
 unfold Fr at h ⊢
 simp only at h ⊢
 have ns:=fun c (hc:(dr S).isDart (v,c))=>F.not_sooner hd hc
 generalize S.next u v=b at *
 rcases h with ⟨h1,h2,h3⟩ | ⟨h1,h2,h3⟩ | ⟨h1,h2,h3⟩ | ⟨h1,h2,h3⟩
 ·-- the lower JJ,to the left
  by_cases q:(S.pt v).x=0
  ·obtain⟨i,hi,pi⟩:=A.c0h
   obtain⟨c,hc,vc,jc⟩:=Xd A.lef (QY S _) (v:=v) (w:=i) (QA.2 ⟨lt.2,by simp[q]⟩) (QA.2 ⟨hi,by simp[pi]⟩)
    ((F.lt_iff lt.2 hi).2 (by rw[pi];simp only;lia))
   have hcl:=(QA.1 hc)
   have cx:(S.pt c).x=0:=by simpa using hcl.2
   have cy:=(F.lt_iff lt.2 hcl.1).1 vc
   have:=zY coo1 (ns c (Q1 F jc)) (by unfold yg yQ;simp only;lia) (by unfold yg yR;simp only;lia)
    (by unfold yg yQ;simp only;lia) (by unfold yg yR;simp only;lia) (by unfold yg yQ;simp only;lia) (by unfold yg yR;simp only;lia)
   unfold yg yQ yR at this
   simp only at this
   right;left;lia
  ·obtain⟨i,hi,pi⟩:=A.c00
   obtain⟨c,hc,vc,jc⟩:=Xe A.bot (QY S _) (v:=v) (w:=i) (QA.2 ⟨lt.2,by simp[h2]⟩) (QA.2 ⟨hi,by simp[pi]⟩)
    ((F.lt_iff hi lt.2).2 (by rw[pi];simp only;lia))
   have hcl:=(QA.1 hc)
   have cy:(S.pt c).y=0:=by simpa using hcl.2
   have cx:=(F.lt_iff hcl.1 lt.2).1 vc
   have:=YX coo1 (ns c (Q1 F (by rw[Xn];exact jc))) (by unfold yg yQ;simp only;lia) (by unfold yg yR;simp only;lia)
    (by unfold yg yQ;simp only;lia) (by unfold yg yR;simp only;lia) (by unfold yg yR;simp only;lia)
   unfold yg yQ yR at this
   simp only at this
   left;lia
 ·-- the left JJ,up
  by_cases q:(S.pt v).y=S.h
  ·obtain⟨i,hi,pi⟩:=A.cwh
   obtain⟨c,hc,vc,jc⟩:=Xd A.top (QY S _) (v:=v) (w:=i) (QA.2 ⟨lt.2,by simp[q]⟩) (QA.2 ⟨hi,by simp[pi]⟩)
    ((F.lt_iff lt.2 hi).2 (by rw[pi];simp only;lia))
   have hcl:=(QA.1 hc)
   have cx:(S.pt c).y=S.h:=by simpa using hcl.2
   have cy:=(F.lt_iff lt.2 hcl.1).1 vc
   have:=zY coo2 (ns c (Q1 F jc)) (by unfold yg yR;simp only;lia) (by unfold yg yQ;simp only;lia)
    (by unfold yg yR;simp only;lia) (by unfold yg yQ;simp only;lia) (by unfold yg yR;simp only;lia) (by unfold yg yQ;simp only;lia)
   unfold yg yQ yR at this
   simp only at this
   right;right;left;lia
  ·obtain⟨i,hi,pi⟩:=A.c0h
   obtain⟨c,hc,vc,jc⟩:=Xd A.lef (QY S _) (v:=v) (w:=i) (QA.2 ⟨lt.2,by simp[h2]⟩) (QA.2 ⟨hi,by simp[pi]⟩)
    ((F.lt_iff lt.2 hi).2 (by rw[pi];simp only;lia))
   have hcl:=(QA.1 hc)
   have cx:(S.pt c).x=0:=by simpa using hcl.2
   have cy:=(F.lt_iff lt.2 hcl.1).1 vc
   have:=YX coo2 (ns c (Q1 F jc)) (by unfold yg yR;simp only;lia) (by unfold yg yQ;simp only;lia)
    (by unfold yg yR;simp only;lia) (by unfold yg yQ;simp only;lia) (by unfold yg yQ;simp only;lia)
   unfold yg yQ yR at this
   simp only at this
   right;left;lia
 ·-- the upper JJ,to the right
  by_cases q:(S.pt v).x=S.w
  ·obtain⟨i,hi,pi⟩:=A.cw0
   obtain⟨c,hc,vc,jc⟩:=Xe A.rig (QY S _) (v:=v) (w:=i) (QA.2 ⟨lt.2,by simp[q]⟩) (QA.2 ⟨hi,by simp[pi]⟩)
    ((F.lt_iff hi lt.2).2 (by rw[pi];simp only;lia))
   have hcl:=(QA.1 hc)
   have cx:(S.pt c).x=S.w:=by simpa using hcl.2
   have cy:=(F.lt_iff hcl.1 lt.2).1 vc
   have:=zY coo3 (ns c (Q1 F (by rw[Xn];exact jc))) (by unfold yg yQ;simp only;lia) (by unfold yg yR;simp only;lia)
    (by unfold yg yQ;simp only;lia) (by unfold yg yR;simp only;lia) (by unfold yg yQ;simp only;lia) (by unfold yg yR;simp only;lia)
   unfold yg yQ yR at this
   simp only at this
   right;right;right;lia
  ·obtain⟨i,hi,pi⟩:=A.cwh
   obtain⟨c,hc,vc,jc⟩:=Xd A.top (QY S _) (v:=v) (w:=i) (QA.2 ⟨lt.2,by simp[h2]⟩) (QA.2 ⟨hi,by simp[pi]⟩)
    ((F.lt_iff lt.2 hi).2 (by rw[pi];simp only;lia))
   have hcl:=(QA.1 hc)
   have cx:(S.pt c).y=S.h:=by simpa using hcl.2
   have cy:=(F.lt_iff lt.2 hcl.1).1 vc
   have:=YX coo3 (ns c (Q1 F jc)) (by unfold yg yQ;simp only;lia) (by unfold yg yR;simp only;lia)
    (by unfold yg yQ;simp only;lia) (by unfold yg yR;simp only;lia) (by unfold yg yR;simp only;lia)
   unfold yg yQ yR at this
   simp only at this
   right;right;left;lia
 ·-- the right JJ,down
  by_cases q:(S.pt v).y=0
  ·obtain⟨i,hi,pi⟩:=A.c00
   obtain⟨c,hc,vc,jc⟩:=Xe A.bot (QY S _) (v:=v) (w:=i) (QA.2 ⟨lt.2,by simp[q]⟩) (QA.2 ⟨hi,by simp[pi]⟩)
    ((F.lt_iff hi lt.2).2 (by rw[pi];simp only;lia))
   have hcl:=(QA.1 hc)
   have cx:(S.pt c).y=0:=by simpa using hcl.2
   have cy:=(F.lt_iff hcl.1 lt.2).1 vc
   have:=zY coo4 (ns c (Q1 F (by rw[Xn];exact jc))) (by unfold yg yR;simp only;lia) (by unfold yg yQ;simp only;lia)
    (by unfold yg yR;simp only;lia) (by unfold yg yQ;simp only;lia) (by unfold yg yR;simp only;lia) (by unfold yg yQ;simp only;lia)
   unfold yg yQ yR at this
   simp only at this
   left;lia
  ·obtain⟨i,hi,pi⟩:=A.cw0
   obtain⟨c,hc,vc,jc⟩:=Xe A.rig (QY S _) (v:=v) (w:=i) (QA.2 ⟨lt.2,by simp[h2]⟩) (QA.2 ⟨hi,by simp[pi]⟩)
    ((F.lt_iff hi lt.2).2 (by rw[pi];simp only;lia))
   have hcl:=(QA.1 hc)
   have cx:(S.pt c).x=S.w:=by simpa using hcl.2
   have cy:=(F.lt_iff hcl.1 lt.2).1 vc
   have:=YX coo4 (ns c (Q1 F (by rw[Xn];exact jc))) (by unfold yg yR;simp only;lia) (by unfold yg yQ;simp only;lia)
    (by unfold yg yR;simp only;lia) (by unfold yg yQ;simp only;lia) (by unfold yg yQ;simp only;lia)
   unfold yg yQ yR at this
   simp only at this
   right;right;right;lia
end Pl
namespace Pl
open Gla (Pt Plan)
theorem Good.outer_fr{S:Plan}(G:Good S){e:Dt}(h:e∈G.orb G.d0):Fr S e:=by
 obtain⟨j,hj,rfl⟩:=Zb.1 h
 clear h hj
 induction j with
 | zero=>exact Or.inl G.d0_fr
 | succ j ih=>exact Fr.next G.fine (frame_of G.frame) G.wpos G.hpos (G.fine.rot.it_dart G.d0_dart j) ih
theorem Good.under_inner{S:Plan}(G:Good S){z:Pt}(c:Clr S z){e:Dt}(u:Under S z e):G.d0∉G.orb e:=by
 intro h
 have fr:=G.outer_fr (G.orb_symm (Or.inl u.mem) h)
 have hl:=u.l
 have hr:=u.r
 have hu:=u.up
 have b1:=G.fine.pt_box (G.fine.E_lt u.mem).1
 have b2:=G.fine.pt_box (G.fine.E_lt u.mem).2
 have hh:=G.fine.h
 have cx:=c.x0
 have cx1:=c.x1
 have cy:=c.y0
 have cy1:=c.y1
 unfold XP at hl hr
 rcases fr with ⟨h1,h2,h3⟩ | ⟨h1,h2,h3⟩ | ⟨h1,h2,h3⟩ | ⟨h1,h2,h3⟩
 ·lia
 ·lia
 ·unfold yh yQ yR at hu
  rw[h1,h2] at hu
  have e0:((S.h:Int)-S.h)=0:=by lia
  rw[e0,jA] at hu
  have:=yN (a:=((S.pt e.2).x:Int)-(S.pt e.1).x) (b:=(z.y:Int)-S.h) (by lia) (by lia)
  lia
 ·lia
theorem cover{S:Plan}(f:Nat→Int)(x:Int):∀ {l:List Nat},yX S l=true→(∀ i∈l,f i≠x)→∀ {a:Nat},l.head?=some a→f a<x→(∃ b∈l,x<f b)→
  ∃ p q,p∈l∧q∈l∧f p<x∧x<f q∧S.joined p q=true
 | [],_,_,_,h,_,_=>by simp at h
 | [a],_,_,_,h,ha,⟨b,hb,hx⟩=>by
  simp at h hb
  subst h;subst hb
  lia
 | a::b::r,hc,hn,_,h,ha,⟨w,hw,hx⟩=>by
  simp at h
  subst h
  have hc':=hc
  unfold yX at hc'
  simp only[xW,xw,Ga,jV,yk] at hc'
  by_cases q:x<f b
  ·exact⟨a,b,by simp,by simp,ha,q,hc'.1⟩
  ·have tail:yX S (b::r)=true:=by
    unfold yX
    simpa using hc'.2
   have hw':w∈b::r:=by
    rcases List.mem_cons.1 hw with e | hw2
    ·subst e;lia
    ·exact hw2
   have:=hn b (by simp)
   obtain⟨p,q,h1,h2,h3⟩:=cover f x tail (fun i hi=>hn i (by simp[hi])) (a:=b) rfl (by lia) ⟨w,hw',hx⟩
   exact⟨p,q,by simp[h1],by simp[h2],h3⟩
theorem Good.ex_below{S:Plan}(G:Good S){z:Pt}(c:Clr S z):∃ m∈(dr S).E,XP (S.pt m.1)<XP z∧XP z<XP (S.pt m.2)∧0<yh (S.pt m.1) (S.pt m.2) z:=by
 have A:=frame_of G.frame
 have F:=G.fine
 obtain⟨i,hi,pi⟩:=A.c00
 obtain⟨j,hj,pj⟩:=A.cw0
 have mi:i∈yK S (fun (p:Pt)=>p.y==0):=QA.2 ⟨hi,by rw[pi];rfl⟩
 have mj:j∈yK S (fun (p:Pt)=>p.y==0):=QA.2 ⟨hj,by rw[pj];rfl⟩
 have hh:=F.h
 have cx:=c.x0
 have cx1:=c.x1
 have cy:=c.y0
 have cy1:=c.y1
 have hn:∀ k∈yK S (fun (p:Pt)=>p.y==0),XP (S.pt k)≠XP z:=by
  intro k hk e
  have hk2:=QA.1 hk
  have:(S.pt k).y=0:=by simpa using hk2.2
  have:S.pt k=z:=XP_inj (by lia) (by lia) e
  rw[←this] at cy
  lia
 have hy:∀ k∈yK S (fun (p:Pt)=>p.y==0),(S.pt k).y=0:=by
  intro k hk
  simpa using (QA.1 hk).2
 have hxs:XP (S.pt i)<XP z:=by rw[pi];unfold XP;simp only;lia
 have hxl:XP z<XP (S.pt j):=by rw[pj];unfold XP;simp only;lia
 have so:=QY S (fun (p:Pt)=>p.y==0)
 have ch:=A.bot
 have hlt:∀ k∈yK S (fun (p:Pt)=>p.y==0),k<S.pts.length:=fun k hk=>(QA.1 hk).1
 generalize yK S (fun (p:Pt)=>p.y==0)=l at *
 obtain⟨a,ha⟩:∃ a,l.head?=some a:=by
  cases l with
  | nil=>simp at mi
  | cons a r=>exact⟨a,rfl⟩
 have hax:XP (S.pt a)<XP z:=by
  have hal:a∈l:=List.mem_of_mem_head? (by rw[ha];rfl)
  cases l with
  | nil=>simp at mi
  | cons b r=>
   simp at ha;subst ha
   rcases List.mem_cons.1 mi with e | h
   ·rw[←e];exact hxs
   ·have lt:=(List.pairwise_cons.1 so).1 i h
    have:=(F.lt_iff (hlt _ hal) hi).1 lt
    rw[pi] at this
    simp only at this
    have:=hy b (by simp)
    unfold XP
    lia
 obtain⟨p,q,hp,hq,h1,h2,h3⟩:=cover (fun k=>XP (S.pt k)) (XP z) ch hn ha hax ⟨j,mj,hxl⟩
 have yp:=hy p hp
 have yq:=hy q hq
 have hE:(p,q)∈(dr S).E:=by
  rcases F.ok.dart_cases (Q1 F h3) with ⟨_,h⟩ | ⟨h,_⟩
  ·exact h
  ·exfalso
   have h:XP (S.pt q)<XP (S.pt p):=h
   lia
 refine⟨(p,q),hE,h1,h2,?_⟩
 have h1:XP (S.pt p)<XP z:=h1
 have h2:XP z<XP (S.pt q):=h2
 unfold XP at h1 h2
 unfold yh yQ yR
 show 0<(((S.pt q).x:Int)-(S.pt p).x)*((z.y:Int)-(S.pt q).y)-(((S.pt q).y:Int)-(S.pt p).y)*((z.x:Int)-(S.pt q).x)
 rw[yp,yq]
 have:=jX (a:=((S.pt q).x:Int)-(S.pt p).x) (b:=(z.y:Int)) (by lia) (by lia)
 simp
 lia
theorem find_unique{α:Type}{l:List α}{p:α→Bool}{a:α}(ha:a∈l)(hp:p a=true)(hu:∀ x∈l,p x=true→x=a):l.find? p=some a:=by
 cases h:l.find? p with
 | none=>
  rw[y6] at h
  exact absurd hp (h a ha)
 | some x=>rw[hu x (List.mem_of_find?_eq_some h) (List.find?_some h)]
theorem Good.among_eq{S:Plan}(G:Good S){z:Pt}(hz:j3 S z=true){e:Dt}(u:Under S z e):S.among S.outlines z=some (G.vs (G.lead e)):=by
 have c:=clr_of hz
 have he:(dr S).isDart e:=Or.inl u.mem
 have h0:=G.under_inner c u
 unfold Plan.among
 rw[if_pos hz]
 apply find_unique
 ·exact G.mem_outlines.2 ⟨e,he,h0,rfl⟩
 ·have hl:=(G.lead_spec he).1
  exact (G.inside_iff c u (G.dart_orb he hl) (fun h=>h0 (G.orb_trans he hl h))).2 (G.orb_symm he hl)
 ·intro x hx hin
  obtain⟨d,hd,hd0,rfl⟩:=G.mem_outlines.1 hx
  have hl:=(G.lead_spec hd).1
  have hld:=G.dart_orb hd hl
  have:=(G.inside_iff c u hld (fun h=>hd0 (G.orb_trans hd hl h))).1 hin
  rw[G.lead_orb hld this,G.lead_orb hd hl]
theorem Good.among_same{S:Plan}(G:Good S){d e:Dt} (hd:(dr S).isDart d) (he:(dr S).isDart e):some (G.vs (G.lead d))=some (G.vs (G.lead e))↔d∈G.orb e:=by
 have ld:=(G.lead_spec hd).1
 have le:=(G.lead_spec he).1
 constructor
 ·intro h
  have:=congrArg head2 (Option.some.inj h)
  rw[G.head2_vs (G.dart_orb hd ld),G.head2_vs (G.dart_orb he le)] at this
  have h1:G.lead d∈G.orb e:=by rw[this];exact le
  exact G.orb_trans he h1 (G.orb_symm hd ld)
 ·intro h
  rw[G.lead_orb he h]
end Pl
namespace Pl
open Gla (Pt Plan)
def pyBetween(n a b:Int):Bool:=if a<b then decide (a≤n)&&decide (n≤b) else decide (b≤n)&&decide (n≤a)
theorem Y2(n a b:Nat):pyBetween n a b=xp a b n:=by
 unfold pyBetween xp
 by_cases h:(a:Int)<b
 ·rw[if_pos h,yw]
  simp only[yk,decide_eq_true_eq];lia
 ·rw[if_neg h,yw]
  simp only[yk,decide_eq_true_eq];lia
theorem pyOn_eq(p q r:Pt):jw p q r=if !pyBetween r.y p.y q.y || !pyBetween r.x p.x q.x then false else decide (yh p q r=0):=by
 rw[Y2,Y2]
 unfold jw
 cases xp p.y q.y r.y <;> cases xp p.x q.x r.x <;> simp
 rw[yw];simp
def pyParts(a b:Int):Bool:=if a=0 then false else if b=0 then false else decide (0<a) != decide (0<b)
theorem J8(a b:Int):pyParts a b=decide (a*b<0):=by
 unfold pyParts
 have s:=Y4 a b
 have s2:=Y4 b a
 rw[xn b a] at s2
 by_cases h1:a=0
 ·subst h1;simp
 ·rw[if_neg h1]
  by_cases h2:b=0
  ·subst h2;simp
  ·rw[if_neg h2,yw]
   generalize a*b=c at *
   by_cases x:0<a <;> by_cases y:0<b <;> simp[x,y] <;> lia
theorem pyCrosses_eq(p q r s:Pt):jb p q r s=(pyParts (yh p q r) (yh p q s)&&pyParts (yh r s p) (yh r s q)):=by
 rw[J8,J8];rfl
theorem on_between{S:Plan} (hs:∀(i j:Nat)(_:i<j)(hj:j<S.pts.length),(S.pts[i]).below S.pts[j]=true) {l:Nat×Nat} (h1:l.1<l.2) (h2:l.2<S.pts.length)
  {k:Nat} (hk:k<S.pts.length) (hon:jw (S.pt l.1) (S.pt l.2) (S.pt k)=true):l.1≤k∧k≤l.2:=by
 have lt:∀ i j,i<S.pts.length→j<S.pts.length→i<j→(S.pt i).y<(S.pt j).y∨((S.pt i).y=(S.pt j).y∧(S.pt i).x<(S.pt j).x):=by
  intro i j hi hj hij
  have:=hs i j hij hj
  rw[pt_eq hi,pt_eq hj]
  unfold Pt.below at this
  simpa using this
 have hpq:=lt l.1 l.2 (by lia) h2 h1
 unfold jw xp at hon
 simp only[yk,beq_iff_eq,decide_eq_true_eq] at hon
 obtain⟨t,⟨x1,x2⟩,y1,y2⟩:=hon
 unfold yh yQ yR at t
 have a1:k<l.1→(S.pt k).y<(S.pt l.1).y∨((S.pt k).y=(S.pt l.1).y∧(S.pt k).x<(S.pt l.1).x):=fun h=>lt k l.1 hk (by lia) h
 have a2:l.2<k→(S.pt l.2).y<(S.pt k).y∨((S.pt l.2).y=(S.pt k).y∧(S.pt l.2).x<(S.pt k).x):=fun h=>lt l.2 k h2 hk h
 generalize S.pt l.1=p at *
 generalize S.pt l.2=q at *
 generalize S.pt k=r at *
 constructor
 ·apply yf
  intro hc
  have a:=a1 (by lia)
  have ey:(r.y:Int)=p.y:=by lia
  rw[ey] at t
  have f:((q.y:Int)-p.y)*((r.x:Int)-p.x)=0:=by
   have:((q.y:Int)-p.y)*((r.x:Int)-p.x) = - (((q.x:Int)-p.x)*((p.y:Int)-q.y)-((q.y:Int)-p.y)*((r.x:Int)-q.x)):=by grind
   rw[this,t];rfl
  rcases Int.mul_eq_zero.1 f with h | h <;> lia
 ·apply yf
  intro hc
  have a:=a2 (by lia)
  have ey:(r.y:Int)=q.y:=by lia
  rw[ey] at t
  have f:((q.y:Int)-p.y)*((r.x:Int)-q.x)=0:=by
   have:((q.y:Int)-p.y)*((r.x:Int)-q.x) = - (((q.x:Int)-p.x)*((q.y:Int)-q.y)-((q.y:Int)-p.y)*((r.x:Int)-q.x)):=by grind
   rw[this,t];rfl
  rcases Int.mul_eq_zero.1 f with h | h <;> lia
def stepOf(S:Plan)(l:Nat×Nat):Nat×Nat:=if (S.pt l.1).x<(S.pt l.2).x then l else (l.2,l.1)
def stepBelow(S:Plan)(s:Nat×Nat)(z:Pt):Bool:=decide ((S.pt s.1).x≤z.x)&&(decide (z.x<(S.pt s.2).x)&&decide (0<yh (S.pt s.1) (S.pt s.2) z))
def stepHigher(S:Plan)(s o:Nat×Nat):Bool:=
 if s.1=o.1 then decide (0<yh (S.pt o.1) (S.pt o.2) (S.pt s.2))
 else if (S.pt s.1).x<(S.pt o.1).x then decide (yh (S.pt s.1) (S.pt s.2) (S.pt o.1)<0)
 else decide (0<yh (S.pt o.1) (S.pt o.2) (S.pt s.1))
def underStep(S:Plan)(z:Pt) (best:Option (Nat×Nat)) (l:Nat×Nat):Option (Nat×Nat):=
 if stepBelow S (stepOf S l) z&&(match best with | none=>true | some b=>stepHigher S (stepOf S l) b) then some (stepOf S l) else best
theorem Fine.step_iff{S:Plan}(F:Fine S){z:Pt}(hz:z.y≤1048575){l:Nat×Nat}(hl:l∈S.lines) :
  (stepBelow S (stepOf S l) z=true↔XP (S.pt (ori S l).1)<XP z∧XP z<XP (S.pt (ori S l).2)∧0<yh (S.pt (ori S l).1) (S.pt (ori S l).2) z)∧
  (stepBelow S (stepOf S l) z=true→stepOf S l=ori S l):=by
 have lt:=F.lines l hl
 have b1:=F.pt_box (i:=l.1) (by lia)
 have b2:=F.pt_box (i:=l.2) (by lia)
 have hh:=F.h
 have oc:=F.ori_cases hl
 have key:∀(p q:Pt),p.y≤1048575→q.y≤1048575→p.x≤q.x→((p.x≤z.x∧z.x<q.x∧0<yh p q z)↔(XP p<XP z∧XP z<XP q∧0<yh p q z)):=by
  intro p q hp hq hpq
  constructor
  ·rintro⟨h1,h2,h3⟩
   refine⟨?_,by unfold XP;lia,h3⟩
   by_cases e:p.x=z.x
   ·unfold yh yQ yR at h3
    have:((q.x:Int)-p.x)*((z.y:Int)-q.y)-((q.y:Int)-p.y)*((z.x:Int)-q.x)=((q.x:Int)-p.x)*((z.y:Int)-p.y):=by
     rw[←e];grind
    rw[this] at h3
    have s:=Y4 ((q.x:Int)-p.x) ((z.y:Int)-p.y)
    unfold XP
    generalize ((q.x:Int)-p.x)*((z.y:Int)-p.y)=u at *
    lia
   ·unfold XP;lia
  ·rintro⟨h1,h2,h3⟩
   unfold XP at h1 h2
   refine⟨by lia,?_,h3⟩
   apply yf
   intro hc
   have e:z.x=q.x:=by lia
   unfold yh yQ yR at h3
   have e2:((z.x:Int)-q.x)=0:=by lia
   rw[e2,xI] at h3
   have:=yL (a:=(q.x:Int)-p.x) (b:=(z.y:Int)-q.y) (by lia) (by lia)
   lia
 by_cases hx:(S.pt l.1).x<(S.pt l.2).x
 ·have e1:stepOf S l=l:=if_pos hx
  have e2:ori S l=l:=by
   rcases oc with ⟨_,b⟩ | ⟨a,_⟩
   ·exact b
   ·exfalso;unfold XP at a;lia
  rw[e1,e2]
  refine⟨?_,fun _=>rfl⟩
  unfold stepBelow
  simp only[yk,decide_eq_true_eq]
  exact key _ _ (by lia) (by lia) (by lia)
 ·have e1:stepOf S l=(l.2,l.1):=if_neg hx
  rw[e1]
  by_cases he:(S.pt l.1).x=(S.pt l.2).x
  ·have f:stepBelow S (l.2,l.1) z=false:=by
    unfold stepBelow
    rw[Bool.eq_false_iff]
    simp only[ne_eq,yk,decide_eq_true_eq]
    lia
   rw[f]
   refine⟨⟨fun h=>(by cases h),?_⟩,fun h=>(by cases h)⟩
   rintro⟨h1,h2,h3⟩
   exfalso
   rcases oc with ⟨a,b⟩ | ⟨a,b⟩
   ·rw[b] at h1 h2 h3
    unfold XP at h1 h2
    unfold yh yQ yR at h3
    have e3:((S.pt l.2).x:Int)-(S.pt l.1).x=0:=by lia
    have e4:(z.x:Int)-(S.pt l.2).x=0:=by lia
    rw[e3,e4,jA,xI] at h3
    lia
   ·rw[b] at h1 h2 h3
    unfold XP at h1 h2
    unfold yh yQ yR at h3
    simp only at h1 h2 h3
    have e3:((S.pt l.1).x:Int)-(S.pt l.2).x=0:=by lia
    have e4:(z.x:Int)-(S.pt l.1).x=0:=by lia
    rw[e3,e4,jA,xI] at h3
    lia
  ·have e2:ori S l=(l.2,l.1):=by
    rcases oc with ⟨a,_⟩ | ⟨_,b⟩
    ·exfalso;unfold XP at a;lia
    ·exact b
   rw[e2]
   refine⟨?_,fun _=>rfl⟩
   unfold stepBelow
   simp only[yk,decide_eq_true_eq]
   exact key _ _ (by lia) (by lia) (by lia)
theorem lin_from{A B p t u:Int}(h0:A+B*p=0)(ht:p<t)(hu:p<u):(0<A+B*t↔0<A+B*u):=by
 have e1:A+B*t=(t-p)*B:=by rw[GU];grind
 have e2:A+B*u=(u-p)*B:=by rw[GU];grind
 rw[e1,e2]
 have s1:=XC (c:=t-p) (x:=B) (by lia) rfl
 have s2:=XC (c:=u-p) (x:=B) (by lia) rfl
 rw[s1.1,s2.1]
theorem Fine.higher_iff{S:Plan}(F:Fine S){z:Pt}(hz:z.y≤1048575){s o:Dt} (hs:s∈(dr S).E) (ho:o∈(dr S).E) (hne:s≠o)
  (s1:XP (S.pt s.1)<XP z) (s2:XP z<XP (S.pt s.2)) (s3:0<yh (S.pt s.1) (S.pt s.2) z)
  (o1:XP (S.pt o.1)<XP z) (o2:XP z<XP (S.pt o.2)) (o3:0<yh (S.pt o.1) (S.pt o.2) z) (hsx:(S.pt s.1).x<(S.pt s.2).x) (_hox:(S.pt o.1).x<(S.pt o.2).x) :
  stepHigher S s o=true↔(dr S).h o (2*XP z)<(dr S).h s (2*XP z):=by
 have O:=F.ok
 have ls:=F.E_lt hs
 have lo:=F.E_lt ho
 have d:=(dr S).h_sub s o (2*XP z)
 have goal:((dr S).h o (2*XP z)<(dr S).h s (2*XP z)↔0<(dr S).h s 0-(dr S).h o 0+((dr S).s s-(dr S).s o)*(2*XP z)):=by lia
 rw[goal]
 have bl:=F.no_cross hs ho hne (by show max (XP (S.pt s.1)) (XP (S.pt o.1))<min (XP (S.pt s.2)) (XP (S.pt o.2));lia)
 have inner:((dr S).below o s→0<(dr S).h s 0-(dr S).h o 0+((dr S).s s-(dr S).s o)*(2*XP z))∧((dr S).below s o→¬ 0<(dr S).h s 0-(dr S).h o 0+((dr S).s s-(dr S).s o)*(2*XP z)):=by
  constructor
  ·intro b
   have:=Dr.below_lt b (t:=2*XP z) (by show 2*XP (S.pt o.1)<_;lia) (by show 2*XP (S.pt s.1)<_;lia) (by show _<2*XP (S.pt o.2);lia) (by show _<2*XP (S.pt s.2);lia)
   lia
  ·intro b
   have:=Dr.below_lt b (t:=2*XP z) (by show 2*XP (S.pt s.1)<_;lia) (by show 2*XP (S.pt o.1)<_;lia) (by show _<2*XP (S.pt s.2);lia) (by show _<2*XP (S.pt o.2);lia)
   lia
 unfold stepHigher
 by_cases q:s.1=o.1
 ·rw[if_pos q,decide_eq_true_eq]
  have k:=(F.delta1 (e:=s) ho s.2 (F.h_r hs)).2.2
  rw[←k]
  have z0:(dr S).h s 0-(dr S).h o 0+((dr S).s s-(dr S).s o)*(2*XP (S.pt s.1))=0:=by
   have d0:=(dr S).h_sub s o (2*XP (S.pt s.1))
   rw[←d0,Fine.h_l,q,Fine.h_l];lia
  exact lin_from z0 (by lia) (by lia)
 ·rw[if_neg q]
  have ends:∀(k:Nat),k<S.pts.length→(k=o.1∨k=s.1)→XP (S.pt s.1)≤XP (S.pt k)→XP (S.pt o.1)≤XP (S.pt k)→
    (0<(dr S).h s 0-(dr S).h o 0+((dr S).s s-(dr S).s o)*(2*XP (S.pt k))↔0<(dr S).h s 0-(dr S).h o 0+((dr S).s s-(dr S).s o)*(2*XP z))∧
    (dr S).h s 0-(dr S).h o 0+((dr S).s s-(dr S).s o)*(2*XP (S.pt k))≠0:=by
   intro k hk hor k1 k2
   have hm:max (XP (S.pt s.1)) (XP (S.pt o.1))=XP (S.pt k):=by rcases hor with rfl | rfl <;> lia
   have hm':max (XP (S.pt o.1)) (XP (S.pt s.1))=XP (S.pt k):=by rw[Int.max_comm];exact hm
   have dk:=(dr S).h_sub s o (2*XP (S.pt k))
   have nz:(dr S).h s 0-(dr S).h o 0+((dr S).s s-(dr S).s o)*(2*XP (S.pt k))≠0:=by
    rcases hor with e | e
    ·subst e
     intro h0
     have t:=(F.delta2 (f:=o) hs o.1 (Fine.h_l o)).2.1.1 h0
     have on:=ZZ t (F.E_left hs) k1 (by lia)
     rw[F.on_E hs lo.1 (fun e=>q e.symm) (by intro e;rw[e] at o1;lia)] at on
     cases on
    ·subst e
     intro h0
     have t:=(F.delta1 (e:=s) ho s.1 (Fine.h_l s)).2.1.1 h0
     have on:=ZZ t (F.E_left ho) k2 (by lia)
     rw[F.on_E ho ls.1 q (by intro e;rw[e] at s1;lia)] at on
     cases on
   refine⟨?_,nz⟩
   rcases bl with b | b
   ·have b1:=b.1
    have b1:(dr S).h s (2*max (XP (S.pt s.1)) (XP (S.pt o.1)))≤(dr S).h o (2*max (XP (S.pt s.1)) (XP (S.pt o.1))):=b1
    rw[hm] at b1
    have:=inner.2 b
    lia
   ·have b1:=b.1
    have b1:(dr S).h o (2*max (XP (S.pt o.1)) (XP (S.pt s.1)))≤(dr S).h s (2*max (XP (S.pt o.1)) (XP (S.pt s.1))):=b1
    rw[hm'] at b1
    have:=inner.1 b
    lia
  have bs:=F.pt_box ls.1
  have bo:=F.pt_box lo.1
  have hh:=F.h
  by_cases hx:(S.pt s.1).x<(S.pt o.1).x
  ·rw[if_pos hx,decide_eq_true_eq]
   have k:=(F.delta2 (f:=o) hs o.1 (Fine.h_l o)).2.2
   rw[←k]
   exact (ends o.1 lo.1 (Or.inl rfl) (by unfold XP;lia) (GV _)).1
  ·rw[if_neg hx,decide_eq_true_eq]
   by_cases hX:XP (S.pt o.1)≤XP (S.pt s.1)
   ·have k:=(F.delta1 (e:=s) ho s.1 (Fine.h_l s)).2.2
    rw[←k]
    exact (ends s.1 ls.1 (Or.inr rfl) (GV _) hX).1
   ·-- one abscissa,s below o
    have ex:(S.pt s.1).x=(S.pt o.1).x:=by unfold XP at hX;lia
    have ey:(S.pt s.1).y<(S.pt o.1).y:=by unfold XP at hX;lia
    have e:=ends o.1 lo.1 (Or.inl rfl) (by lia) (GV _)
    have k:=(F.delta2 (f:=o) hs o.1 (Fine.h_l o))
    have t1:0<yh (S.pt s.1) (S.pt s.2) (S.pt o.1):=by
     unfold yh yQ yR
     have:((S.pt s.2).x-(S.pt s.1).x:Int)*((S.pt o.1).y-(S.pt s.2).y)-((S.pt s.2).y-(S.pt s.1).y)*((S.pt o.1).x-(S.pt s.2).x)=((S.pt s.2).x-(S.pt s.1).x:Int)*((S.pt o.1).y-(S.pt s.1).y):=by
      rw[←ex];grind
     rw[this]
     exact jX (by lia) (by lia)
    have t2:¬ 0<yh (S.pt o.1) (S.pt o.2) (S.pt s.1):=by
     unfold yh yQ yR
     have:((S.pt o.2).x-(S.pt o.1).x:Int)*((S.pt s.1).y-(S.pt o.2).y)-((S.pt o.2).y-(S.pt o.1).y)*((S.pt s.1).x-(S.pt o.2).x) = - (((S.pt o.2).x-(S.pt o.1).x:Int)*((S.pt o.1).y-(S.pt s.1).y)):=by
      rw[ex];grind
     rw[this]
     have:=jX (a:=((S.pt o.2).x-(S.pt o.1).x:Int)) (b:=((S.pt o.1).y-(S.pt s.1).y:Int)) (by lia) (by lia)
     lia
    have n:=k.1.2 t1
    constructor
    ·intro h;exact absurd h t2
    ·intro h;have:=e.1.2 h;lia
end Pl
namespace Pl
open Gla (Pt Plan)
theorem stepBelow_x{S:Plan}{s:Dt}{z:Pt}(h:stepBelow S s z=true):(S.pt s.1).x<(S.pt s.2).x:=by
 unfold stepBelow at h
 simp only[yk,decide_eq_true_eq] at h
 lia
structure UInv(S:Plan)(z:Pt) (seen:List (Nat×Nat)) (best:Option (Nat×Nat)):Prop where
 none_:best=none→∀ l∈seen,stepBelow S (stepOf S l) z=false
 some_:∀ b,best=some b→b∈(dr S).E∧(S.pt b.1).x<(S.pt b.2).x∧XP (S.pt b.1)<XP z∧XP z<XP (S.pt b.2)∧0<yh (S.pt b.1) (S.pt b.2) z∧
  ∀ l∈seen,stepBelow S (stepOf S l) z=true→(dr S).h (ori S l) (2*XP z)≤(dr S).h b (2*XP z)
theorem Fine.under_step{S:Plan}(F:Fine S){z:Pt}(hz:z.y≤1048575) {seen:List (Nat×Nat)} {best:Option (Nat×Nat)} (I:UInv S z seen best) {l:Nat×Nat} (hl:l∈S.lines) :
  UInv S z (seen++[l]) (underStep S z best l):=by
 have st:=F.step_iff hz hl
 have hE:ori S l∈(dr S).E:=List.mem_map.2 ⟨l,hl,rfl⟩
 unfold underStep
 by_cases h:stepBelow S (stepOf S l) z=true
 ·have e:=st.2 h
  have hc:=st.1.1 h
  have hx:=stepBelow_x h
  rw[e] at hx
  cases best with
  | none=>
   simp only[h,Bool.and_self,if_true]
   refine⟨fun q=>(by cases q),?_⟩
   intro b hb
   simp only[Option.some.injEq] at hb
   subst hb
   rw[e]
   refine⟨hE,hx,hc.1,hc.2.1,hc.2.2,?_⟩
   intro m hm hb
   rcases List.mem_append.1 hm with hm | hm
   ·rw[I.none_ rfl m hm] at hb;cases hb
   ·simp only[yy] at hm;subst hm;lia
  | some o=>
   obtain⟨o1,o2,o3,o4,o5,o6⟩:=I.some_ o rfl
   simp only[h,jh]
   by_cases q:stepHigher S (stepOf S l) o=true
   ·rw[if_pos q]
    refine⟨fun q=>(by cases q),?_⟩
    intro b hb
    simp only[Option.some.injEq] at hb
    subst hb
    rw[e] at q ⊢
    refine⟨hE,hx,hc.1,hc.2.1,hc.2.2,?_⟩
    have hi:(dr S).h o (2*XP z)≤(dr S).h (ori S l) (2*XP z):=by
     by_cases ne:ori S l=o
     ·rw[ne];lia
     ·have:=(F.higher_iff hz hE o1 ne hc.1 hc.2.1 hc.2.2 o3 o4 o5 hx o2).1 q
      lia
    intro m hm hb
    rcases List.mem_append.1 hm with hm | hm
    ·have:=o6 m hm hb;lia
    ·simp only[yy] at hm;subst hm;lia
   ·rw[if_neg q]
    refine⟨fun q=>(by cases q),?_⟩
    intro b hb
    simp only[Option.some.injEq] at hb
    subst hb
    refine⟨o1,o2,o3,o4,o5,?_⟩
    intro m hm hb
    rcases List.mem_append.1 hm with hm | hm
    ·exact o6 m hm hb
    ·simp only[yy] at hm
     subst hm
     rw[e] at q
     by_cases ne:ori S m=o
     ·rw[ne];lia
     ·have:=F.higher_iff hz hE o1 ne hc.1 hc.2.1 hc.2.2 o3 o4 o5 hx o2
      have hn:¬ (dr S).h o (2*XP z)<(dr S).h (ori S m) (2*XP z):=fun w=>q (this.2 w)
      lia
 ·have h':stepBelow S (stepOf S l) z=false:=by simpa using h
  simp only[h',jp,jI,if_false]
  refine⟨?_,?_⟩
  ·intro hb m hm
   rcases List.mem_append.1 hm with hm | hm
   ·exact I.none_ hb m hm
   ·simp only[yy] at hm;subst hm;exact h'
  ·intro b hb
   obtain⟨o1,o2,o3,o4,o5,o6⟩:=I.some_ b hb
   refine⟨o1,o2,o3,o4,o5,?_⟩
   intro m hm hb2
   rcases List.mem_append.1 hm with hm | hm
   ·exact o6 m hm hb2
   ·simp only[yy] at hm;subst hm;rw[h'] at hb2;cases hb2
theorem Good.under_all{S:Plan}(G:Good S){z:Pt}(hz:j3 S z=true) {best:Option (Nat×Nat)} (I:UInv S z S.lines best):∃ e,best=some e∧Under S z e:=by
 have c:=clr_of hz
 have F:=G.fine
 have hy:z.y≤1048575:=by have:=c.y1;have:=F.h;lia
 cases best with
 | none=>
  exfalso
  obtain⟨m,hm,h1,h2,h3⟩:=G.ex_below c
  obtain⟨l,hl,rfl⟩:=List.mem_map.1 hm
  have:=I.none_ rfl l hl
  rw[(F.step_iff hy hl).1.2 ⟨h1,h2,h3⟩] at this
  cases this
 | some b=>
  obtain⟨o1,_,o3,o4,o5,o6⟩:=I.some_ b rfl
  refine⟨b,rfl,o1,o3,o4,o5,?_⟩
  intro m hm h1 h2 h3
  obtain⟨l,hl,rfl⟩:=List.mem_map.1 hm
  exact o6 l hl ((F.step_iff hy hl).1.2 ⟨h1,h2,h3⟩)
def pySide(n:Int):Int:=if 0<n then 1 else if n<0 then -1 else 0
def furtherLeft(S:Plan)(s:Dt)(one other:Nat):Bool:=
 if pySide (yh (S.pt s.1) (S.pt s.2) (S.pt one))≠pySide (yh (S.pt s.1) (S.pt s.2) (S.pt other))
 then decide (pySide (yh (S.pt s.1) (S.pt s.2) (S.pt other))<pySide (yh (S.pt s.1) (S.pt s.2) (S.pt one)))
 else decide (0<yh (S.pt s.2) (S.pt other) (S.pt one))
def afterStep(S:Plan)(s:Dt)(best:Option Nat)(n:Nat):Option Nat:=
 if n≠s.1∧(match best with | none=>true | some b=>furtherLeft S s n b)=true then some n else best
theorem Fine.further_iff{S:Plan}(F:Fine S){u v a b:Nat} (hu:(dr S).isDart (v,u)) (ha:(dr S).isDart (v,a)) (hb:(dr S).isDart (v,b)) (na:a≠u) (nb:b≠u) :
  furtherLeft S (u,v) a b=true↔sn ((dr S).ky v u) ((dr S).ky v a) ((dr S).ky v b):=by
 have ca:=F.cross_sign hu ha
 have cb:=F.cross_sign hu hb
 have cab:=F.cross_sign ha hb
 have ta:yh (S.pt u) (S.pt v) (S.pt a) = - ((yg S v u).1*(yg S v a).2-(yg S v u).2*(yg S v a).1):=by
  unfold yh yg yQ yR;grind
 have tb:yh (S.pt u) (S.pt v) (S.pt b) = - ((yg S v u).1*(yg S v b).2-(yg S v u).2*(yg S v b).1):=by
  unfold yh yg yQ yR;grind
 have tab:yh (S.pt v) (S.pt b) (S.pt a) = - ((yg S v a).1*(yg S v b).2-(yg S v a).2*(yg S v b).1):=by
  unfold yh yg yQ yR;grind
 have ea:=hf_spec ((dr S).ky v u) ((dr S).ky v a)
 have eb:=hf_spec ((dr S).ky v u) ((dr S).ky v b)
 have da:¬ (cr ((dr S).ky v u) ((dr S).ky v a)=0∧((dr S).ky v u).1=((dr S).ky v a).1):=by
  rintro⟨h1,h2⟩
  apply na
  apply F.ok.ky_inj ha hu
  unfold cr at h1
  rw[if_pos h2] at h1
  exact Prod.ext h2.symm (by lia)
 have db:¬ (cr ((dr S).ky v u) ((dr S).ky v b)=0∧((dr S).ky v u).1=((dr S).ky v b).1):=by
  rintro⟨h1,h2⟩
  apply nb
  apply F.ok.ky_inj hb hu
  unfold cr at h1
  rw[if_pos h2] at h1
  exact Prod.ext h2.symm (by lia)
 unfold furtherLeft sn
 simp only
 rw[ta,tb,tab]
 generalize (yg S v u).1*(yg S v a).2-(yg S v u).2*(yg S v a).1=x at *
 generalize (yg S v u).1*(yg S v b).2-(yg S v u).2*(yg S v b).1=y at *
 generalize (yg S v a).1*(yg S v b).2-(yg S v a).2*(yg S v b).1=w at *
 generalize cr ((dr S).ky v u) ((dr S).ky v a)=p at *
 generalize cr ((dr S).ky v u) ((dr S).ky v b)=q at *
 generalize cr ((dr S).ky v a) ((dr S).ky v b)=r at *
 generalize hf ((dr S).ky v u) ((dr S).ky v a)=f at *
 generalize hf ((dr S).ky v u) ((dr S).ky v b)=g at *
 have sa:pySide (-x)=if p<0 then 1 else if 0<p then -1 else 0:=by
  unfold pySide
  by_cases h1:p<0
  ·rw[if_pos h1,if_pos (by lia)]
  ·rw[if_neg h1,if_neg (by lia)]
   by_cases h2:0<p
   ·rw[if_pos h2,if_pos (by lia)]
   ·rw[if_neg h2,if_neg (by lia)]
 have sb:pySide (-y)=if q<0 then 1 else if 0<q then -1 else 0:=by
  unfold pySide
  by_cases h1:q<0
  ·rw[if_pos h1,if_pos (by lia)]
  ·rw[if_neg h1,if_neg (by lia)]
   by_cases h2:0<q
   ·rw[if_pos h2,if_pos (by lia)]
   ·rw[if_neg h2,if_neg (by lia)]
 rw[sa,sb]
 have fa:f=if p<0 then 0 else if 0<p then 2 else 1:=by
  rcases ea with ⟨h,e⟩ | ⟨h,e⟩ | ⟨h,h2,e⟩ | ⟨h,h2,e⟩
  ·rw[if_pos h];exact e
  ·rw[if_neg (by lia),if_pos h];exact e
  ·exact absurd ⟨h,h2⟩ da
  ·rw[if_neg (by lia),if_neg (by lia)];exact e
 have fb:g=if q<0 then 0 else if 0<q then 2 else 1:=by
  rcases eb with ⟨h,e⟩ | ⟨h,e⟩ | ⟨h,h2,e⟩ | ⟨h,h2,e⟩
  ·rw[if_pos h];exact e
  ·rw[if_neg (by lia),if_pos h];exact e
  ·exact absurd ⟨h,h2⟩ db
  ·rw[if_neg (by lia),if_neg (by lia)];exact e
 clear ea eb da db sa sb ta tb tab
 rw[fa,fb]
 have cab1:=cab.1
 have P:(p<0∧¬ 0<p)∨(¬ p<0∧0<p)∨(¬ p<0∧¬ 0<p):=by lia
 have Q:(q<0∧¬ 0<q)∨(¬ q<0∧0<q)∨(¬ q<0∧¬ 0<q):=by lia
 rcases P with ⟨p1,p2⟩ | ⟨p1,p2⟩ | ⟨p1,p2⟩ <;> rcases Q with ⟨q1,q2⟩ | ⟨q1,q2⟩ | ⟨q1,q2⟩ <;>
  simp only[p1,p2,q1,q2,if_true,if_false] <;> simp <;> lia
theorem qE{K:Dr}(O:K.Ok){u v a b:Nat}(ha:K.isNext u v a)(hb:K.isNext u v b):a=b:=by
 apply yf
 intro hne
 have h1:=ha.2 b hb.1
 have h2:=hb.2 a ha.1
 exact h2 (sn_tot h1 (fun e=>hne (O.ky_inj ha.1 hb.1 e)))
structure AInv(S:Plan)(u v:Nat)(seen:List Nat)(best:Option Nat):Prop where
 none_:best=none→∀ c∈seen,c=u
 some_:∀ b,best=some b→(dr S).isDart (v,b)∧b≠u∧∀ c∈seen,c≠u→¬ sn ((dr S).ky v u) ((dr S).ky v c) ((dr S).ky v b)
theorem Fine.after_step{S:Plan}(F:Fine S){u v:Nat} (hu:(dr S).isDart (v,u)) {seen:List Nat} {best:Option Nat} (hseen:∀ c∈seen,(dr S).isDart (v,c)) (I:AInv S u v seen best) {n:Nat} (hn:(dr S).isDart (v,n)) :
  AInv S u v (seen++[n]) (afterStep S (u,v) best n):=by
 unfold afterStep
 simp only
 by_cases q:n=u
 ·rw[if_neg (fun h=>h.1 q)]
  refine⟨?_,?_⟩
  ·intro hb c hc
   rcases List.mem_append.1 hc with hc | hc
   ·exact I.none_ hb c hc
   ·simp only[yy] at hc;rw[hc,q]
  ·intro b hb
   obtain⟨h1,h2,h3⟩:=I.some_ b hb
   refine⟨h1,h2,?_⟩
   intro c hc hcu
   rcases List.mem_append.1 hc with hc | hc
   ·exact h3 c hc hcu
   ·simp only[yy] at hc;exact absurd (hc.trans q) hcu
 ·cases best with
  | none=>
   rw[if_pos ⟨q,rfl⟩]
   refine⟨fun h=>(by cases h),?_⟩
   intro b hb
   simp only[Option.some.injEq] at hb
   subst hb
   refine⟨hn,q,?_⟩
   intro c hc hcu
   rcases List.mem_append.1 hc with hc | hc
   ·exact absurd (I.none_ rfl c hc) hcu
   ·simp only[yy] at hc;subst hc;exact zx
  | some o=>
   obtain⟨h1,h2,h3⟩:=I.some_ o rfl
   have fi:=F.further_iff hu hn h1 q h2
   by_cases w:furtherLeft S (u,v) n o=true
   ·rw[if_pos ⟨q,w⟩]
    refine⟨fun h=>(by cases h),?_⟩
    intro b hb
    simp only[Option.some.injEq] at hb
    subst hb
    refine⟨hn,q,?_⟩
    intro c hc hcu
    rcases List.mem_append.1 hc with hc | hc
    ·exact fun h=>h3 c hc hcu (sn_trans h (fi.1 w))
    ·simp only[yy] at hc;subst hc;exact zx
   ·rw[if_neg (fun h=>w h.2)]
    refine⟨fun h=>(by cases h),?_⟩
    intro b hb
    simp only[Option.some.injEq] at hb
    subst hb
    refine⟨h1,h2,?_⟩
    intro c hc hcu
    rcases List.mem_append.1 hc with hc | hc
    ·exact h3 c hc hcu
    ·simp only[yy] at hc;subst hc;exact fun h=>w (fi.2 h)
theorem Fine.near_nodup{S:Plan}(F:Fine S)(v:Nat):(S.near v).Nodup:=by
 unfold Plan.near
 have key:∀ (l:List (Nat×Nat)),l.Nodup→(∀ x∈l,x.1<x.2)→(l.filterMap fun (l:Nat×Nat)=>if l.1=v then some l.2 else if l.2=v then some l.1 else none).Nodup:=by
  intro l
  induction l with
  | nil=>intro _ _;simp
  | cons a l ih=>
   intro hn hl
   rw[jR] at hn
   have ih':=ih hn.2 (fun x hx=>hl x (by simp[hx]))
   have la:=hl a (by simp)
   rw[xV]
   by_cases q:a.1=v
   ·rw[if_pos q]
    simp only
    rw[jR]
    refine⟨?_,ih'⟩
    intro hm
    obtain⟨b,hb,e⟩:=List.mem_filterMap.1 hm
    have lb:=hl b (by simp[hb])
    by_cases q2:b.1=v
    ·rw[if_pos q2] at e
     simp only[Option.some.injEq] at e
     have:a=b:=Prod.ext (by lia) e.symm
     subst this;exact hn.1 hb
    ·rw[if_neg q2] at e
     by_cases q3:b.2=v
     ·rw[if_pos q3] at e
      simp only[Option.some.injEq] at e
      lia
     ·rw[if_neg q3] at e;cases e
   ·rw[if_neg q]
    by_cases q1:a.2=v
    ·rw[if_pos q1]
     simp only
     rw[jR]
     refine⟨?_,ih'⟩
     intro hm
     obtain⟨b,hb,e⟩:=List.mem_filterMap.1 hm
     have lb:=hl b (by simp[hb])
     by_cases q2:b.1=v
     ·rw[if_pos q2] at e
      simp only[Option.some.injEq] at e
      lia
     ·rw[if_neg q2] at e
      by_cases q3:b.2=v
      ·rw[if_pos q3] at e
       simp only[Option.some.injEq] at e
       have:a=b:=Prod.ext e.symm (by lia)
       subst this;exact hn.1 hb
      ·rw[if_neg q3] at e;cases e
    ·rw[if_neg q1];exact ih'
 exact key S.lines F.nodup (fun x hx=>(F.lines x hx).1)
theorem Fine.after_all{S:Plan}(F:Fine S){u v:Nat} (h:(dr S).isDart (u,v)) (hdeg:2≤(S.near v).length) {best:Option Nat} (I:AInv S u v (S.near v) best):best=some (S.next u v):=by
 have hu:(dr S).isDart (v,u):=h.rev
 cases best with
 | none=>
  exfalso
  have all:=I.none_ rfl
  have nd:=F.near_nodup v
  match hS:S.near v,hdeg,nd,all with
  | a::b::r,_,nd,all=>
   have h1:=all a (by simp)
   have h2:=all b (by simp)
   rw[jR] at nd
   apply nd.1
   rw[h1,h2];simp
  | [a],hdeg,_,_=>simp at hdeg
  | [],hdeg,_,_=>simp at hdeg
 | some b=>
  obtain⟨h1,h2,h3⟩:=I.some_ b rfl
  have nb:(dr S).isNext u v b:=by
   refine⟨h1,?_⟩
   intro c hc
   by_cases q:c=u
   ·rw[q];exact sn_self
   ·exact h3 c (F.near_iff.2 hc) q
  rw[qE F.ok nb (F.next_is h)]
end Pl
namespace Pl
open Gla (Pt Plan Mark)
theorem J4(S:Plan) (all:List (List Nat)):∀ (ms:List Mark) (k:Nat) (had:List (Option (List Nat))),
  (∀ i (h:i<ms.length),(∀ j (hj:j<i),¬ (S.among all (ms[j]'(by lia)).at_∈had∨∃ j',∃ _:j'<j,S.among all (ms[j']'(by lia)).at_=S.among all (ms[j]'(by lia)).at_))→
   (S.among all (ms[i]).at_∈had∨∃ j,∃ _:j<i,S.among all (ms[j]'(by lia)).at_=S.among all (ms[i]).at_)→Gy S all k had ms=some (k+i))∧
  ((∀ i (h:i<ms.length),¬ (S.among all (ms[i]).at_∈had∨∃ j,∃ _:j<i,S.among all (ms[j]'(by lia)).at_=S.among all (ms[i]).at_))→Gy S all k had ms=none)
 | [],k,had=>⟨fun i h=>by simp at h,fun _=>rfl⟩
 | m::r,k,had=>by
  have ih:=J4 S all r (k+1) (S.among all m.at_::had)
  have unf:Gy S all k had (m::r)=if had.contains (S.among all m.at_)=true then some k else Gy S all (k+1) (S.among all m.at_::had) r:=rfl
  have conv:∀ j (hj:j<r.length),(S.among all (r[j]).at_∈S.among all m.at_::had∨∃ j',∃ _:j'<j,S.among all (r[j']'(by lia)).at_=S.among all (r[j]).at_)↔
    (S.among all ((m::r)[j+1]'(by simp;lia)).at_∈had∨∃ j',∃ _:j'<j+1,S.among all ((m::r)[j']'(by simp;lia)).at_=S.among all ((m::r)[j+1]'(by simp;lia)).at_):=by
   intro j hj
   constructor
   ·rintro (h | ⟨j',hj',e⟩)
    ·rcases List.mem_cons.1 h with e | h
     ·exact Or.inr ⟨0,by lia,by simpa using e.symm⟩
     ·exact Or.inl (by simpa using h)
    ·exact Or.inr ⟨j'+1,by lia,by simpa using e⟩
   ·rintro (h | ⟨j',hj',e⟩)
    ·left;simp only[Ue] at h;simp[h]
    ·cases j' with
     | zero=>left;simp only[List.getElem_cons_zero,Ue] at e;simp[e]
     | succ j'=>right;exact⟨j',by lia,by simpa using e⟩
  constructor
  ·intro i hi hb hd
   rw[unf]
   cases i with
   | zero=>
    rcases hd with h | ⟨j,hj,_⟩
    ·rw[if_pos (List.contains_iff_mem.2 (by simpa using h))];rfl
    ·lia
   | succ i=>
    have h0:=hb 0 (by lia)
    rw[if_neg (fun h=>h0 (Or.inl (by simpa using List.contains_iff_mem.1 h)))]
    have hi':i<r.length:=by simp at hi;lia
    rw[ih.1 i hi' (fun j hj h=>hb (j+1) (by lia) ((conv j (by lia)).1 h)) ((conv i hi').2 hd)]
    congr 1;lia
  ·intro h
   rw[unf]
   have h0:=h 0 (by simp)
   rw[if_neg (fun q=>h0 (Or.inl (by simpa using List.contains_iff_mem.1 q)))]
   exact ih.2 (fun i hi q=>h (i+1) (by simp;lia) ((conv i hi).1 q))
theorem Good.twice_iff{S:Plan}(G:Good S){es:List Dt}(hl:es.length=S.marks.length)(hc:∀ m∈S.marks,j3 S m.at_=true)
  (hu:∀ i (h:i<S.marks.length),Under S (S.marks[i]).at_ (es[i]'(by lia))) :
  (∀ i (h:i<S.marks.length),(∀ j (hj:j<i),∀ k (hk:k<j),es[j]'(by lia)∉G.orb (es[k]'(by lia)))→(∃ j,∃(hj:j<i),es[i]'(by lia)∈G.orb (es[j]'(by lia)))→
   Gy S S.outlines 0 [] S.marks=some i)∧
  ((∀ i (h:i<S.marks.length),∀ k (hk:k<i),es[i]'(by lia)∉G.orb (es[k]'(by lia)))→Gy S S.outlines 0 [] S.marks=none):=by
 have t:=J4 S S.outlines S.marks 0 []
 have am:∀ i (h:i<S.marks.length),S.among S.outlines (S.marks[i]).at_=some (G.vs (G.lead (es[i]'(by lia)))):=
  fun i h=>G.among_eq (hc _ (yo h)) (hu i h)
 have conv:∀ i (h:i<S.marks.length) j (hj:j<i),S.among S.outlines (S.marks[j]'(by lia)).at_=S.among S.outlines (S.marks[i]).at_↔es[i]'(by lia)∈G.orb (es[j]'(by lia)):=by
  intro i h j hj
  rw[am i h,am j (by lia),eq_comm]
  exact G.among_same (Or.inl (hu i h).mem) (Or.inl (hu j (by lia)).mem)
 constructor
 ·intro i h hb hd
  have:=t.1 i h (fun j hj=>by
   rintro (q | ⟨k,hk,e⟩)
   ·simp at q
   ·exact hb j hj k hk ((conv j (by lia) k hk).1 e)) (by
   obtain⟨j,hj,e⟩:=hd
   exact Or.inr ⟨j,hj,(conv i h j hj).2 e⟩)
  rw[this];congr 1;lia
 ·intro h
  apply t.2
  intro i hi
  rintro (q | ⟨k,hk,e⟩)
  ·simp at q
  ·exact h i hi k hk ((conv i hi k hk).1 e)
def pstep(bar:Int)(a:List Nat×List Nat)(j:Nat):List Nat×List Nat:=if (j:Int)≠bar∧j∉a.2 then (a.1++[j],a.2++[j]) else a
structure SRel(n:Nat)(bar:Int)(ws fk todo:List Nat)(seen:Array Bool):Prop where
 size:seen.size=n
 ws:ws=todo.reverse
 nd:fk.Nodup
 lt:∀ j∈fk,j<n
 nb:∀ j∈fk,(j:Int)≠bar
 sub:∀ j∈todo,j<n
 iff_:∀ j,j<n→(seen.getD j true=true↔(j∈fk∨(j:Int)=bar))
theorem srel_step{n:Nat}{bar:Int}{ws fk todo:List Nat}{seen:Array Bool}(R:SRel n bar ws fk todo seen){j:Nat}(hj:j<n) :
  SRel n bar (pstep bar (ws,fk) j).1 (pstep bar (ws,fk) j).2 (Z7 (todo,seen) j).1 (Z7 (todo,seen) j).2∧
  (Z7 (todo,seen) j).1.length+(n-(pstep bar (ws,fk) j).2.length)=todo.length+(n-fk.length):=by
 unfold pstep Z7
 simp only
 have e:=R.iff_ j hj
 have len:=nodup_len (l:=fk) (m:=yj n) R.nd (fun x hx=>List.mem_range.2 (R.lt x hx))
 rw[yZ] at len
 by_cases q:seen.getD j true=true
 ·rw[if_pos q,if_neg (fun h=>by rcases e.1 q with h1 | h1 <;> simp_all)]
  exact⟨R,rfl⟩
 ·have hq:(j:Int)≠bar∧j∉fk:=⟨fun h=>q (e.2 (Or.inr h)),fun h=>q (e.2 (Or.inl h))⟩
  rw[if_neg q,if_pos hq]
  have nd2:(fk++[j]).Nodup:=by
   rw[Gi]
   refine⟨R.nd,by simp,?_⟩
   intro a ha b hb
   simp only[yy] at hb
   subst hb
   intro e;subst e;exact hq.2 ha
  have lt2:∀ i∈fk++[j],i<n:=by
   intro i hi
   rcases List.mem_append.1 hi with h | h
   ·exact R.lt i h
   ·simp only[yy] at h;lia
  have len2:=nodup_len (l:=fk++[j]) (m:=yj n) nd2 (fun x hx=>List.mem_range.2 (lt2 x hx))
  rw[yZ,yt,jG] at len2
  refine⟨⟨by simp[R.size],by simp[R.ws],nd2,lt2,?_,?_,?_⟩,by simp only[yx,yt,Uo];lia⟩
  ·intro i hi
   rcases List.mem_append.1 hi with h | h
   ·exact R.nb i h
   ·simp only[yy] at h;subst h;exact hq.1
  ·intro i hi
   rcases List.mem_cons.1 hi with h | h
   ·lia
   ·exact R.sub i h
  ·intro i hi
   rw[Zh]
   by_cases c:j=i
   ·subst c
    rw[if_pos ⟨rfl,by rw[R.size];exact hi⟩]
    simp
   ·rw[if_neg (fun h=>c h.1),R.iff_ i hi]
    have:¬ i=j:=fun h=>c h.symm
    simp[this]
theorem srel_fold{n:Nat}{bar:Int}:∀ (l:List Nat) {ws fk todo:List Nat} {seen:Array Bool},SRel n bar ws fk todo seen→(∀ j∈l,j<n)→
  SRel n bar (l.foldl (pstep bar) (ws,fk)).1 (l.foldl (pstep bar) (ws,fk)).2 (l.foldl Z7 (todo,seen)).1 (l.foldl Z7 (todo,seen)).2∧
  (l.foldl Z7 (todo,seen)).1.length+(n-(l.foldl (pstep bar) (ws,fk)).2.length)=todo.length+(n-fk.length)
 | [],_,_,_,_,R,_=>⟨R,rfl⟩
 | j::l,ws,fk,todo,seen,R,h=>by
  obtain⟨R1,e1⟩:=srel_step R (h j (by simp))
  have:=srel_fold l R1 (fun i hi=>h i (by simp[hi]))
  rw[xg,xg]
  exact⟨this.1,this.2.trans e1⟩
theorem srel_start{n:Nat}{bar:Int}{st:Nat}(hst:st<n) (hb:(st:Int)≠bar) :
  SRel n bar [st] [st] [st] ((if 0≤bar then (yC n).setIfInBounds bar.toNat true else yC n).setIfInBounds st true) where
 size:=by by_cases q:0≤bar <;> simp[q,yC]
 ws:=rfl
 nd:=by simp
 lt:=by intro j hj;simp only[yy] at hj;lia
 nb:=by intro j hj;simp only[yy] at hj;subst hj;exact hb
 sub:=by intro j hj;simp only[yy] at hj;lia
 iff_:=by
  intro j hj
  have none_:(yC n).getD j true=false:=by simp[yC,yA,hj]
  rw[Zh]
  by_cases c:st=j
  ·subst c
   rw[if_pos ⟨rfl,by by_cases q:0≤bar <;> simp[q,yC] <;> lia⟩]
   simp
  ·rw[if_neg (fun h=>c h.1)]
   have cn:¬ j=st:=fun h=>c h.symm
   by_cases q:0≤bar
   ·rw[if_pos q,Zh,none_]
    by_cases d:bar.toNat=j
    ·rw[if_pos ⟨d,by simp[yC];lia⟩]
     have:(j:Int)=bar:=by lia
     simp[this]
    ·rw[if_neg (fun h=>d h.1)]
     have:¬ (j:Int)=bar:=by lia
     simp[cn,this]
   ·rw[if_neg q,none_]
    have:¬ (j:Int)=bar:=by lia
    simp[cn,this]
theorem srel_end{n:Nat}{bar:Int}{ws fk:List Nat}{seen:Array Bool}(R:SRel n bar ws fk [] seen)(i:Nat)(hi:i<n) (hb:(i:Int)≠bar):seen.getD i false=true↔i∈fk:=by
 have:=R.iff_ i hi
 have e:seen.getD i false=seen.getD i true:=by
  rw[yA,yA,jF (by rw[R.size];exact hi)];rfl
 rw[e,this]
 simp[hb]
theorem srel_cuts{n v:Nat}(hv:v<n){ws fk:List Nat}{seen:Array Bool}(R:SRel n v ws fk [] seen):seen.contains false=true↔fk.length<n-1:=by
 have hsub:∀ x∈fk,x∈(yj n).erase v:=by
  intro x hx
  have h1:=R.lt x hx
  have h2:=R.nb x hx
  exact (xR (by lia)).2 (List.mem_range.2 h1)
 have len:=nodup_len R.nd hsub
 have el:((yj n).erase v).length=n-1:=by rw[jn (List.mem_range.2 hv),yZ]
 rw[el] at len
 constructor
 ·intro h
  rw[Gr] at h
  obtain⟨i,hi,e⟩:=Array.mem_iff_getElem.1 h
  have hi':i<n:=by rw[←R.size];exact hi
  have g:seen.getD i true=false:=by
   rw[yA,jF hi,e];rfl
  have nf:=R.iff_ i hi'
  have n1:i∉fk:=fun h=>by rw[nf.2 (Or.inl h)] at g;cases g
  have n2:i≠v:=fun h=>by rw[nf.2 (Or.inr (by lia))] at g;cases g
  have:=nodup_len (l:=i::fk) (m:=(yj n).erase v) (List.nodup_cons.2 ⟨n1,R.nd⟩) (fun x hx=>by
   rcases List.mem_cons.1 hx with h | h
   ·rw[h];exact (xR n2).2 (List.mem_range.2 hi')
   ·exact hsub x h)
  rw[el,yx] at this
  lia
 ·intro h
  apply yf
  intro hc
  have all:∀ x∈(yj n).erase v,x∈fk:=by
   intro x hx
   have hx1:=List.mem_range.1 (jd hx)
   have hxv:x≠v:=by intro e;subst e;exact (List.Nodup.not_mem_erase G7) hx
   apply yf
   intro hn
   apply hc
   rw[Gr]
   have g:¬ seen.getD x true=true:=fun q=>by
    rcases (R.iff_ x hx1).1 q with h | h
    ·exact hn h
    ·lia
   rw[yA,jF (by rw[R.size];exact hx1)] at g
   have g2:seen[x]'(by rw[R.size];exact hx1)=false:=by simpa using g
   rw[←g2];exact Array.getElem_mem _
  have:=nodup_len (l:=(yj n).erase v) (m:=fk) (List.nodup_range.erase v) all
  rw[el] at this
  lia
end Pl
set_option linter.all false
namespace Pl
open Gla
def seg(b:Bytes)(p n:Nat):Bytes:=(b.drop p).take n
theorem seg_len{b:Bytes}{p n:Nat}(h:p+n≤b.length):(seg b p n).length=n:=by
 unfold seg
 rw[yB,yG];lia
theorem Zr(b:Bytes)(p m n:Nat):seg b p m++seg b (p+m) n=seg b p (m+n):=by
 unfold seg
 rw[List.take_add,List.drop_drop]
theorem XD(b:Bytes)(p m n:Nat)(r:Bytes):seg b p m++(seg b (p+m) n++r)=seg b p (m+n)++r:=by
 rw[←xh,Zr]
theorem seg_all(b:Bytes){n:Nat}(h:n=b.length):seg b 0 n=b:=by
 unfold seg
 rw[xw,h,jZ]
theorem seg_nil(b:Bytes)(p:Nat):seg b p 0=[]:=by simp[seg]
theorem le_numLe:∀ l:Bytes,le l.length (numLe l)=l
 | []=>rfl
 | c::r=>by
  have h:=c.toNat_lt
  show UInt8.ofNat ((c.toNat+256*numLe r)%256)::le r.length ((c.toNat+256*numLe r)/256)=c::r
  rw[show (c.toNat+256*numLe r)%256=c.toNat by lia,show (c.toNat+256*numLe r)/256=numLe r by lia,le_numLe r,UInt8.ofNat_toNat]
theorem QV{b:Bytes}{p w:Nat}(h:p+w≤b.length):le w (num b p w)=seg b p w:=by
 have:=le_numLe (seg b p w)
 rw[seg_len h] at this
 exact this
theorem Q9(b:Bytes)(p k:Nat){f:Nat→Bytes}:∀ n,(∀ i,i<n→f i=seg b (p+k*i) k)→(yj n).flatMap f=seg b p (k*n)
 | 0,_=>by rw[Nat.mul_zero,seg_nil];rfl
 | n+1,h=>by
  rw[xf,List.flatMap_append,Q9 b p k n fun i hi=>h i (by lia)]
  simp only[List.flatMap_cons,List.flatMap_nil,xM]
  rw[h n (by lia),Zr,Nat.mul_succ]
theorem ZH{α β:Type}(f:Nat→α)(g:α→List β)(n:Nat):((yj n).map f).flatMap g=(yj n).flatMap fun i=>g (f i):=by
 rw[List.flatMap_map]
theorem write_plan{c:Bytes}(h1:c.take 4=MAGIC)(h2:num c 18 2=0)(h3:c.length=20+8*num c 12 2+4*num c 14 2+12*num c 16 2):writePlan (parts c)=c:=by
 unfold writePlan
 have e1:(parts c).pts.length=num c 12 2:=by unfold parts;simp
 have e2:(parts c).lines.length=num c 14 2:=by unfold parts;simp
 have e3:(parts c).marks.length=num c 16 2:=by unfold parts;simp
 have e0:MAGIC=seg c 0 4:=by rw[←h1];simp[seg]
 have z:le 2 0=seg c 18 2:=by rw[←h2,QV (by lia)]
 have p1:(parts c).pts.flatMap (fun (p:Pt)=>le 4 p.x++le 4 p.y)=seg c 20 (8*num c 12 2):=by
  show ((yj (num c 12 2)).map _).flatMap _=_
  rw[ZH]
  refine Q9 c 20 8 _ fun i hi=>?_
  show le 4 (num c (20+8*i) 4)++le 4 (num c (20+8*i+4) 4)=_
  rw[QV (by lia),QV (by lia),Zr]
 have p2:(parts c).lines.flatMap (fun (l:Nat×Nat)=>le 2 l.1++le 2 l.2)=seg c (20+8*num c 12 2) (4*num c 14 2):=by
  show ((yj (num c 14 2)).map _).flatMap _=_
  rw[ZH]
  refine Q9 c (20+8*num c 12 2) 4 _ fun i hi=>?_
  show le 2 (num c (20+8*num c 12 2+4*i) 2)++le 2 (num c (20+8*num c 12 2+4*i+2) 2)=_
  rw[QV (by lia),QV (by lia),Zr]
 have p3:(parts c).marks.flatMap (fun (m:Mark)=>le 4 m.at_.x++(le 4 m.at_.y++(le 2 m.glass++le 2 m.painting)))=seg c (20+8*num c 12 2+4*num c 14 2) (12*num c 16 2):=by
  show ((yj (num c 16 2)).map _).flatMap _=_
  rw[ZH]
  refine Q9 c (20+8*num c 12 2+4*num c 14 2) 12 _ fun i hi=>?_
  generalize hq:20+8*num c 12 2+4*num c 14 2+12*i=q
  have hq2:q+12≤c.length:=by lia
  show le 4 (num c (HEAD+8*num c 12 2+4*num c 14 2+12*i) 4)++(le 4 (num c (HEAD+8*num c 12 2+4*num c 14 2+12*i+4) 4)++(le 2 (num c (HEAD+8*num c 12 2+4*num c 14 2+12*i+8) 2)++le 2 (num c (HEAD+8*num c 12 2+4*num c 14 2+12*i+10) 2)))=_
  rw[show HEAD+8*num c 12 2+4*num c 14 2+12*i=q from hq,QV (by lia),QV (by lia),QV (by lia),QV (by lia),XD,XD,show q+10=q+(4+4+2) by lia,Zr]
 rw[e1,e2,e3,p1,p2,p3,z,e0]
 show seg c 0 4++(le 4 (num c 4 4)++(le 4 (num c 8 4)++(le 2 (num c 12 2)++(le 2 (num c 14 2)++(le 2 (num c 16 2)++(seg c 18 2++(seg c 20 (8*num c 12 2)++(seg c (20+8*num c 12 2) (4*num c 14 2)++seg c (20+8*num c 12 2+4*num c 14 2) (12*num c 16 2)))))))))=c
 rw[QV (by lia),QV (by lia),QV (b:=c) (p:=12) (by lia),QV (b:=c) (p:=14) (by lia),QV (b:=c) (p:=16) (by lia)]
 have s:∀(p m n:Nat)(r:Bytes)(q:Nat),q=p+m→seg c p m++(seg c q n++r)=seg c p (m+n)++r:=fun p m n r q hq=>by rw[hq,XD]
 rw[s 0 4 4 _ 4 rfl,s 0 8 4 _ 8 rfl,s 0 12 2 _ 12 rfl,s 0 14 2 _ 14 rfl,s 0 16 2 _ 16 rfl,s 0 18 2 _ 18 rfl,s 0 20 _ _ 20 rfl,s 0 _ _ _ _ (by lia)]
 have t:∀(p m n q:Nat),q=p+m→seg c p m++seg c q n=seg c p (m+n):=fun p m n q hq=>by rw[hq,Zr]
 rw[t 0 _ _ _ (by lia)]
 exact seg_all c (by lia)
theorem za{b:Bytes}{p:Nat}(h:p+64≤b.length):lightBytes (lightAt b p)=seg b p 64:=by
 unfold lightBytes lightAt BANDS
 rw[ZH]
 exact Q9 b p 2 32 fun i hi=>QV (by lia)
theorem coat_seg{ks:List Kind}{b:Bytes}{p:Nat}(h:p+69≤b.length)(hb:badCoat ks b p=none):coatBytes (coatsAt b p)=seg b (p+64) 5:=by
 unfold badCoat at hb
 simp only at hb
 split at hb
 ·cases hb
 ·rename_i q
  have q:1≤num b (p+64) 1∧num b (p+64) 1≤4:=by
   unfold within at q
   simpa using q
  rw[Gq,y6] at hb
  have e:(coatsAt b p).length=num b (p+64) 1:=by unfold coatsAt;simp
  unfold coatBytes
  rw[e,QV (by lia)]
  have c1:(coatsAt b p).flatMap (le 1)=seg b (p+65) (1*num b (p+64) 1):=by
   unfold coatsAt
   rw[ZH]
   refine Q9 b (p+65) 1 _ fun i hi=>?_
   rw[Ut]
   exact QV (by lia)
  have z:∀ i,num b (p+64) 1≤i→i<4→seg b (p+65+i) 1=[0]:=by
   intro i h1 h2
   have:=hb i (List.mem_range.2 h2)
   rw[if_neg (by lia)] at this
   have:num b (p+65+i) 1=0:=by simpa using this
   rw[←QV (by lia),this]
   rfl
  have c2:List.replicate (4-num b (p+64) 1) (0:UInt8)=seg b (p+65+num b (p+64) 1) (1*(4-num b (p+64) 1)):=by
   rw[←Q9 b (p+65+num b (p+64) 1) 1 (f:=fun _=>[0]) (4-num b (p+64) 1) (fun i hi=>by
    rw[Ut,Nat.add_assoc,z _ (by lia) (by lia)])]
   generalize 4-num b (p+64) 1=k
   induction k with
   | zero=>rfl
   | succ k ih=>rw[List.replicate_succ',ih,xf,List.flatMap_append];rfl
  rw[c1,c2,Ut,Ut,Zr,show p+65=p+64+1 by lia,Zr]
  congr 1
  lia
theorem write_shop{b:Bytes}{S:Plan}{ks:List Kind}(h1:b.take 4=WORKSHOP) (h2:b.length=(partsAt b).2.2.2.2) (h3:writePlan S=seg b 80 (num b 4 4)) (h4:∀ i,i<num b 68 4→badCoat ks b ((partsAt b).2.2.2.1+69*i)=none) :
  writeShop (shopParts b S)=b:=by
 have hl:b.length=80+num b 4 4+16*num b 56 4+8*num b 60 4+64*num b 64 4+69*num b 68 4:=h2
 have e0:WORKSHOP=seg b 0 4:=by rw[←h1];simp[seg]
 have e1:(writePlan S).length=num b 4 4:=by rw[h3,seg_len (by lia)]
 have l1:(shopParts b S).sheets.length=num b 56 4:=by unfold shopParts;simp
 have l2:(shopParts b S).kinds.length=num b 60 4:=by unfold shopParts;simp
 have l3:(shopParts b S).glass.length=num b 64 4:=by unfold shopParts;simp
 have l4:(shopParts b S).paint.length=num b 68 4:=by unfold shopParts;simp
 have n1:(shopParts b S).numbers.flatMap (le 4)=seg b 8 64:=by
  unfold Workshop.numbers
  rw[l1,l2,l3,l4]
  show [num b 8 4,num b 12 4,num b 16 4,num b 20 4,num b 24 4,num b 28 4,num b 32 4,num b 36 4,num b 40 4,num b 44 4,num b 48 4,num b 52 4,num b 56 4,num b 60 4,num b 64 4,num b 68 4].flatMap (le 4)=_
  have:=Q9 b 8 4 (f:=fun i=>le 4 (num b (8+4*i) 4)) 16 fun i hi=>QV (by lia)
  rw[←this]
  rfl
 have s1:(shopParts b S).sheets.flatMap (fun (s:Sheet)=>le 4 s.glass++(le 4 s.w++(le 4 s.h++le 4 s.turns)))=seg b (80+num b 4 4) (16*num b 56 4):=by
  show ((yj (num b 56 4)).map _).flatMap _=_
  rw[ZH]
  refine Q9 b _ 16 _ fun i hi=>?_
  generalize hq:80+num b 4 4+16*i=q
  have:q+16≤b.length:=by lia
  show le 4 (num b (FRONT+num b 4 4+16*i) 4)++(le 4 (num b (FRONT+num b 4 4+16*i+4) 4)++(le 4 (num b (FRONT+num b 4 4+16*i+8) 4)++le 4 (num b (FRONT+num b 4 4+16*i+12) 4)))=_
  rw[show FRONT+num b 4 4+16*i=q from hq,QV (by lia),QV (by lia),QV (by lia),QV (by lia),XD,XD,show q+12=q+(4+4+4) by lia,Zr]
 have s2:(shopParts b S).kinds.flatMap (fun (k:Kind)=>le 4 k.heat++le 4 k.hold)=seg b (80+num b 4 4+16*num b 56 4) (8*num b 60 4):=by
  show ((yj (num b 60 4)).map _).flatMap _=_
  rw[ZH]
  refine Q9 b _ 8 _ fun i hi=>?_
  show le 4 (num b (80+num b 4 4+16*num b 56 4+8*i) 4)++le 4 (num b (80+num b 4 4+16*num b 56 4+8*i+4) 4)=_
  rw[QV (by lia),QV (by lia),Zr]
 have s3:(shopParts b S).glass.flatMap lightBytes=seg b (80+num b 4 4+16*num b 56 4+8*num b 60 4) (64*num b 64 4):=by
  show ((yj (num b 64 4)).map _).flatMap _=_
  rw[ZH]
  have q:(partsAt b).2.2.1=80+num b 4 4+16*num b 56 4+8*num b 60 4:=rfl
  exact Q9 b _ 64 _ fun i hi=>za (by rw[q];lia)
 have s4:(shopParts b S).paint.flatMap (fun (p:Light×Coats)=>lightBytes p.1++coatBytes p.2)=seg b (80+num b 4 4+16*num b 56 4+8*num b 60 4+64*num b 64 4) (69*num b 68 4):=by
  show ((yj (num b 68 4)).map _).flatMap _=_
  rw[ZH]
  refine Q9 b _ 69 _ fun i hi=>?_
  have:=h4 i hi
  have q:(partsAt b).2.2.2.1=80+num b 4 4+16*num b 56 4+8*num b 60 4+64*num b 64 4:=rfl
  show lightBytes (lightAt b ((partsAt b).2.2.2.1+69*i))++coatBytes (coatsAt b ((partsAt b).2.2.2.1+69*i))=_
  rw[za (by lia),coat_seg (by lia) this,Zr,q]
 unfold writeShop
 rw[n1,s1,s2,s3,s4]
 show WORKSHOP++(le 4 (writePlan S).length++(seg b 8 64++(le 8 (num b 72 8)++(writePlan S++_))))=b
 rw[e1,h3,e0,QV (by lia),QV (by lia)]
 have s:∀(p m n:Nat)(r:Bytes)(q:Nat),q=p+m→seg b p m++(seg b q n++r)=seg b p (m+n)++r:=fun p m n r q hq=>by rw[hq,XD]
 rw[s 0 4 4 _ 4 rfl,s 0 8 64 _ 8 rfl,s 0 72 8 _ 72 rfl,s 0 80 _ _ 80 rfl,s 0 _ _ _ _ (by lia),s 0 _ _ _ _ (by lia),s 0 _ _ _ _ (by lia)]
 have t:∀(p m n q:Nat),q=p+m→seg b p m++seg b q n=seg b p (m+n):=fun p m n q hq=>by rw[hq,Zr]
 rw[t 0 _ _ _ (by lia)]
 exact seg_all b (by lia)
end Pl
set_option linter.all false
namespace Pl
open Gla
end Pl
set_option Elab.async false
set_option linter.all false
set_option maxRecDepth 100000
namespace L2
open PySem PySem.Spec PyProof.Rows
theorem for_rev{K:z8}{a:Addr}{xs:List V}{g:TG}{tb:TS}{D:Jx}{σ:St}{H:Hp}(Pv:Nat→St→Hp→Prop)(h0:Pv 0 σ H)(hl:∀ i σ H,i≤xs.length→Pv i σ H→SqL K H a xs)
  (hs:∀ i x σ H,i<xs.length→xs[xs.length-1-i]?=some x→Pv i σ H→g x σ H fun σ2 H2=>tb { D with nx:=Pv (i+1),ct:=Pv (i+1),bk:=D.nx } σ2 H2) (hd:∀ σ H,Pv xs.length σ H→D.nx σ H) :
  ∃ W:Nat→Nat→St→Hp→Prop,(∃ m,W 0 m σ H)∧∀ i m σ H,W i m σ H→
   ((Itv K a xs.length).stop i H∧D.nx σ H)∨((Itv K a xs.length).go i H∧∃ N:St→Hp→Prop,(∀ σ' H',N σ' H'→∃ m',m'<m∧W (i+1) m' σ' H')∧∀ x H',(Itv K a xs.length).yld i H x H'→g x σ H' fun σ2 H2=>tb { D with nx:=N,ct:=N,bk:=D.nx } σ2 H2):=by
 refine⟨fun i m σ H=>m=xs.length-i∧i≤xs.length∧Pv i σ H,⟨xs.length,by simp,yM _,h0⟩,?_⟩
 rintro i m σ H ⟨rfl,hi,p⟩
 have q:=hl i σ H hi p
 by_cases hlt:i<xs.length
 ·have hg:xs[xs.length-1-i]?=some (xs[xs.length-1-i]'(by lia)):=by rw[yd]
  refine .inr ⟨⟨hlt,xs,_,q,hg⟩,Pv (i+1),fun σ' H' p'=>⟨xs.length-(i+1),by lia,rfl,hlt,p'⟩,fun x H' y=>?_⟩
  obtain⟨e,y⟩:=y
  subst e
  exact hs i x σ _ hlt (y xs q) p
 ·have e:i=xs.length:=by lia
  subst e
  exact .inl ⟨yl _,hd σ H p⟩
end L2
namespace Gp
open PySem PySem.Spec PyProof.Rows L2
open PySem.W (Codec)
def top(i:Nat):Stmt:=PySem.Challenge.pw_glasspages_s05_with_cartoon.main.body.getD i (.Pass ⟨0,0,0,0⟩)
abbrev sNum:Stmt:=top 1
def bl(b:ye):List V:=b.map (fun c=>V.int (c.toNat:Int))
theorem QJ(b:ye):(bl b).length=b.length:=by simp[bl]
theorem cut_bl(b:ye)(p w:Nat):Z0 (bl b) (some (p:Int)) (some ((p:Int)+(w:Int)))=bl ((b.drop p).take w):=by
 unfold Z0
 rw[show (p:Int)+(w:Int)=((p+w:Nat):Int) by lia,HT.sIx_nat,HT.sIx_nat,QJ]
 unfold bl
 rw[←xO,←jW]
 congr 1
 by_cases h:p≤b.length
 ·rw[x9 h]
  rw[Gv,yG]
  lia
 ·rw[jz (as:=b) (i:=min p b.length) (by lia),jz (as:=b) (i:=p) (by lia)]
  simp
theorem numLe_drop(b:ye)(i:Nat)(h:i<b.length):Gz (b.drop i)=(b[i]).toNat+256*Gz (b.drop (i+1)):=by
 rw[GR h];rfl
structure Txt(K:z8)(mg:Str→Option Value):Prop where
 rev:mg "reversed" = none
 len:mg "len" = none
 range:mg "range" = none
 enum:mg "enumerate" = none
 lst:mg "list" = none
 any:mg "any" = none
 zip:mg "zip" = none
 str:mg "str" = none
 sum:mg "sum" = none
 ord:mg "ord" = none
 max:mg "max" = none
def YY(K:z8):Sp:=fun vs H Q _=>∃(a:Addr)(b:ye)(p w:Nat)(i j:Int),vs=[.ref a,.int i,.int j]∧i=(p:Int)∧j=(w:Int)∧SqL K H a (bl b)∧∀ H',Qp H H'→Q (.int ((z9 b p w:Nat):Int)) H'
section
variable {P:Program} {w:World} {K:z8} {mg:Str→Option Value} {base:Heap}
theorem scNum:Qm ["octets","place","size","number","octet"] ["octets","place","size"] (defScope sNum):=⟨rfl,rfl,rfl,by decide +kernel,rfl,by decide +kernel,by decide +kernel⟩
theorem ok_num{f:Addr}{fd:FuncData}(F:Fun K "number_at" "number_at" sNum f fd)(T:Txt K mg):QI P w K mg base CX0 1 f fd ["octets","place","size"] (YY K):=by
 refine F.ok scNum (fun vs H Q E h=>?_) (fun cdv A outer s H vs Q E hr h=>?_)
 ·obtain⟨a,b,p,w,i,j,rfl,_⟩:=h
  rfl
 ·obtain⟨a,b,p,w,i,j,rfl,rfl,rfl,hS,k⟩:=h
  refine⟨_,Qb (Qs (i:=3) scNum.nd rfl (Or.inl rfl) Qg)
   (Qb (QQ PassesOwn.never rfl (pi_reversed rfl T.rev (Qa (Zo ZQ (pv 0) (Zc (pv 1)) (Zc (QD QU (pv 1) (pv 2)))) Qc)) (Qv (i:=4) scNum.nd rfl (Or.inl rfl))
    (Qe (Qs (i:=3) scNum.nd rfl (Or.inl rfl) (QD QU (QD ZF (pv 3) Qg) (pv 4)))))
   (Qe (Qi (pv 3)))),?_⟩
  refine⟨_,rfl,_,rfl,_,rfl,_,rfl,_,rfl,_,_,rfl,rfl,_,rfl,a,_,rfl,hS,fun l hl=>?_⟩
  have e:=cut_bl b p w
  rw[e]
  have s1:Qp H (upd H l (.lst (bl ((b.drop p).take w)))):=fun c o h=>by
   rw[Qq (Qn h hl)];exact h
  generalize hc:(b.drop p).take w=c at *
  refine⟨l,_,rfl,SqL.of Qh,for_rev (K:=K) (a:=l) (xs:=bl c) (fun i σ H'=>∃ v4:Option V,σ=[some (.ref a),some (.int p),some (.int w),some (.int ((Gz (c.drop (c.length-i)):Nat):Int)),v4]∧Qp H H'∧H' l=some (.lst (bl c)))
   ⟨none,?_,s1,Qh⟩ (fun i σ H' _ ⟨_,_,_,h⟩=>SqL.of h) ?_ ?_⟩
  ·rw[Uf,List.drop_length];rfl
  ·rintro i x σ H' hi hx ⟨v4,rfl,s2,hl2⟩
   rw[QJ] at hi hx
   obtain⟨rfl⟩:x=V.int ((c[c.length-1-i]'(by lia)).toNat:Int):=by
    unfold bl at hx
    rw[yi,yd (by lia)] at hx
    exact (Option.some.inj hx).symm
   refine⟨_,rfl,_,_,rfl,rfl,.inr ⟨by decide,by decide⟩,_,rfl,_,_,rfl,rfl,?_⟩
   refine⟨some (V.int ((c[c.length-1-i]'(by lia)).toNat:Int)),?_,s2,hl2⟩
   have e2:=numLe_drop c (c.length-1-i) (by lia)
   rw[show c.length-1-i+1=c.length-i by lia] at e2
   rw[show c.length-(i+1)=c.length-1-i by lia,e2]
   show [some (V.ref a),some (V.int p),some (V.int w),some (V.int (((Gz (c.drop (c.length-i)):Nat):Int)*256+((c[c.length-1-i]'(by lia)).toNat:Int))),some (V.int ((c[c.length-1-i]'(by lia)).toNat:Int))]=_
   have e3:(((Gz (c.drop (c.length-i)):Nat):Int)*256+((c[c.length-1-i]'(by lia)).toNat:Int))=(((c[c.length-1-i]'(by lia)).toNat+256*Gz (c.drop (c.length-i)):Nat):Int):=by
    rw[jC,jT];lia
   rw[e3]
  ·rintro σ H' ⟨v4,rfl,s2,hl2⟩
   rw[QJ,Nat.sub_self,xw]
   refine⟨_,rfl,?_⟩
   have:=k H' s2
   unfold z9 at this
   rw[hc] at this
   exact this
end
end Gp
set_option Elab.async false
set_option linter.all false
set_option maxRecDepth 100000
namespace L2
open PySem PySem.Spec PyProof.Rows
theorem PE.imp{X:Cx}{e:Expr}{t t':TE}(h:PE X e t)(f:∀ σ H Q,t' σ H Q→t σ H Q):PE X e t':=fun pins s σ H Q I q=>h pins s σ H Q I (f σ H Q q)
def tP0(K:z8)(i:Nat):TE:=fun σ H Q=>∃ a x y,σ[i]?=some (some (.ref a))∧SqT K H a [.int x,.int y]∧Q (.int x) H
def tP1(K:z8)(i:Nat):TE:=fun σ H Q=>∃ a x y,σ[i]?=some (some (.ref a))∧SqT K H a [.int x,.int y]∧Q (.int y) H
theorem QR{X:Cx}(i:Nat){x:Str}{pos pos' pos2:Pos}{j2:Nat}(hN:X.N[i]?=some x:=by rfl) (hv:Vis X.env.scope x:=by first | exact Or.inl rfl | exact Or.inr (Or.inl rfl) | exact Or.inr (Or.inr rfl)) (hd:(x==("__debug__" : Str))=false:=by decide)
  (hcd:(x==("__classdict__" : Str))=false:=by decide):PE X (.Subscript (.Name x pos) (.Constant (.int 0) j2 pos2) pos') (tP0 X.K i):=
 (Qx QM (zH hN hv hd hcd) Qg (fun _ _=>rfl)).imp fun σ H Q ⟨a,p,q,h1,h2,h3⟩=>⟨_,h1,a,_,_,_,rfl,rfl,h2,Qj (j:=0) rfl,h3⟩
theorem Q0{X:Cx}(i:Nat){x:Str}{pos pos' pos2:Pos}{j2:Nat}(hN:X.N[i]?=some x:=by rfl) (hv:Vis X.env.scope x:=by first | exact Or.inl rfl | exact Or.inr (Or.inl rfl) | exact Or.inr (Or.inr rfl)) (hd:(x==("__debug__" : Str))=false:=by decide)
  (hcd:(x==("__classdict__" : Str))=false:=by decide):PE X (.Subscript (.Name x pos) (.Constant (.int 1) j2 pos2) pos') (tP1 X.K i):=
 (Qx QM (zH hN hv hd hcd) Qg (fun _ _=>rfl)).imp fun σ H Q ⟨a,p,q,h1,h2,h3⟩=>⟨_,h1,a,_,_,_,rfl,rfl,h2,Qj (j:=1) rfl,h3⟩
end L2
namespace Gp
open PySem PySem.Spec PyProof.Rows L2
open Gla (Pt Plan)
def ZU(K:z8)(H:Hp)(a:Addr)(p:Pt):Prop:=SqT K H a [.int (p.x:Int),.int (p.y:Int)]
def Sm(p:Pt):Prop:=p.x<4294967296∧p.y<4294967296
def YJ(K:z8):Sp:=fun vs H Q _=>∃(a b c:Addr)(p q r:Pt),vs=[.ref a,.ref b,.ref c]∧ZU K H a p∧ZU K H b q∧ZU K H c r∧Sm p∧Sm q∧Sm r∧Q (.int (yh p q r)) H
def spBet:Sp:=fun vs H Q _=>∃(n a b:Int),vs=[.int n,.int a,.int b]∧Q (.bl (Pl.pyBetween n a b)) H
def spOn(K:z8):Sp:=fun vs H Q _=>∃(a b c:Addr)(r p q:Pt),vs=[.ref a,.ref b,.ref c]∧ZU K H a r∧ZU K H b p∧ZU K H c q∧Sm p∧Sm q∧Sm r∧Q (.bl (jw p q r)) H
def zu(K:z8):Sp:=fun vs H Q _=>∃(a b c d:Addr)(p q r s:Pt),vs=[.ref a,.ref b,.ref c,.ref d]∧ZU K H a p∧ZU K H b q∧ZU K H c r∧ZU K H d s∧Sm p∧Sm q∧Sm r∧Sm s∧Q (.bl (Pl.pyParts (yh p q r) (yh p q s))) H
def zw(K:z8):Sp:=fun vs H Q _=>∃(a b c d:Addr)(p q r s:Pt),vs=[.ref a,.ref b,.ref c,.ref d]∧ZU K H a p∧ZU K H b q∧ZU K H c r∧ZU K H d s∧Sm p∧Sm q∧Sm r∧Sm s∧Q (.bl (jb p q r s)) H
def YZ(K:z8):Sp:=fun vs H Q _=>∃(a b:Addr)(p q:Pt),vs=[.ref a,.ref b]∧ZU K H a p∧ZU K H b q∧Q (.bl (q.below p)) H
abbrev sTurn:Stmt:=top 14
abbrev sBet:Stmt:=top 15
abbrev sOn:Stmt:=top 16
abbrev sParts:Stmt:=top 17
abbrev sCross:Stmt:=top 18
abbrev zC:Stmt:=top 19
theorem scTurn:Qm ["first","second","third","right"] ["first","second","third"] (defScope sTurn):=⟨rfl,rfl,rfl,by decide +kernel,rfl,by decide +kernel,by decide +kernel⟩
theorem scBet:Qm ["number","one","other"] ["number","one","other"] (defScope sBet):=⟨rfl,rfl,rfl,by decide +kernel,rfl,by decide +kernel,by decide +kernel⟩
theorem scOn:Qm ["point","start","end"] ["point","start","end"] (defScope sOn):=⟨rfl,rfl,rfl,by decide +kernel,rfl,by decide +kernel,by decide +kernel⟩
theorem zz:Qm ["start","end","one","other","one_turn","other_turn"] ["start","end","one","other"] (defScope sParts):=⟨rfl,rfl,rfl,by decide +kernel,rfl,by decide +kernel,by decide +kernel⟩
theorem scCross:Qm ["start","end","other_start","other_end"] ["start","end","other_start","other_end"] (defScope sCross):=⟨rfl,rfl,rfl,by decide +kernel,rfl,by decide +kernel,by decide +kernel⟩
theorem scBehind:Qm ["later","earlier"] ["later","earlier"] (defScope zC):=⟨rfl,rfl,rfl,by decide +kernel,rfl,by decide +kernel,by decide +kernel⟩
section
variable {P:Program} {w:World} {K:z8} {mg:Str→Option Value} {base:Heap}
theorem ok_turn{f:Addr}{fd:FuncData}(F:Fun K "turn" "turn" sTurn f fd):QI P w K mg base CX0 1 f fd ["first","second","third"] (YJ K):=by
 refine F.ok scTurn (fun vs H Q E h=>?_) (fun cdv A outer s H vs Q E hr h=>?_)
 ·obtain⟨a,b,c,p,q,r,rfl,_⟩:=h
  rfl
 ·obtain⟨a,b,c,p,q,r,rfl,ha,hb,hc,sp,sq,sr,k⟩:=h
  refine⟨_,Qb (Qs (i:=3) scTurn.nd rfl (Or.inl rfl) (QD ZF (QD Xu (QR 1) (QR 0)) (QD Xu (Q0 2) (Q0 1))))
   (Qe (Qi (QD Xu (pv 3) (QD ZF (QD Xu (Q0 1) (Q0 0)) (QD Xu (QR 2) (QR 1)))))),?_⟩
  unfold Sm at sp sq sr
  refine⟨b,_,_,rfl,hb,a,_,_,rfl,ha,_,_,rfl,rfl,c,_,_,rfl,hc,b,_,_,rfl,hb,_,_,rfl,rfl,_,_,rfl,rfl,.inl ⟨by lia,by lia⟩,?_⟩
  refine⟨_,rfl,b,_,_,rfl,hb,a,_,_,rfl,ha,_,_,rfl,rfl,c,_,_,rfl,hc,b,_,_,rfl,hb,_,_,rfl,rfl,_,_,rfl,rfl,.inl ⟨by lia,by lia⟩,_,_,rfl,rfl,?_⟩
  exact k
theorem ok_bet{f:Addr}{fd:FuncData}(F:Fun K "is_between" "is_between" sBet f fd):QI P w K mg base CX0 1 f fd ["number","one","other"] spBet:=by
 refine F.ok scBet (fun vs H Q E h=>?_) (fun cdv A outer s H vs Q E hr h=>?_)
 ·obtain⟨n,a,b,rfl,_⟩:=h
  rfl
 ·obtain⟨n,a,b,rfl,k⟩:=h
  refine⟨_,Qb (QH (Qu ZL (pv 1) (pv 2) (Qo _))
    (Qe (Qi (YO (QO q4 (pv 1) (pv 0) (Qo _)) (YN (QO q4 (pv 0) (pv 2) (Qo _)))))) Qr)
   (Qe (Qi (YO (QO q4 (pv 2) (pv 0) (Qo _)) (YN (QO q4 (pv 0) (pv 1) (Qo _)))))),?_⟩
  refine⟨_,rfl,_,rfl,_,_,rfl,rfl,_,rfl,?_⟩
  unfold Pl.pyBetween at k
  refine Qz (fun h=>?_) (fun h=>?_)
  ·have h:a<b:=of_decide_eq_true h
   rw[if_pos h] at k
   refine⟨_,rfl,_,rfl,_,_,rfl,rfl,_,rfl,Qz (fun h1=>?_) (fun h1=>?_)⟩
   ·refine⟨_,rfl,_,rfl,_,_,rfl,rfl,?_⟩
    rw[h1,jh] at k
    exact k
   ·have h1:decide (a≤n)=false:=by simpa using h1
    rw[h1,jp] at k
    exact k
  ·have h:¬ a<b:=fun z=>h (decide_eq_true z)
   rw[if_neg h] at k
   refine⟨_,rfl,_,rfl,_,_,rfl,rfl,_,rfl,Qz (fun h1=>?_) (fun h1=>?_)⟩
   ·refine⟨_,rfl,_,rfl,_,_,rfl,rfl,?_⟩
    rw[h1,jh] at k
    exact k
   ·have h1:decide (b≤n)=false:=by simpa using h1
    rw[h1,jp] at k
    exact k
structure Has(P:Program)(w:World)(K:z8)(mg:Str→Option Value)(base:Heap)(k:Nat)(x:Str)(ps:List Str)(sp:Sp):Prop where
 ex:∃(f:Addr)(fd:FuncData),mg x=some (.ref f)∧yY K (.ref f)=true∧Xg K fd ps []∧QI P w K mg base CX0 k f fd ps sp
theorem Qt{X:Cx}{k:Nat}{x:Str}{ps:List Str}{sp:Sp}{p pos:Pos}{e:Expr}{es:List Expr}{t:TA}(D:Has X.prog X.w X.K X.mg X.base k x ps sp)(hr:ZK k X.A) (ha:PA X (e::es) t) (hg:Gl X x:=by rfl)
  (hdb:(x==("__debug__" : Str))=false:=by decide) (he:starEach (e::es) X.env=(false,eval e X.env)::starEach es X.env:=by rfl) (hpl:(backTo pos (starEach es X.env)).any (·.1)=false:=by rfl) :
  PE X (.Call (.Name x p) (e::es) [] pos) (tCall sp [] E0 t):=by
 obtain⟨f,fd,hm,hk,hb,F⟩:=D.ex
 exact pe_call F hr hg hm hk hb .nil Zm ha hdb he hpl
theorem ok_behind{f:Addr}{fd:FuncData}(F:Fun K "comes_behind" "comes_behind" zC f fd):QI P w K mg base CX0 1 f fd ["later","earlier"] (YZ K):=by
 refine F.ok scBehind (fun vs H Q E h=>?_) (fun cdv A outer s H vs Q E hr h=>?_)
 ·obtain⟨a,b,p,q,rfl,_⟩:=h
  rfl
 ·obtain⟨a,b,p,q,rfl,ha,hb,k⟩:=h
  refine⟨_,Qb (QH (Qu Y3 (Q0 0) (Q0 1) (Qo _)) (Qe (Qi (QO Ze (Q0 0) (Q0 1) (Qo _)))) Qr)
   (Qe (Qi (QO Ze (QR 0) (QR 1) (Qo _)))),?_⟩
  refine⟨a,_,_,rfl,ha,b,_,_,rfl,hb,rfl,_,rfl,?_⟩
  unfold Pt.below at k
  refine Qz (fun h=>?_) (fun h=>?_)
  ·have h:¬ (p.y:Int)=q.y:=by simpa using h
   refine⟨a,_,_,rfl,ha,b,_,_,rfl,hb,_,_,rfl,rfl,?_⟩
   have e:(decide (q.y<p.y) || q.y==p.y&&decide (q.x<p.x))=decide ((q.y:Int)<p.y):=by
    rw[yw];simp;lia
   rw[e] at k
   exact k
  ·have h:(p.y:Int)=q.y:=by simpa using h
   refine⟨a,_,_,rfl,ha,b,_,_,rfl,hb,_,_,rfl,rfl,?_⟩
   have e:(decide (q.y<p.y) || q.y==p.y&&decide (q.x<p.x))=decide ((q.x:Int)<p.x):=by
    rw[yw];simp;lia
   rw[e] at k
   exact k
theorem ok_on{f:Addr}{fd:FuncData}(F:Fun K "is_on" "is_on" sOn f fd)(B:Has P w K mg base 1 "is_between" ["number","one","other"] spBet) (T:Has P w K mg base 1 "turn" ["first","second","third"] (YJ K)) :
  QI P w K mg base CX0 2 f fd ["point","start","end"] (spOn K):=by
 refine F.ok scOn (fun vs H Q E h=>?_) (fun cdv A outer s H vs Q E hr h=>?_)
 ·obtain⟨a,b,c,p,q,r,rfl,_⟩:=h
  rfl
 ·obtain⟨a,b,c,r,p,q,rfl,ha,hb,hc,sp,sq,sr,k⟩:=h
  refine⟨_,Qb (QH (Yb (YM (Zf (Qt B hr (Qa (Q0 0) (Qa (Q0 1) (Qa (Q0 2) Qc))))))
    (Z9 (YM (Zf (Qt B hr (Qa (QR 0) (Qa (QR 1) (Qa (QR 2) Qc)))))))).pt
    (Qe (Qi Xl)) Qr)
   (Qe (Qi (QO YA (Qt T hr (Qa (pv 1) (Qa (pv 2) (Qa (pv 0) Qc)))) Qg (Qo _)))),?_⟩
  rw[Pl.pyOn_eq] at k
  refine⟨a,_,_,rfl,ha,b,_,_,rfl,hb,c,_,_,rfl,hc,_,_,_,rfl,_,rfl,Qz (fun h1=>qh ?_) (fun h1=>?_)⟩
  ·rw[h1,Bool.true_or,if_pos rfl] at k
   exact k
  ·have h1:(!Pl.pyBetween r.y p.y q.y)=false:=by simpa using h1
   rw[h1,Ux] at k
   refine⟨a,_,_,rfl,ha,b,_,_,rfl,hb,c,_,_,rfl,hc,_,_,_,rfl,_,rfl,Qz (fun h2=>?_) (fun h2=>?_)⟩
   ·rw[if_pos h2] at k
    exact k
   ·rw[if_neg h2] at k
    refine⟨_,rfl,_,rfl,_,rfl,b,c,a,p,q,r,rfl,hb,hc,ha,sp,sq,sr,rfl,?_⟩
    have e:decide (V.int (yh p q r)=V.int 0)=decide (yh p q r=0):=by
     rw[JU,Bool.beq_eq_decide_eq]
    rw[e]
    exact k
theorem ok_parts{f:Addr}{fd:FuncData}(F:Fun K "parts" "parts" sParts f fd) (T:Has P w K mg base 1 "turn" ["first","second","third"] (YJ K)) :
  QI P w K mg base CX0 2 f fd ["start","end","one","other"] (zu K):=by
 refine F.ok zz (fun vs H Q E h=>?_) (fun cdv A outer s H vs Q E hr h=>?_)
 ·obtain⟨a,b,c,d,p,q,r,s,rfl,_⟩:=h
  rfl
 ·obtain⟨a,b,c,d,p,q,r,z,rfl,ha,hb,hc,hd,sp,sq,sr,sz,k⟩:=h
  refine⟨_,Qb (Qs (i:=4) zz.nd rfl (Or.inl rfl) (Qt T hr (Qa (pv 0) (Qa (pv 1) (Qa (pv 2) Qc)))))
   (Qb (QH (Qu YA (pv 4) Qg (Qo _)) (Qe (Qi Xl)) Qr)
   (Qb (Qs (i:=5) zz.nd rfl (Or.inl rfl) (Qt T hr (Qa (pv 0) (Qa (pv 1) (Qa (pv 3) Qc)))))
   (Qe (Qi (YO (QO Y3 (pv 5) Qg (Qo _)) (YN (QO Y3 (QO Ze (pv 4) Qg (Qo _)) (QO Ze (pv 5) Qg (Qo _)) (Qo _)))))))),?_⟩
  unfold Pl.pyParts at k
  refine⟨_,rfl,_,rfl,_,rfl,a,b,c,p,q,r,rfl,ha,hb,hc,sp,sq,sr,?_⟩
  refine⟨_,rfl,rfl,_,rfl,Qz (fun h1=>?_) (fun h1=>?_)⟩
  ·have h1:yh p q r=0:=by simpa using h1
   rw[if_pos h1] at k
   exact k
  ·have h1:¬ yh p q r=0:=by simpa using h1
   rw[if_neg h1] at k
   refine⟨_,rfl,_,rfl,_,rfl,a,b,d,p,q,z,rfl,ha,hb,hd,sp,sq,sz,?_⟩
   refine⟨_,rfl,rfl,_,rfl,Qz (fun h2=>?_) (fun h2=>?_)⟩
   ·have h2:¬ yh p q z=0:=by simpa using h2
    rw[if_neg h2] at k
    refine⟨_,rfl,_,_,rfl,rfl,_,rfl,_,_,rfl,rfl,rfl,?_⟩
    have e:(!decide (V.bl (decide (0<yh p q r))=V.bl (decide (0<yh p q z))))=(decide (0<yh p q r) != decide (0<yh p q z)):=by
     cases decide (0<yh p q r) <;> cases decide (0<yh p q z) <;> rfl
    rw[←e] at k
    exact k
   ·have h2:yh p q z=0:=by simpa using h2
    rw[if_pos h2] at k
    exact k
theorem ok_cross{f:Addr}{fd:FuncData}(F:Fun K "crosses" "crosses" sCross f fd) (T:Has P w K mg base 2 "parts" ["start","end","one","other"] (zu K)) :
  QI P w K mg base CX0 3 f fd ["start","end","other_start","other_end"] (zw K):=by
 refine F.ok scCross (fun vs H Q E h=>?_) (fun cdv A outer s H vs Q E hr h=>?_)
 ·obtain⟨a,b,c,d,p,q,r,s,rfl,_⟩:=h
  rfl
 ·obtain⟨a,b,c,d,p,q,r,z,rfl,ha,hb,hc,hd,sp,sq,sr,sz,k⟩:=h
  refine⟨_,Qe (Qi (YO (Qt T hr (Qa (pv 0) (Qa (pv 1) (Qa (pv 2) (Qa (pv 3) Qc))))) (YN (Qt T hr (Qa (pv 2) (Qa (pv 3) (Qa (pv 0) (Qa (pv 1) Qc)))))))),?_⟩
  rw[Pl.pyCrosses_eq] at k
  refine⟨_,rfl,_,rfl,_,rfl,_,rfl,a,b,c,d,p,q,r,z,rfl,ha,hb,hc,hd,sp,sq,sr,sz,_,rfl,Qz (fun h1=>?_) (fun h1=>?_)⟩
  ·rw[h1,jh] at k
   exact⟨_,rfl,_,rfl,_,rfl,_,rfl,c,d,a,b,r,z,p,q,rfl,hc,hd,ha,hb,sr,sz,sp,sq,k⟩
  ·have h1:Pl.pyParts (yh p q r) (yh p q z)=false:=by simpa using h1
   rw[h1,jp] at k
   exact k
end
end Gp
set_option Elab.async false
set_option linter.all false
set_option maxRecDepth 100000
namespace Gp
open PySem PySem.Spec PyProof.Rows L2
open Gla (Pt Plan)
theorem Qp.tup{K:z8}{H H':Hp}{a:Addr}{xs:List V}(e:Qp H H')(h:SqT K H a xs):SqT K H' a xs:=by
 rcases h with (h | ⟨o,h⟩) | h
 ·exact .inl (.inl (e _ _ h))
 ·exact .inl (.inr ⟨o,e _ _ h⟩)
 ·exact .inr h
theorem Ql{H:Hp}{l:Addr}(o:HO)(h:H l=none):Qp H (upd H l o):=fun b u e=>by rw[Qq (Qn e h)];exact e
def But(l:Addr)(H H':Hp):Prop:=∀ b o,H b=some o→b≠l→H' b=some o
theorem But.same{H0 H H':Hp}{l:Addr}(k:But l H H')(hl:H0 l=none)(s:Qp H0 H):Qp H0 H':=fun b o e=>k b o (s b o e) (Qn e hl)
def GI(mg:Str→Option Value)(x:Str)(n:Int):Prop:=∃ t,mg x=some (Value.int n t)
theorem QS{X:Cx}{x:Str}{n:Int}{pos:Pos}(h:GI X.mg x n)(hg:Gl X x:=by rfl) (hd:(x==("__debug__" : Str))=false:=by decide):PE X (.Name x pos) (tC (.int n)):=by
 obtain⟨t,h⟩:=h
 exact Q7 hg h ⟨t,rfl⟩ hd
structure JF(K:z8)(H:Hp)(l:Addr)(as:List Addr) (ps:List (Nat×Nat)):Prop where
 lst:SqL K H l (as.map V.ref)
 len:as.length=ps.length
 at_:∀(i:Nat)(a:Addr)(p:Nat×Nat),as[i]?=some a→ps[i]?=some p→H a=some (.tup [.int (p.1:Int),.int (p.2:Int)])
theorem JF.same{K:z8}{H H':Hp}{l:Addr}{as:List Addr} {ps:List (Nat×Nat)} (h:JF K H l as ps) (e:Qp H H'):JF K H' l as ps:=
 ⟨e.seq h.lst,h.len,fun i a p h1 h2=>e _ _ (h.at_ i a p h1 h2)⟩
def ZS(b:ye)(p st n wd:Nat):List (Nat×Nat):=(yj n).map (fun i=>(z9 b (p+st*i) wd,z9 b (p+st*i+wd) wd))
theorem zI(b:ye)(p st n wd:Nat):ZS b p st (n+1) wd=ZS b p st n wd++[(z9 b (p+st*n) wd,z9 b (p+st*n+wd) wd)]:=by
 simp[ZS,xf]
theorem Xa(b:ye)(p st n wd:Nat):(ZS b p st n wd).length=n:=by simp[ZS]
abbrev sPairs:Stmt:=top 10
def zv(K:z8):Sp:=fun vs H Q _=>∃(a:Addr)(b:ye)(p st n wd:Nat)(i0 i1 i2 i3:Int),vs=[.ref a,.int i0,.int i1,.int i2,.int i3]∧i0=(p:Int)∧i1=(st:Int)∧i2=(n:Int)∧i3=(wd:Int)∧SqL K H a (bl b)∧n≤65536∧st≤1000∧
 ∀ H' l as,Qp H H'→JF K H' l as (ZS b p st n wd)→Q (.ref l) H'
theorem JP:Qm ["octets","place","step","count","size","pairs","number","start"] ["octets","place","step","count","size"] (defScope sPairs):=⟨rfl,rfl,rfl,by decide +kernel,rfl,by decide +kernel,by decide +kernel⟩
theorem Y9{α:Type}{l:List α}{x y:α}{i:Nat} (h:(l++[x])[i]?=some y):(i<l.length∧l[i]?=some y)∨(i=l.length∧y=x):=by
 rcases jP i l.length with q | q | q
 ·left;rw[j8 q] at h;exact⟨q,h⟩
 ·right
  subst q
  rw[GM (yl _),Nat.sub_self] at h
  exact⟨rfl,(Option.some.inj h).symm⟩
 ·rw[jH (by simp;lia)] at h;cases h
section
variable {P:Program} {w:World} {K:z8} {mg:Str→Option Value} {base:Heap}
theorem ok_pairs{f:Addr}{fd:FuncData}(F:Fun K "pairs_at" "pairs_at" sPairs f fd)(T:Txt K mg) (N:Has P w K mg base 1 "number_at" ["octets","place","size"] (YY K)) :
  QI P w K mg base CX0 2 f fd ["octets","place","step","count","size"] (zv K):=by
 refine F.ok JP (fun vs H Q E h=>?_) (fun cdv A outer s H vs Q E hr h=>?_)
 ·obtain⟨a,b,p,st,n,wd,i0,i1,i2,i3,rfl,_⟩:=h
  rfl
 ·obtain⟨a,b,p,st,n,wd,i0,i1,i2,i3,rfl,rfl,rfl,rfl,rfl,hS,hn,hst,k⟩:=h
  refine⟨_,Qb (Qs (i:=5) JP.nd rfl (Or.inl rfl) (ZD Qc))
   (Qb (QQ PassesOwn.never rfl (Yq rfl T.range (Qa (pv 3) Qc)) (Qv (i:=6) JP.nd rfl (Or.inl rfl))
    (Qb (Qs (i:=7) JP.nd rfl (Or.inl rfl) (QD QU (pv 1) (QD ZF (pv 2) (pv 6))))
    (Qe (Yn (qZ jg js jt Z4 (pv 5)
     (Qa (Q4 (Qa (Qt N hr (Qa (pv 0) (Qa (pv 7) (Qa (pv 4) Qc)))) (Qa (Qt N hr (Qa (pv 0) (Qa (QD QU (pv 7) (pv 4)) (Qa (pv 4) Qc)))) Qc))) Qc))))))
   (Qe (Qi (pv 5)))),?_⟩
  refine⟨yM _,fun l hl=>?_⟩
  have s0:=Ql (.lst []) hl
  refine⟨_,rfl,_,rfl,by lia,by lia,Yt (lo:=0) (n:=((n:Nat):Int).toNat) (fun i σ H'=>∃(v6 v7:Option V)(as:List Addr),σ=[some (.ref a),some (.int p),some (.int st),some (.int n),some (.int wd),some (.ref l),v6,v7]∧
    Qp H H'∧i≤n∧H' l=some (.lst (as.map V.ref))∧as.length=i∧∀(j:Nat)(c:Addr)(q:Nat×Nat),as[j]?=some c→(ZS b p st i wd)[j]?=some q→H' c=some (.tup [.int (q.1:Int),.int (q.2:Int)]))
   ⟨none,none,[],rfl,s0,yM _,Qh,rfl,fun j c q h=>by simp at h⟩ ?_ ?_⟩
  ·rintro i σ H1 hi ⟨v6,v7,as,rfl,s1,hin,hl1,hlen,hat⟩
   rw[xP] at hi
   refine⟨_,rfl,_,rfl,_,rfl,_,_,rfl,rfl,.inl ⟨by lia,by lia⟩,_,_,rfl,rfl,?_⟩
   have ep:(p:Int)+(st:Int)*(0+(i:Int))=((p+st*i:Nat):Int):=by rw[jC,jT,Int.zero_add]
   refine⟨_,rfl,.inl ⟨rfl,_,SqL.of hl1⟩,_,rfl,_,rfl,_,rfl,a,b,p+st*i,wd,_,_,rfl,ep,rfl,s1.seq hS,fun H2 s2=>?_⟩
   refine⟨_,rfl,_,rfl,_,rfl,_,_,rfl,rfl,_,rfl,a,b,p+st*i+wd,wd,_,_,rfl,(by show (p:Int)+(st:Int)*(0+(i:Int))+(wd:Int)=_;rw[ep,jC (p+st*i)]),rfl,s2.seq (s1.seq hS),fun H3 s3=>?_⟩
   refine⟨(by show 2≤sizeLine;decide),fun t ht=>?_⟩
   have s23:=s2.trans s3
   have nlt:l≠t:=Qn (s23 _ _ hl1) ht
   have s4:=Ql (.tup [.int ((z9 b (p+st*i) wd:Nat):Int),.int ((z9 b (p+st*i+wd) wd:Nat):Int)]) ht
   refine⟨l,_,_,rfl,rfl,(by rw[Qq nlt];exact s23 _ _ hl1),(by rw[yc,hlen];exact yF (yE hin hn) (by decide)),?_⟩
   have kp:But l H1 (upd (upd H3 t (.tup [.int ((z9 b (p+st*i) wd:Nat):Int),.int ((z9 b (p+st*i+wd) wd:Nat):Int)])) l (.lst (as.map V.ref++[V.ref t]))):=fun c o e hne=>by
    rw[Qq hne,Qq (Qn (s23 _ _ e) ht)];exact s23 _ _ e
   refine⟨_,_,as++[t],rfl,kp.same hl s1,hi,?_,by simp[hlen],?_⟩
   ·rw[Qh,jS];rfl
   ·intro j c q hj hq
    rw[zI] at hq
    rcases Y9 hj with ⟨h1,h2⟩ | ⟨h1,h2⟩
    ·rw[j8 (by rw[Xa];lia)] at hq
     exact kp _ _ (hat j c q h2 hq) (q5 (hat j c q h2 hq) hl1 (by intro z;cases z))
    ·subst h2
     rcases Y9 hq with ⟨h3,_⟩ | ⟨_,h4⟩
     ·rw[Xa] at h3;lia
     ·subst h4
      rw[Qq (fun e=>nlt e.symm),Qh]
  ·rintro σ H1 ⟨v6,v7,as,rfl,s1,hin,hl1,hlen,hat⟩
   rw[xP] at hlen hat
   refine⟨_,rfl,?_⟩
   exact k H1 l as s1 ⟨SqL.of hl1,by rw[hlen,Xa],hat⟩
end
end Gp
set_option Elab.async false
set_option linter.all false
set_option maxRecDepth 100000
namespace Gp
open PySem PySem.Spec PyProof.Rows L2
open Gla (Pt Plan)
def df(w h:Nat)(lp ll lm:Addr):List (Str×V):=Xs "marks" (.ref lm) (Xs "lines" (.ref ll) (Xs "points" (.ref lp) (Xs "height" (.int (h:Int)) (Xs "width" (.int (w:Int)) []))))
theorem df_w(w h:Nat)(lp ll lm:Addr):(df w h lp ll lm).lookup ("width" : Str)=some (.int (w:Int)):=by
 unfold df
 rw[Qy,if_neg (by decide +kernel),Qy,if_neg (by decide +kernel),Qy,if_neg (by decide +kernel),Qy,if_neg (by decide +kernel),Qy,if_pos rfl]
theorem df_h(w h:Nat)(lp ll lm:Addr):(df w h lp ll lm).lookup ("height" : Str)=some (.int (h:Int)):=by
 unfold df
 rw[Qy,if_neg (by decide +kernel),Qy,if_neg (by decide +kernel),Qy,if_neg (by decide +kernel),Qy,if_pos rfl]
theorem Xc(w h:Nat)(lp ll lm:Addr):(df w h lp ll lm).lookup ("points" : Str)=some (.ref lp):=by
 unfold df
 rw[Qy,if_neg (by decide +kernel),Qy,if_neg (by decide +kernel),Qy,if_pos rfl]
theorem qo(w h:Nat)(lp ll lm:Addr):(df w h lp ll lm).lookup ("lines" : Str)=some (.ref ll):=by
 unfold df
 rw[Qy,if_neg (by decide +kernel),Qy,if_pos rfl]
theorem df_m(w h:Nat)(lp ll lm:Addr):(df w h lp ll lm).lookup ("marks" : Str)=some (.ref lm):=by
 unfold df
 rw[Qy,if_pos rfl]
theorem ZY(w h:Nat)(lp ll lm:Addr){m:Str}(h1:¬ m = "marks")(h2:¬ m = "lines")(h3:¬ m = "points")(h4:¬ m = "height")(h5:¬ m = "width"):(df w h lp ll lm).lookup m=none:=by
 unfold df
 rw[Qy,if_neg h1,Qy,if_neg h2,Qy,if_neg h3,Qy,if_neg h4,Qy,if_neg h5]
 all_goals rfl
def xy(p:Pt):Nat×Nat:=(p.x,p.y)
structure Dw(K:z8)(C:Addr)(H:Hp)(d:Addr)(S:Plan)(dx lp ll lm:Addr)(ap al am:List Addr):Prop where
 ins:H d=some (.ins C dx (df S.w S.h lp ll lm))
 pts:JF K H lp ap (S.pts.map xy)
 lin:JF K H ll al S.lines
 mrk:JF K H lm am (S.marks.map fun m=>xy m.at_)
theorem Dw.same{K:z8}{C:Addr}{H H':Hp}{d:Addr}{S:Plan}{dx lp ll lm:Addr}{ap al am:List Addr}(D:Dw K C H d S dx lp ll lm ap al am)(e:Qp H H'):Dw K C H' d S dx lp ll lm ap al am:=
 ⟨e _ _ D.ins,D.pts.same e,D.lin.same e,D.mrk.same e⟩
structure ZP(K:z8)(mg:Str→Option Value)(C:Addr):Prop where
 cl:Cls K C
 nW:Zi K C "width"
 nH:Zi K C "height"
 nP:Zi K C "points"
 nL:Zi K C "lines"
 nM:Zi K C "marks"
 mgC:mg "Drawing" = some (.ref C)
 g20:GI mg "HEAD_BYTES_drawing" 20
 g8:GI mg "POINT_BYTES" 8
 g4:GI mg "LINE_BYTES" 4
 g12:GI mg "MARK_BYTES" 12
abbrev sInit:Stmt:=inClass (top 9) 0
abbrev sPP:Stmt:=inClass (top 9) 1
abbrev sLP:Stmt:=inClass (top 9) 2
abbrev sMP:Stmt:=inClass (top 9) 3
abbrev sBC:Stmt:=inClass (top 9) 4
abbrev sNb:Stmt:=inClass (top 9) 5
def spInit(C:Addr):Sp:=fun vs H Q _=>∃(p dx:Addr)(i j:Int)(w h:Nat)(lp ll lm:Addr),vs=[.ref p,.int i,.int j,.ref lp,.ref ll,.ref lm]∧i=(w:Int)∧j=(h:Int)∧H p=some (.ins C dx [])∧
 ∀ H':Hp,H' p=some (.ins C dx (df w h lp ll lm))→But p H H'→Q .non H'
def spPP:Sp:=fun vs H Q _=>∃(d:V)(i:Int)(n:Nat),vs=[d,.int i]∧i=(n:Int)∧Q (.int ((20+8*n:Nat):Int)) H
def spLP(K:z8)(C:Addr):Sp:=fun vs H Q _=>∃(d:Addr)(i:Int)(n:Nat)(S:Plan)(dx lp ll lm:Addr)(ap al am:List Addr),vs=[.ref d,.int i]∧i=(n:Int)∧Dw K C H d S dx lp ll lm ap al am∧Q (.int ((jK S n:Nat):Int)) H
def spMP(K:z8)(C:Addr):Sp:=fun vs H Q _=>∃(d:Addr)(i:Int)(n:Nat)(S:Plan)(dx lp ll lm:Addr)(ap al am:List Addr),vs=[.ref d,.int i]∧i=(n:Int)∧Dw K C H d S dx lp ll lm ap al am∧Q (.int ((xt S n:Nat):Int)) H
def spBC(K:z8)(C:Addr):Sp:=fun vs H Q _=>∃(d:Addr)(S:Plan)(dx lp ll lm:Addr)(ap al am:List Addr),vs=[.ref d]∧Dw K C H d S dx lp ll lm ap al am∧Q (.int ((S.size:Nat):Int)) H
theorem scInit:Qm ["self","width","height","points","lines","marks"] ["self","width","height","points","lines","marks"] (defScope sInit):=⟨rfl,rfl,rfl,by decide +kernel,rfl,by decide +kernel,by decide +kernel⟩
theorem scPP:Qm ["self","number"] ["self","number"] (defScope sPP):=⟨rfl,rfl,rfl,by decide +kernel,rfl,by decide +kernel,by decide +kernel⟩
theorem scLP:Qm ["self","number"] ["self","number"] (defScope sLP):=⟨rfl,rfl,rfl,by decide +kernel,rfl,by decide +kernel,by decide +kernel⟩
theorem scMP:Qm ["self","number"] ["self","number"] (defScope sMP):=⟨rfl,rfl,rfl,by decide +kernel,rfl,by decide +kernel,by decide +kernel⟩
theorem scBC:Qm ["self"] ["self"] (defScope sBC):=⟨rfl,rfl,rfl,by decide +kernel,rfl,by decide +kernel,by decide +kernel⟩
structure Xh(P:Program)(w:World)(K:z8)(mg:Str→Option Value)(base:Heap)(C:Addr)(k:Nat)(m:Str)(ps:List Str)(sp:Sp):Prop where
 ex:∃(f:Addr)(fd:FuncData),Meth K C m f∧Xg K fd ps []∧QI P w K mg base CX0 k f fd ps sp
section
variable {P:Program} {w:World} {K:z8} {mg:Str→Option Value} {base:Heap} {C:Addr}
theorem ok_init{f:Addr}{fd:FuncData}(F:Fun K "__init__" "Drawing.__init__" sInit f fd)(T:ZP K mg C):QI P w K mg base CX0 1 f fd ["self","width","height","points","lines","marks"] (spInit C):=by
 refine F.ok scInit (fun vs H Q E h=>?_) (fun cdv A outer s H vs Q E hr h=>?_)
 ·obtain⟨p,dx,i,j,w,h,lp,ll,lm,rfl,_⟩:=h
  rfl
 ·obtain⟨p,dx,i,j,w,h,lp,ll,lm,rfl,rfl,rfl,hp,k⟩:=h
  refine⟨_,Qb (qa (pv 0) (pv 1) rfl) (Qb (qa (pv 0) (pv 2) rfl) (Qb (qa (pv 0) (pv 3) rfl) (Qb (qa (pv 0) (pv 4) rfl) (Qe (qa (pv 0) (pv 5) rfl))))),?_⟩
  refine⟨_,rfl,_,rfl,p,C,dx,_,rfl,hp,T.cl,T.nW,(by show 0<1000;decide),?_⟩
  refine⟨_,rfl,_,rfl,p,C,dx,_,rfl,Qh,T.cl,T.nH,(by show 1<1000;decide),?_⟩
  refine⟨_,rfl,_,rfl,p,C,dx,_,rfl,Qh,T.cl,T.nP,(by show 2<1000;decide),?_⟩
  refine⟨_,rfl,_,rfl,p,C,dx,_,rfl,Qh,T.cl,T.nL,(by show 3<1000;decide),?_⟩
  refine⟨_,rfl,_,rfl,p,C,dx,_,rfl,Qh,T.cl,T.nM,(by show 4<1000;decide),?_⟩
  refine k _ Qh fun b o e hb=>?_
  rw[Qq hb,Qq hb,Qq hb,Qq hb,Qq hb];exact e
theorem ok_pp{f:Addr}{fd:FuncData}(F:Fun K "point_place" "Drawing.point_place" sPP f fd)(T:ZP K mg C):QI P w K mg base CX0 1 f fd ["self","number"] spPP:=by
 refine F.ok scPP (fun vs H Q E h=>?_) (fun cdv A outer s H vs Q E hr h=>?_)
 ·obtain⟨d,i,n,rfl,_⟩:=h
  rfl
 ·obtain⟨d,i,n,rfl,rfl,k⟩:=h
  refine⟨_,Qe (Qi (QD QU (QS T.g20) (QD ZF (QS T.g8) (pv 1)))),?_⟩
  refine⟨_,rfl,_,_,rfl,rfl,.inl ⟨by decide,by decide⟩,_,_,rfl,rfl,?_⟩
  rw[jC,jT] at k
  exact k
theorem ok_lp{f:Addr}{fd:FuncData}(F:Fun K "line_place" "Drawing.line_place" sLP f fd)(T:ZP K mg C)(U:Txt K mg)(M:Xh P w K mg base C 1 "point_place" ["self","number"] spPP):QI P w K mg base CX0 2 f fd ["self","number"] (spLP K C):=by
 obtain⟨fm,fdm,hm,bm,G⟩:=M.ex
 refine F.ok scLP (fun vs H Q E h=>?_) (fun cdv A outer s H vs Q E hr h=>?_)
 ·obtain⟨d,i,n,S,dx,lp,ll,lm,ap,al,am,rfl,_⟩:=h
  rfl
 ·obtain⟨d,i,n,S,dx,lp,ll,lm,ap,al,am,rfl,rfl,D,k⟩:=h
  refine⟨_,Qe (Qi (QD QU (Zd (pv 0) T.cl hm G hr bm .nil Zm (Qa (QL Qw (by rfl) U.len PySem.boot_len (Qa (QB (pv 0) rfl) Qc)) Qc)) (QD ZF (QS T.g4) (pv 1)))),?_⟩
  refine⟨_,rfl,d,dx,_,rfl,D.ins,ZY _ _ _ _ _ (by decide +kernel) (by decide +kernel) (by decide +kernel) (by decide +kernel) (by decide +kernel),_,rfl,d,C,dx,_,_,rfl,D.ins,T.cl,T.nP,Xc _ _ _ _ _,lp,_,rfl,.inl D.pts.lst,
   _,_,S.pts.length,rfl,(by rw[yc,D.pts.len,yc]),_,rfl,_,_,rfl,rfl,.inl ⟨by decide,by decide⟩,_,_,rfl,rfl,?_⟩
  have e:((jK S n:Nat):Int)=((20+8*S.pts.length:Nat):Int)+4*(n:Int):=by
   unfold jK UC
   lia
  rw[e] at k
  exact k
theorem ok_mp{f:Addr}{fd:FuncData}(F:Fun K "mark_place" "Drawing.mark_place" sMP f fd)(T:ZP K mg C)(U:Txt K mg) (M:Xh P w K mg base C 2 "line_place" ["self","number"] (spLP K C)):QI P w K mg base CX0 3 f fd ["self","number"] (spMP K C):=by
 obtain⟨fm,fdm,hm,bm,G⟩:=M.ex
 refine F.ok scMP (fun vs H Q E h=>?_) (fun cdv A outer s H vs Q E hr h=>?_)
 ·obtain⟨d,i,n,S,dx,lp,ll,lm,ap,al,am,rfl,_⟩:=h
  rfl
 ·obtain⟨d,i,n,S,dx,lp,ll,lm,ap,al,am,rfl,rfl,D,k⟩:=h
  refine⟨_,Qe (Qi (QD QU (Zd (pv 0) T.cl hm G hr bm .nil Zm (Qa (QL Qw (by rfl) U.len PySem.boot_len (Qa (QB (pv 0) rfl) Qc)) Qc)) (QD ZF (QS T.g12) (pv 1)))),?_⟩
  refine⟨_,rfl,d,dx,_,rfl,D.ins,ZY _ _ _ _ _ (by decide +kernel) (by decide +kernel) (by decide +kernel) (by decide +kernel) (by decide +kernel),_,rfl,d,C,dx,_,_,rfl,D.ins,T.cl,T.nL,qo _ _ _ _ _,ll,_,rfl,.inl D.lin.lst,
   d,_,S.lines.length,S,dx,lp,ll,lm,ap,al,am,rfl,(by rw[yc,D.lin.len]),D,_,rfl,_,_,rfl,rfl,.inl ⟨by decide,by decide⟩,_,_,rfl,rfl,?_⟩
  have e:((xt S n:Nat):Int)=((jK S S.lines.length:Nat):Int)+12*(n:Int):=by
   unfold xt jK UC
   lia
  rw[e] at k
  exact k
theorem ok_bc{f:Addr}{fd:FuncData}(F:Fun K "byte_count" "Drawing.byte_count" sBC f fd)(T:ZP K mg C)(U:Txt K mg) (M:Xh P w K mg base C 3 "mark_place" ["self","number"] (spMP K C)):QI P w K mg base CX0 4 f fd ["self"] (spBC K C):=by
 obtain⟨fm,fdm,hm,bm,G⟩:=M.ex
 refine F.ok scBC (fun vs H Q E h=>?_) (fun cdv A outer s H vs Q E hr h=>?_)
 ·obtain⟨d,S,dx,lp,ll,lm,ap,al,am,rfl,_⟩:=h
  rfl
 ·obtain⟨d,S,dx,lp,ll,lm,ap,al,am,rfl,D,k⟩:=h
  refine⟨_,Qe (Qi (Zd (pv 0) T.cl hm G hr bm .nil Zm (Qa (QL Qw (by rfl) U.len PySem.boot_len (Qa (QB (pv 0) rfl) Qc)) Qc))),?_⟩
  exact⟨_,rfl,d,dx,_,rfl,D.ins,ZY _ _ _ _ _ (by decide +kernel) (by decide +kernel) (by decide +kernel) (by decide +kernel) (by decide +kernel),_,rfl,d,C,dx,_,_,rfl,D.ins,T.cl,T.nM,df_m _ _ _ _ _,lm,_,rfl,.inl D.mrk.lst,
   d,_,S.marks.length,S,dx,lp,ll,lm,ap,al,am,rfl,(by rw[yc,D.mrk.len,yc]),D,k⟩
end
end Gp
set_option Elab.async false
set_option linter.all false
set_option maxRecDepth 100000
namespace Gp
open PySem PySem.Spec PyProof.Rows L2
open Gla (Pt Plan)
def ni(l:List Nat):List V:=l.map (fun (n:Nat)=>V.int (n:Int))
def Zw (ls:List (Nat×Nat)) (v:Nat):List Nat:=ls.filterMap fun (l:Nat×Nat)=>if l.1=v then some l.2 else if l.2=v then some l.1 else none
structure Bs(H0 H:Hp)(b:Addr)(as:List Addr) (ns:List (List Nat)):Prop where
 lst:H b=some (.lst (as.map V.ref))
 nd:as.Nodup
 len:as.length=ns.length
 at_:∀(i:Nat)(a:Addr)(l:List Nat),as[i]?=some a→ns[i]?=some l→H a=some (.lst (ni l))
 fr:∀ a∈as,H0 a=none
 nb:b∉as
theorem Bs.app{H0 H:Hp}{b:Addr}{as:List Addr} {ns:List (List Nat)} (B:Bs H0 H b as ns) {j:Nat} {a:Addr} {l:List Nat} (ha:as[j]?=some a) (hl:ns[j]?=some l) (x:Nat) :
  Bs H0 (upd H a (.lst (ni l++[V.int (x:Int)]))) b as (ns.set j (l++[x])):=by
 have ma:a∈as:=yO ha
 have hj:j<ns.length:=(List.getElem?_eq_some_iff.1 hl).1
 refine⟨?_,B.nd,by rw[Um];exact B.len,?_,B.fr,B.nb⟩
 ·rw[Qq (fun e=>B.nb (by rw[e];exact ma))];exact B.lst
 ·intro i c m hi hm
  by_cases q:i=j
  ·subst q
   have e:c=a:=Option.some.inj (hi.symm.trans ha)
   subst e
   rw[jy hj] at hm
   rw[←Option.some.inj hm,Qh]
   simp[ni]
  ·rw[jv (fun e=>q e.symm)] at hm
   have ne:c≠a:=fun e=>q (nd_ix B.nd hi (by rw[e];exact ha))
   rw[Qq ne]
   exact B.at_ i c m hi hm
theorem Bs.same{H0 H:Hp}{b:Addr}{as:List Addr} {ns:List (List Nat)} (B:Bs H0 H b as ns) {j:Nat} {a:Addr} (ha:as[j]?=some a) (o:HO) (s:Qp H0 H):Qp H0 (upd H a o):=fun c u e=>by
 rw[Qq (Qn e (B.fr a (yO ha)))];exact s c u e
def nears(n:Nat) (ls:List (Nat×Nat)):List (List Nat):=(yj n).map (Zw ls)
theorem Zk{n v:Nat} (ls:List (Nat×Nat)) (h:v<n):(nears n ls)[v]?=some (Zw ls v):=by
 simp[nears,h]
theorem ZG(n:Nat) (ls:List (Nat×Nat)):(nears n ls).length=n:=by simp[nears]
theorem nears_snoc{n:Nat} {ls:List (Nat×Nat)} {l:Nat×Nat} (h1:l.1<l.2) :
  ((nears n ls).set l.1 (Zw ls l.1++[l.2])).set l.2 (Zw ls l.2++[l.1])=nears n (ls++[l]):=by
 apply List.ext_getElem?
 intro v
 by_cases hv:v<n
 ·rw[Zk (ls++[l]) hv]
  have e:Zw (ls++[l]) v=Zw ls v++(if l.1=v then [l.2] else if l.2=v then [l.1] else []):=by
   unfold Zw
   rw[List.filterMap_append]
   congr 1
   by_cases q:l.1=v
   ·simp[q]
   ·by_cases q2:l.2=v
    ·simp[q,q2]
    ·simp[q,q2]
  rw[e]
  by_cases q2:l.2=v
  ·subst q2
   rw[jy (by rw[Um,ZG];exact hv),if_neg (by lia),if_pos rfl]
  ·rw[jv q2]
   by_cases q:l.1=v
   ·subst q
    rw[jy (by rw[ZG];exact hv),if_pos rfl]
   ·rw[jv q,Zk ls hv,if_neg q,if_neg q2];simp
 ·rw[jH (by simp[nears];lia),jH (by simp[nears];lia)]
structure qB(K:z8)(H:Hp)(b:Addr)(as:List Addr)(S:Plan):Prop where
 lst:SqL K H b (as.map V.ref)
 len:as.length=S.pts.length
 at_:∀(v:Nat)(a:Addr),as[v]?=some a→SqL K H a (ni (S.near v))
theorem qB.same{K:z8}{H H':Hp}{b:Addr}{as:List Addr}{S:Plan}(h:qB K H b as S)(e:Qp H H'):qB K H' b as S:=
 ⟨e.seq h.lst,h.len,fun v a hv=>e.seq (h.at_ v a hv)⟩
def Z3(S:Plan):Prop:=∀ l∈S.lines,l.1<l.2∧l.2<S.pts.length
def XV(S:Plan):Prop:=S.pts.length≤65536∧S.lines.length≤65536∧S.marks.length≤65536
def spNb(K:z8)(C:Addr):Sp:=fun vs H Q _=>∃(d:Addr)(S:Plan)(dx lp ll lm:Addr)(ap al am:List Addr),vs=[.ref d]∧Dw K C H d S dx lp ll lm ap al am∧Z3 S∧XV S∧
 ∀ H' b as,Qp H H'→qB K H' b as S→Q (.ref b) H'
theorem scNb:Qm ["self","beside","line","point"] ["self"] (defScope sNb):=⟨rfl,rfl,rfl,by decide +kernel,rfl,by decide +kernel,by decide +kernel⟩
theorem near_le (ls:List (Nat×Nat)) (v:Nat):(Zw ls v).length≤ls.length:=by
 unfold Zw
 exact List.length_filterMap_le _ _
section
variable {P:Program} {w:World} {K:z8} {mg:Str→Option Value} {base:Heap} {C:Addr}
theorem ok_nb{f:Addr}{fd:FuncData}(F:Fun K "neighbours" "Drawing.neighbours" sNb f fd)(T:ZP K mg C):QI P w K mg base CX0 1 f fd ["self"] (spNb K C):=by
 refine F.ok scNb (fun vs H Q E h=>?_) (fun cdv A outer s H vs Q E hr h=>?_)
 ·obtain⟨d,S,dx,lp,ll,lm,ap,al,am,rfl,_⟩:=h
  rfl
 ·obtain⟨d,S,dx,lp,ll,lm,ap,al,am,rfl,D,hL,hZ,k⟩:=h
  refine⟨_,Qb (ps_setLc (i:=1) (own:=[("point",3)]) rfl scNb.nd rfl rfl (sw_true rfl rfl rfl rfl) (Q6 (QB (pv 0) rfl)) (Xf (N:=["self","beside","line","point"]) (sc:=defScope sNb) (by decide +kernel)) (fun _ _ _ _ _=>Qv (i:=3) scNb.nd rfl (Or.inl rfl)) (fun _ _ _ _ _=>zF) (fun _ _ _ _ _=>ZD Qc))
   (Qb (QQ PassesOwn.never rfl (Q6 (QB (pv 0) rfl)) (Qv (i:=2) scNb.nd rfl (Or.inl rfl))
    (Qb (Yn (qZ jg js jt Z4 (Qx QC (pv 1) (QR 2) (fun _ _=>rfl)) (Qa (Q0 2) Qc)))
    (Qe (Yn (qZ jg js jt Z4 (Qx QC (pv 1) (Q0 2) (fun _ _=>rfl)) (Qa (QR 2) Qc))))))
   (Qe (Qi (pv 1)))),?_⟩
  refine⟨_,rfl,d,C,dx,_,_,rfl,D.ins,T.cl,T.nP,Xc _ _ _ _ _,lp,rfl,⟨_,D.pts.lst⟩,fun b hb=>zK (K:=K) (a:=lp) (xs:=ap.map V.ref) (fun i H'=>∃ as:List Addr,Qp H H'∧as.length=i∧Bs H H' b as (nears i []))
   ⟨[],Ql _ hb,rfl,Qh,by simp,by simp[nears],fun i a l h=>by simp at h,by simp,by simp⟩ (fun i H' _ ⟨_,s1,_⟩=>(D.pts.same s1).lst) ?_ ?_⟩
  ·rintro i x H1 hx ⟨as,s1,hlen,B⟩
   refine⟨rfl,yM _,fun c hc=>?_⟩
   have nbc:b≠c:=Qn B.lst hc
   refine⟨as.map V.ref,by rw[Qq nbc];exact B.lst,?_,?_⟩
   ·rw[yc,hlen]
    have:i<ap.length:=by
     have:=(List.getElem?_eq_some_iff.1 hx).1
     simpa using this
    have e:=D.pts.len
    rw[yc] at e
    exact yu this (by rw[e];exact yE hZ.1 (by decide))
   ·have fc:H c=none:=s1.free hc
    have nca:c∉as:=fun m=>by
     obtain⟨j,hj⟩:=List.mem_iff_getElem?.1 m
     have hjl:=(List.getElem?_eq_some_iff.1 hj).1
     have:=B.at_ j c (Zw [] j) hj (Zk [] (by lia))
     rw[hc] at this;cases this
    refine⟨as++[c],fun z o e=>?_,by simp[hlen],?_,nd_snoc B.nd nca,by simp[ZG,hlen],?_,?_,?_⟩
    ·rw[Qq (Qn e hb),Qq (Qn e fc)];exact s1 z o e
    ·rw[Qh,jS];rfl
    ·intro j a l hj hl
     rcases Y9 hj with ⟨h1,h2⟩ | ⟨h1,h2⟩
     ·have hl2:(nears i [])[j]?=some l:=by
       rw[Zk [] (by lia)] at hl ⊢;exact hl
      have:=B.at_ j a l h2 hl2
      rw[Qq (fun e=>B.nb (by rw[←e];exact yO h2)),Qq (fun e=>nca (by rw[←e];exact yO h2))]
      exact this
     ·subst h2
      rw[Zk [] (by lia)] at hl
      rw[←Option.some.inj hl,Qq (fun e=>nbc e.symm),Qh];rfl
    ·intro a ha
     rcases List.mem_append.1 ha with h | h
     ·exact B.fr a h
     ·simp only[yy] at h;rw[h];exact fc
    ·intro m
     rcases List.mem_append.1 m with h | h
     ·exact B.nb h
     ·simp only[yy] at h;exact nbc h
  ·rintro H1 ⟨as,s1,hlen,B⟩
   have D1:=D.same s1
   refine⟨_,rfl,d,C,dx,_,_,rfl,D1.ins,T.cl,T.nL,qo _ _ _ _ _,ll,rfl,⟨_,D1.lin.lst⟩,Zq (K:=K) (a:=ll) (xs:=al.map V.ref) (fun i σ H'=>∃ v2:Option V,σ=[some (.ref d),some (.ref b),v2,none]∧Qp H H'∧Bs H H' b as (nears S.pts.length (S.lines.take i)))
    ⟨none,rfl,s1,?_⟩ (fun i σ H' _ ⟨_,_,s2,_⟩=>(D.same s2).lin.lst) ?_ ?_⟩
   ·have e:(ap.map V.ref).length=S.pts.length:=by
     have e:=D.pts.len
     rw[yc] at e
     rw[yc,e]
    rw[e] at B
    exact B
   ·rintro i x σ H2 hx ⟨v2,rfl,s2,B2⟩
    obtain⟨c,hc,rfl⟩:∃ c,al[i]?=some c∧x=V.ref c:=by
     rw[yi] at hx
     cases e:al[i]? with
     | none=>rw[e] at hx;cases hx
     | some c=>rw[e] at hx;exact⟨c,rfl,(Option.some.inj hx).symm⟩
    have D2:=D.same s2
    have hil:i<S.lines.length:=by rw[←D.lin.len];exact (List.getElem?_eq_some_iff.1 hc).1
    have hli:S.lines[i]?=some S.lines[i]:=yd hil
    obtain⟨o1,o2⟩:=hL S.lines[i] (yo hil)
    have cT:=fun (H':Hp) (e:Qp H H')=>SqT.of (K:=K) ((D.same e).lin.at_ i c _ hc hli)
    have alen:as.length=S.pts.length:=by rw[B2.len,ZG]
    obtain⟨a1,ha1⟩:∃ a1,as[S.lines[i].1]?=some a1:=⟨as[S.lines[i].1]'(by lia),yd _⟩
    obtain⟨a2,ha2⟩:∃ a2,as[S.lines[i].2]?=some a2:=⟨as[S.lines[i].2]'(by lia),yd _⟩
    have n1:=B2.at_ _ a1 _ ha1 (Zk _ (by lia))
    have small:∀ v,(ni (Zw (S.lines.take i) v)).length<sizeLine:=fun v=>by
     unfold ni
     rw[yc]
     refine yF (near_le _ v) ?_
     rw[yB]
     exact yF (yE (Nat.min_le_right _ _) hZ.2.1) (by decide)
    refine⟨_,rfl,c,_,_,rfl,cT H2 s2,b,_,_,_,rfl,rfl,SqL.of B2.lst,Qj (j:=S.lines[i].1) (v:=V.ref a1) (by rw[yi,ha1];rfl),.inl ⟨rfl,_,SqL.of n1⟩,c,_,_,rfl,cT H2 s2,a1,_,_,rfl,rfl,n1,small _,?_⟩
    have B3:=B2.app ha1 (Zk _ (by lia)) S.lines[i].2
    have s3:=B2.same ha1 (.lst (ni (Zw (S.lines.take i) S.lines[i].1)++[V.int (S.lines[i].2:Int)])) s2
    have g2:((nears S.pts.length (S.lines.take i)).set S.lines[i].1 (Zw (S.lines.take i) S.lines[i].1++[S.lines[i].2]))[S.lines[i].2]?=some (Zw (S.lines.take i) S.lines[i].2):=by
     rw[jv (by lia),Zk _ o2]
    have n2:=B3.at_ _ a2 _ ha2 g2
    refine⟨_,rfl,c,_,_,rfl,cT _ s3,b,_,_,_,rfl,rfl,SqL.of B3.lst,Qj (j:=S.lines[i].2) (v:=V.ref a2) (by rw[yi,ha2];rfl),.inl ⟨rfl,_,SqL.of n2⟩,c,_,_,rfl,cT _ s3,a2,_,_,rfl,rfl,n2,small _,?_⟩
    have B4:=B3.app ha2 g2 S.lines[i].1
    have s4:=B3.same ha2 (.lst (ni (Zw (S.lines.take i) S.lines[i].2)++[V.int (S.lines[i].1:Int)])) s3
    refine⟨_,rfl,s4,?_⟩
    rw[nears_snoc o1] at B4
    have et:S.lines.take (i+1)=S.lines.take i++[S.lines[i]]:=by rw[jo hil]
    rw[et]
    exact B4
   ·rintro σ H2 ⟨v2,rfl,s2,B2⟩
    refine⟨_,rfl,?_⟩
    have e:(al.map V.ref).length=S.lines.length:=by rw[yc,D.lin.len]
    rw[e,jZ] at B2
    have al2:as.length=S.pts.length:=by rw[B2.len,ZG]
    exact k H2 b as s2 ⟨SqL.of B2.lst,al2,fun v a hv=>SqL.of (B2.at_ v a _ hv (Zk _ (by have:=(List.getElem?_eq_some_iff.1 hv).1;lia)))⟩
end
end Gp
set_option Elab.async false
set_option linter.all false
set_option maxRecDepth 100000
namespace Gp
open PySem PySem.Spec PyProof.Rows L2
open Gla (Pt Plan)
theorem numLe_lt:∀(l:ye),Gz l<256 ^ l.length
 | []=>by show 0<1;decide
 | c::r=>by
  have:=numLe_lt r
  have h:=c.toNat_lt
  show c.toNat+256*Gz r<256 ^ (r.length+1)
  rw[Nat.pow_succ]
  lia
theorem num_lt(b:ye)(p w:Nat):z9 b p w<256 ^ w:=by
 unfold z9
 refine yu (numLe_lt _) (Nat.pow_le_pow_right (by decide) ?_)
 rw[yB];lia
theorem num2(b:ye)(p:Nat):z9 b p 2<65536:=num_lt b p 2
theorem num4(b:ye)(p:Nat):z9 b p 4<4294967296:=num_lt b p 4
abbrev sRow:Stmt:=top 11
abbrev sDrw:Stmt:=top 12
def rowsAt(b:ye):List V:=[.int ((20:Nat):Int),.int ((20+8*z9 b 12 2:Nat):Int),.int ((20+8*z9 b 12 2+4*z9 b 14 2:Nat):Int),.int ((20+8*z9 b 12 2+4*z9 b 14 2+12*z9 b 16 2:Nat):Int)]
def spRow(K:z8):Sp:=fun vs H Q _=>∃(a:Addr)(b:ye),vs=[.ref a]∧SqL K H a (bl b)∧∀ H' t,Qp H H'→H' t=some (.tup (rowsAt b))→Q (.ref t) H'
def spDrw(K:z8)(C:Addr):Sp:=fun vs H Q _=>∃(a:Addr)(b:ye),vs=[.ref a]∧SqL K H a (bl b)∧∀ H' d dx lp ll lm ap al am,Qp H H'→Dw K C H' d (jJ b) dx lp ll lm ap al am→Q (.ref d) H'
theorem scRow:Qm ["octets","lines","marks"] ["octets"] (defScope sRow):=⟨rfl,rfl,rfl,by decide +kernel,rfl,by decide +kernel,by decide +kernel⟩
theorem scDrw:Qm ["octets","places"] ["octets"] (defScope sDrw):=⟨rfl,rfl,rfl,by decide +kernel,rfl,by decide +kernel,by decide +kernel⟩
theorem parts_pts(b:ye):(jJ b).pts.map xy=ZS b 20 8 (z9 b 12 2) 4:=by
 show ((yj (z9 b 12 2)).map _).map xy=_
 rw[GH];rfl
theorem parts_lines(b:ye):(jJ b).lines=ZS b (20+8*z9 b 12 2) 4 (z9 b 14 2) 2:=rfl
theorem parts_marks(b:ye):((jJ b).marks.map fun m=>xy m.at_)=ZS b (20+8*z9 b 12 2+4*z9 b 14 2) 12 (z9 b 16 2) 4:=by
 show ((yj (z9 b 16 2)).map _).map _=_
 rw[GH];rfl
section
variable {P:Program} {w:World} {K:z8} {mg:Str→Option Value} {base:Heap} {C:Addr}
theorem ok_row{f:Addr}{fd:FuncData}(F:Fun K "row_places" "row_places" sRow f fd)(T:ZP K mg C) (N:Has P w K mg base 1 "number_at" ["octets","place","size"] (YY K)) :
  QI P w K mg base CX0 2 f fd ["octets"] (spRow K):=by
 refine F.ok scRow (fun vs H Q E h=>?_) (fun cdv A outer s H vs Q E hr h=>?_)
 ·obtain⟨a,b,rfl,_⟩:=h
  rfl
 ·obtain⟨a,b,rfl,hS,k⟩:=h
  refine⟨_,Qb (Qs (i:=1) scRow.nd rfl (Or.inl rfl) (QD QU (QS T.g20) (QD ZF (QS T.g8) (Qt N hr (Qa (pv 0) (Qa Qg (Qa Qg Qc)))))))
   (Qb (Qs (i:=2) scRow.nd rfl (Or.inl rfl) (QD QU (pv 1) (QD ZF (QS T.g4) (Qt N hr (Qa (pv 0) (Qa Qg (Qa Qg Qc)))))))
   (Qe (Qi (Q4 (Qa (QS T.g20) (Qa (pv 1) (Qa (pv 2) (Qa (QD QU (pv 2) (QD ZF (QS T.g12) (Qt N hr (Qa (pv 0) (Qa Qg (Qa Qg Qc)))))) Qc)))))))),?_⟩
  refine⟨_,rfl,a,b,12,2,_,_,rfl,rfl,rfl,hS,fun H1 s1=>⟨_,_,rfl,rfl,.inl ⟨by decide,by decide⟩,_,_,rfl,rfl,?_⟩⟩
  refine⟨_,rfl,_,rfl,a,b,14,2,_,_,rfl,rfl,rfl,s1.seq hS,fun H2 s2=>⟨_,_,rfl,rfl,.inl ⟨by decide,by decide⟩,_,_,rfl,rfl,?_⟩⟩
  have s12:=s1.trans s2
  refine⟨_,rfl,_,rfl,_,rfl,_,rfl,a,b,16,2,_,_,rfl,rfl,rfl,s12.seq hS,fun H3 s3=>⟨_,_,rfl,rfl,.inl ⟨by decide,by decide⟩,_,_,rfl,rfl,(by show 4≤sizeLine;decide),fun t ht=>?_⟩⟩
  refine k _ t ((s12.trans s3).trans (Ql _ ht)) ?_
  rw[Qh]
  unfold rowsAt
  rw[show ((20+8*z9 b 12 2:Nat):Int)=20+8*(z9 b 12 2:Int) by lia,show ((20+8*z9 b 12 2+4*z9 b 14 2:Nat):Int)=20+8*(z9 b 12 2:Int)+4*(z9 b 14 2:Int) by lia,
   show ((20+8*z9 b 12 2+4*z9 b 14 2+12*z9 b 16 2:Nat):Int)=20+8*(z9 b 12 2:Int)+4*(z9 b 14 2:Int)+12*(z9 b 16 2:Int) by lia]
  rfl
theorem ok_drw{f fI:Addr}{fd fdI:FuncData}(F:Fun K "drawing_of" "drawing_of" sDrw f fd)(T:ZP K mg C) (N:Has P w K mg base 1 "number_at" ["octets","place","size"] (YY K)) (Rw:Has P w K mg base 2 "row_places" ["octets"] (spRow K))
  (R:Has P w K mg base 2 "pairs_at" ["octets","place","step","count","size"] (zv K)) (M:Mk K C fI) (bI:Xg K fdI ["self","width","height","points","lines","marks"] []) (G:QI P w K mg base CX0 1 fI fdI ["self","width","height","points","lines","marks"] (spInit C)) :
  QI P w K mg base CX0 3 f fd ["octets"] (spDrw K C):=by
 refine F.ok scDrw (fun vs H Q E h=>?_) (fun cdv A outer s H vs Q E hr h=>?_)
 ·obtain⟨a,b,rfl,_⟩:=h
  rfl
 ·obtain⟨a,b,rfl,hS,k⟩:=h
  have hr1:=hr.mono (j:=1) (by decide)
  refine⟨_,Qb (Qs (i:=1) scDrw.nd rfl (Or.inl rfl) (Qt Rw hr (Qa (pv 0) Qc)))
   (Qe (Qi (pe_make M G hr rfl T.mgC bI .nil Zm
    (Qa (Qt N hr1 (Qa (pv 0) (Qa Qg (Qa Qg Qc))))
    (Qa (Qt N hr1 (Qa (pv 0) (Qa Qg (Qa Qg Qc))))
    (Qa (Qt R hr (Qa (pv 0) (Qa (Qx QM (pv 1) Qg (fun _ _=>rfl)) (Qa (QS T.g8) (Qa (Qt N hr1 (Qa (pv 0) (Qa Qg (Qa Qg Qc)))) (Qa Qg Qc))))))
    (Qa (Qt R hr (Qa (pv 0) (Qa (Qx QM (pv 1) Qg (fun _ _=>rfl)) (Qa (QS T.g4) (Qa (Qt N hr1 (Qa (pv 0) (Qa Qg (Qa Qg Qc)))) (Qa Qg Qc))))))
    (Qa (Qt R hr (Qa (pv 0) (Qa (Qx QM (pv 1) Qg (fun _ _=>rfl)) (Qa (QS T.g12) (Qa (Qt N hr1 (Qa (pv 0) (Qa Qg (Qa Qg Qc)))) (Qa Qg Qc)))))) Qc)))))))),?_⟩
  have q1:=num2 b 12
  have q2:=num2 b 14
  have q3:=num2 b 16
  refine⟨_,rfl,a,b,rfl,hS,fun H2 t s2 ht=>?_⟩
  refine⟨_,rfl,a,b,4,4,_,_,rfl,rfl,rfl,s2.seq hS,fun H3 s3'=>?_⟩
  have s3:=s2.trans s3'
  refine⟨_,rfl,a,b,8,4,_,_,rfl,rfl,rfl,s3.seq hS,fun H4 s4'=>?_⟩
  have s4:=s3.trans s4'
  have t4:=s4' _ _ (s3' _ _ ht)
  refine⟨_,rfl,_,rfl,t,_,_,_,rfl,rfl,SqT.of t4,Qj (j:=0) rfl,_,rfl,a,b,12,2,_,_,rfl,rfl,rfl,s4.seq hS,fun H4b s4b=>?_⟩
  have s4c:=s4.trans s4b
  refine⟨a,b,20,8,z9 b 12 2,4,_,_,_,_,rfl,rfl,rfl,rfl,rfl,s4c.seq hS,by lia,by decide,fun H5 lp ap s5' A1=>?_⟩
  have s5:=s4c.trans s5'
  have t5:=s5' _ _ (s4b _ _ t4)
  refine⟨_,rfl,_,rfl,t,_,_,_,rfl,rfl,SqT.of t5,Qj (j:=1) rfl,_,rfl,a,b,14,2,_,_,rfl,rfl,rfl,s5.seq hS,fun H5b s5b=>?_⟩
  have s5c:=s5.trans s5b
  refine⟨a,b,20+8*z9 b 12 2,4,z9 b 14 2,2,_,_,_,_,rfl,rfl,rfl,rfl,rfl,s5c.seq hS,by lia,by decide,fun H6 ll al s6' A2=>?_⟩
  have s6:=s5c.trans s6'
  have t6:=s6' _ _ (s5b _ _ t5)
  refine⟨_,rfl,_,rfl,t,_,_,_,rfl,rfl,SqT.of t6,Qj (j:=2) rfl,_,rfl,a,b,16,2,_,_,rfl,rfl,rfl,s6.seq hS,fun H7 s7'=>?_⟩
  have s7:=s6.trans s7'
  refine⟨a,b,20+8*z9 b 12 2+4*z9 b 14 2,12,z9 b 16 2,4,_,_,_,_,rfl,rfl,rfl,rfl,rfl,s7.seq hS,by lia,by decide,fun H8 lm am s8' A3=>?_⟩
  have s8:=s7.trans s8'
  intro x dx nx ndx ne
  refine⟨x,dx,_,_,z9 b 4 4,z9 b 8 4,lp,ll,lm,rfl,rfl,rfl,Qh,fun H9 hx kp=>⟨rfl,?_⟩⟩
  have s9:Qp H8 H9:=Qp.made nx ndx kp
  refine k H9 x dx lp ll lm ap al am (s8.trans s9) ⟨hx,?_,?_,?_⟩
  ·rw[parts_pts];exact A1.same ((((s5b.trans s6').trans s7').trans s8').trans s9)
  ·rw[parts_lines];exact A2.same ((s7'.trans s8').trans s9)
  ·rw[parts_marks];exact A3.same s9
end
end Gp
set_option Elab.async false
set_option linter.all false
set_option maxRecDepth 100000
namespace L2
open PySem PySem.Spec PyProof.Rows
theorem XG{K:z8}{a:Addr}{xs:List V}{p q:Nat}{tb:TS}{D:Jx}{σ:St}{H:Hp}(Pv:Nat→St→Hp→Prop)(h0:Pv 0 σ H)(hl:∀ i σ H,i≤xs.length→Pv i σ H→SqL K H a xs)
  (hs:∀ i x σ H H',xs[i]?=some x→Pv i σ H→Qp H H'→tb { D with nx:=Pv (i+1),ct:=Pv (i+1),bk:=D.nx } ((σ.set p (some (.int (i:Int)))).set q (some x)) H') (hd:∀ σ H,Pv xs.length σ H→D.nx σ H) :
  ∃ W:Nat→Nat→St→Hp→Prop,(∃ m,W 0 m σ H)∧∀ i m σ H,W i m σ H→
   ((Ite K a).stop i H∧D.nx σ H)∨((Ite K a).go i H∧∃ N:St→Hp→Prop,(∀ σ' H',N σ' H'→∃ m',m'<m∧W (i+1) m' σ' H')∧∀ x H',(Ite K a).yld i H x H'→zR K 2 (ZT (Zp p) (ZT (Zp q) zS)) x σ H' fun σ2 H2=>tb { D with nx:=N,ct:=N,bk:=D.nx } σ2 H2):=by
 refine⟨fun i m σ H=>m=xs.length-i∧i≤xs.length∧Pv i σ H,⟨xs.length,by simp,yM _,h0⟩,?_⟩
 rintro i m σ H ⟨rfl,hi,pv⟩
 have q':=hl i σ H hi pv
 by_cases hlt:i<xs.length
 ·refine .inr ⟨⟨xs,xs[i],q',by simp[hlt]⟩,Pv (i+1),fun σ' H' p'=>⟨xs.length-(i+1),by lia,rfl,hlt,p'⟩,fun x H' y=>?_⟩
  obtain⟨T,z,rfl,hT,rfl,y⟩:=y
  refine⟨T,_,rfl,SqT.of Qh,rfl,_,_,rfl,_,_,rfl,rfl,?_⟩
  exact hs i z σ H _ (y xs q') pv fun b o e=>by rw[Qq (Qn e hT)];exact e
 ·have e:i=xs.length:=by lia
  subst e
  exact .inl ⟨⟨xs,q',yl _⟩,hd σ H pv⟩
end L2
namespace Gp
open PySem PySem.Spec PyProof.Rows L2
open Gla (Pt Plan)
theorem Zl{α:Type}{p:Nat→α→Bool}{l:List α}{i:Nat}(hi:i<l.length)(h:p i l[i]=true) (hb:∀ j (hj:j<i),p j (l[j]'(by lia))=false):yH p l=some i:=by
 unfold yH
 have:l.zipIdx.find? (fun (x:α×Nat)=>p x.2 x.1)=some (l[i],i):=by
  rw[xx]
  refine⟨h,i,by simpa using hi,by simp,?_⟩
  intro j hj
  have:=hb j hj
  simp[this]
 rw[this];rfl
def Yw:Option Nat→V
 | none=>.non
 | some n=>.int (n:Int)
theorem Zn{as:List Addr}{i:Nat}{x:V} (h:(as.map V.ref)[i]?=some x):∃ c,as[i]?=some c∧x=V.ref c:=by
 rw[yi] at h
 cases e:as[i]? with
 | none=>rw[e] at h;cases h
 | some c=>rw[e] at h;exact⟨c,rfl,(Option.some.inj h).symm⟩
section
variable {K:z8} {C:Addr} {H:Hp} {d:Addr} {S:Plan} {dx lp ll lm:Addr} {ap al am:List Addr}
theorem Dw.pt(D:Dw K C H d S dx lp ll lm ap al am){i:Nat}{a:Addr}(ha:ap[i]?=some a):∃ h:i<S.pts.length,ZU K H a S.pts[i]:=by
 have hl:=D.pts.len
 rw[yc] at hl
 have hi:i<S.pts.length:=by rw[←hl];exact (List.getElem?_eq_some_iff.1 ha).1
 exact⟨hi,SqT.of (D.pts.at_ i a (xy S.pts[i]) ha (by rw[yi,yd hi];rfl))⟩
theorem Dw.ptAt(D:Dw K C H d S dx lp ll lm ap al am){i:Nat}(hi:i<S.pts.length):∃ a,ap[i]?=some a∧ZU K H a S.pts[i]:=by
 have hl:=D.pts.len
 rw[yc] at hl
 obtain⟨a,ha⟩:∃ a,ap[i]?=some a:=⟨ap[i]'(by lia),yd _⟩
 obtain⟨_,h⟩:=D.pt ha
 exact⟨a,ha,h⟩
theorem Dw.ln(D:Dw K C H d S dx lp ll lm ap al am){i:Nat}{a:Addr}(ha:al[i]?=some a):∃ h:i<S.lines.length,SqT K H a [.int (S.lines[i].1:Int),.int (S.lines[i].2:Int)]:=by
 have hl:=D.lin.len
 have hi:i<S.lines.length:=by rw[←hl];exact (List.getElem?_eq_some_iff.1 ha).1
 exact⟨hi,SqT.of (D.lin.at_ i a S.lines[i] ha (yd hi))⟩
theorem Dw.lnAt(D:Dw K C H d S dx lp ll lm ap al am){i:Nat}(hi:i<S.lines.length):∃ a,al[i]?=some a∧SqT K H a [.int (S.lines[i].1:Int),.int (S.lines[i].2:Int)]:=by
 have hl:=D.lin.len
 obtain⟨a,ha⟩:∃ a,al[i]?=some a:=⟨al[i]'(by lia),yd _⟩
 obtain⟨_,h⟩:=D.ln ha
 exact⟨a,ha,h⟩
theorem Dw.mkI(D:Dw K C H d S dx lp ll lm ap al am){i:Nat}{a:Addr}(ha:am[i]?=some a):∃ h:i<S.marks.length,ZU K H a S.marks[i].at_:=by
 have hl:=D.mrk.len
 rw[yc] at hl
 have hi:i<S.marks.length:=by rw[←hl];exact (List.getElem?_eq_some_iff.1 ha).1
 exact⟨hi,SqT.of (D.mrk.at_ i a (xy S.marks[i].at_) ha (by rw[yi,yd hi];rfl))⟩
theorem Dw.mkAt(D:Dw K C H d S dx lp ll lm ap al am){i:Nat}(hi:i<S.marks.length):∃ a,am[i]?=some a∧ZU K H a S.marks[i].at_:=by
 have hl:=D.mrk.len
 rw[yc] at hl
 obtain⟨a,ha⟩:∃ a,am[i]?=some a:=⟨am[i]'(by lia),yd _⟩
 obtain⟨_,h⟩:=D.mkI ha
 exact⟨a,ha,h⟩
end
def Zv(K:z8)(C:Addr)(ok:Plan→Prop)(f:Plan→Option Nat):Sp:=fun vs H Q _=>∃(d:Addr)(S:Plan)(dx lp ll lm:Addr)(ap al am:List Addr),vs=[.ref d]∧Dw K C H d S dx lp ll lm ap al am∧ok S∧∀ H',Qp H H'→Q (Yw (f S)) H'
def XE(S:Plan):Option Nat:=(ju (fun (p:Pt)=>decide (p.x≤S.w)&&decide (p.y≤S.h)) Pt.below S.pts).map xq
def Xk(S:Plan):Option Nat:=(ju (fun (l:Nat×Nat)=>decide (l.1<l.2)&&decide (l.2<S.pts.length)) jq S.lines).map (jK S)
abbrev sWP:Stmt:=top 21
abbrev sLB:Stmt:=top 22
abbrev sWL:Stmt:=top 23
theorem scWP:Qm ["drawing","number","point"] ["drawing"] (defScope sWP):=⟨rfl,rfl,rfl,by decide +kernel,rfl,by decide +kernel,by decide +kernel⟩
theorem scLB:Qm ["later","earlier"] ["later","earlier"] (defScope sLB):=⟨rfl,rfl,rfl,by decide +kernel,rfl,by decide +kernel,by decide +kernel⟩
theorem scWL:Qm ["drawing","number","line"] ["drawing"] (defScope sWL):=⟨rfl,rfl,rfl,by decide +kernel,rfl,by decide +kernel,by decide +kernel⟩
def spLB(K:z8):Sp:=fun vs H Q _=>∃(a b:Addr)(p q:Nat×Nat),vs=[.ref a,.ref b]∧SqT K H a [.int (p.1:Int),.int (p.2:Int)]∧SqT K H b [.int (q.1:Int),.int (q.2:Int)]∧Q (.bl (jq q p)) H
def Jw(S:Plan)(i:Nat)(p:Pt):Bool:=!(decide (p.x≤S.w)&&decide (p.y≤S.h)) || (decide (0<i)&&(match S.pts[i-1]? with
 | some y=>!y.below p
 | none=>false))
def Jv(S:Plan)(i:Nat)(l:Nat×Nat):Bool:=!(decide (l.1<l.2)&&decide (l.2<S.pts.length)) || (decide (0<i)&&(match S.lines[i-1]? with
 | some y=>!Gla.lineBelow y l
 | none=>false))
theorem rule4_eq(S:Plan):XE S=(yH (Jw S) S.pts).map xq:=by
 unfold XE ju
 congr 2
 funext i x
 unfold Jw
 cases S.pts[i-1]? <;> rfl
theorem rule5_eq(S:Plan):Xk S=(yH (Jv S) S.lines).map (jK S):=by
 unfold Xk ju
 congr 2
 funext i x
 unfold Jv
 cases S.lines[i-1]? <;> rfl
section
variable {P:Program} {w:World} {K:z8} {mg:Str→Option Value} {base:Heap} {C:Addr}
theorem ok_wp{f:Addr}{fd:FuncData}(F:Fun K "wrong_point" "wrong_point" sWP f fd)(T:ZP K mg C)(U:Txt K mg)(M:Xh P w K mg base C 1 "point_place" ["self","number"] spPP) (B:Has P w K mg base 1 "comes_behind" ["later","earlier"] (YZ K)) :
  QI P w K mg base CX0 2 f fd ["drawing"] (Zv K C (fun _=>True) XE):=by
 obtain⟨fm,fdm,hm,bm,G⟩:=M.ex
 refine F.ok scWP (fun vs H Q E h=>?_) (fun cdv A outer s H vs Q E hr h=>?_)
 ·obtain⟨d,S,dx,lp,ll,lm,ap,al,am,rfl,_⟩:=h
  rfl
 ·obtain⟨d,S,dx,lp,ll,lm,ap,al,am,rfl,D,_,k⟩:=h
  refine⟨_,Qb (QQ PassesOwn.never rfl (Yr rfl U.enum (Qa (QB (pv 0) rfl) Qc)) (ZM (n:=2) rfl (QK (Qv (i:=1) scWP.nd rfl (Or.inl rfl)) (QK (Qv (i:=2) scWP.nd rfl (Or.inl rfl)) Zj)))
    (Qb (QH (Yb (Qu Ze (QR 2) (QB (pv 0) rfl) (Qo _)) (Z9 (Qu Ze (Q0 2) (QB (pv 0) rfl) (Qo _)))).pt
     (Qe (Qi (Zd (pv 0) T.cl hm G hr bm .nil Zm (Qa (pv 1) Qc)))) Qr)
    (Qe (QH (Jm (Qu Ze (pv 1) Qg (Qo _)) (Ym (YM (Zf (Qt B hr (Qa (pv 2) (Qa (Qx QC (QB (pv 0) rfl) (QD Xu (pv 1) Qg) (fun _ _=>rfl)) Qc))))))).pt
     (Qe (Qi (Zd (pv 0) T.cl hm G hr bm .nil Zm (Qa (pv 1) Qc)))) Qr))))
   (Qe (Qi Q5)),?_⟩
  have hno:=ZY S.w S.h lp ll lm (m := "point_place") (by decide +kernel) (by decide +kernel) (by decide +kernel) (by decide +kernel) (by decide +kernel)
  refine⟨_,rfl,d,C,dx,_,_,rfl,D.ins,T.cl,T.nP,Xc _ _ _ _ _,lp,_,rfl,D.pts.lst,XG (K:=K) (a:=lp) (xs:=ap.map V.ref) (fun i σ H'=>∃ v1 v2:Option V,σ=[some (.ref d),v1,v2]∧Qp H H'∧∀ j (hj:j<i) (hl:j<S.pts.length),Jw S j S.pts[j]=false)
   ⟨none,none,rfl,Qp.refl H,fun j hj=>by lia⟩ (fun i σ H' _ ⟨_,_,_,s1,_⟩=>(D.same s1).pts.lst) ?_ ?_⟩
  ·rintro i x σ H1 H2 hx ⟨v1,v2,rfl,s1,hb⟩ s2'
   obtain⟨c,hc,rfl⟩:=Zn hx
   have s2:=s1.trans s2'
   have D2:=D.same s2
   obtain⟨hi,hp⟩:=D2.pt hc
   have ret:Jw S i S.pts[i]=true→tRet (qL C "point_place" spPP [] E0 (Zt 0) (XY (Zt 1) zq)) { nx:=fun _ H'=>Q V.non H',rt:=Q } [some (.ref d),some (.int (i:Int)),some (.ref c)] H2:=fun hbad=>by
    refine⟨_,rfl,d,dx,_,rfl,D2.ins,hno,_,rfl,_,_,i,rfl,rfl,?_⟩
    have e:XE S=some (xq i):=by
     rw[rule4_eq,Zl (p:=Jw S) (l:=S.pts) hi hbad (fun j hj=>hb j hj (by lia))];rfl
    have:=k H2 s2
    rw[e] at this
    exact this
   have good:Jw S i S.pts[i]=false→∃ v1 v2:Option V,[some (V.ref d),some (V.int (i:Int)),some (V.ref c)]=[some (.ref d),v1,v2]∧Qp H H2∧∀ j (hj:j<i+1) (hl:j<S.pts.length),Jw S j S.pts[j]=false:=fun hg=>by
    refine⟨_,_,rfl,s2,fun j hj hl=>?_⟩
    by_cases q:j=i
    ·subst q;exact hg
    ·exact hb j (by lia) hl
   refine⟨c,_,_,rfl,hp,_,rfl,d,C,dx,_,_,rfl,D2.ins,T.cl,T.nW,df_w _ _ _ _ _,_,_,rfl,rfl,_,rfl,Qz (fun h1=>qh (ret ?_)) (fun h1=>?_)⟩
   ·have h1:(S.w:Int)<S.pts[i].x:=of_decide_eq_true h1
    unfold Jw
    have:¬ S.pts[i].x≤S.w:=by lia
    simp[this]
   ·have h1:¬ (S.w:Int)<S.pts[i].x:=fun z=>h1 (decide_eq_true z)
    refine⟨c,_,_,rfl,hp,_,rfl,d,C,dx,_,_,rfl,D2.ins,T.cl,T.nH,df_h _ _ _ _ _,_,_,rfl,rfl,_,rfl,Qz (fun h2=>ret ?_) (fun h2=>?_)⟩
    ·have h2:(S.h:Int)<S.pts[i].y:=of_decide_eq_true h2
     unfold Jw
     have:¬ S.pts[i].y≤S.h:=by lia
     simp[this]
    ·have h2:¬ (S.h:Int)<S.pts[i].y:=fun z=>h2 (decide_eq_true z)
     have x1:S.pts[i].x≤S.w:=by lia
     have x2:S.pts[i].y≤S.h:=by lia
     refine⟨_,rfl,_,_,rfl,rfl,_,rfl,Qz (fun h3=>?_) (fun h3=>?_)⟩
     ·have h3:(0:Int)<i:=of_decide_eq_true h3
      obtain⟨c',hc',hp'⟩:=D2.ptAt (i:=i-1) (by lia)
      have eprev:S.pts[i-1]?=some (S.pts[i-1]'(by lia)):=yd _
      refine⟨_,rfl,_,rfl,d,C,dx,_,_,rfl,D2.ins,T.cl,T.nP,Xc _ _ _ _ _,_,rfl,_,_,rfl,rfl,lp,_,_,_,rfl,rfl,D2.pts.lst,at_of (j:=i-1) (v:=V.ref c') (by lia) (by rw[yi,hc'];rfl),c,c',_,_,rfl,hp,hp',_,rfl,Qz (fun h4=>ret ?_) (fun h4=>good ?_)⟩
      ·unfold Jw
       rw[eprev]
       have:0<i:=by lia
       simp[x1,x2,this]
       simpa using h4
      ·unfold Jw
       rw[eprev]
       have:0<i:=by lia
       simp[x1,x2]
       intro _
       simpa using h4
     ·have h3:¬ (0:Int)<i:=fun z=>h3 (decide_eq_true z)
      refine good ?_
      unfold Jw
      have:¬ 0<i:=by lia
      simp[x1,x2,this]
  ·rintro σ H1 ⟨v1,v2,rfl,s1,hb⟩
   have e:XE S=none:=by
    have:yH (Jw S) S.pts=none:=Pl.firstAt_none.2 fun i hi=>hb i (by rw[yc,D.pts.len,yc];exact hi) hi
    rw[rule4_eq,this];rfl
   have:=k H1 s1
   rw[e] at this
   exact this
theorem ok_lb{f:Addr}{fd:FuncData}(F:Fun K "line_comes_behind" "line_comes_behind" sLB f fd):QI P w K mg base CX0 1 f fd ["later","earlier"] (spLB K):=by
 refine F.ok scLB (fun vs H Q E h=>?_) (fun cdv A outer s H vs Q E hr h=>?_)
 ·obtain⟨a,b,p,q,rfl,_⟩:=h
  rfl
 ·obtain⟨a,b,p,q,rfl,ha,hb,k⟩:=h
  refine⟨_,Qb (QH (Qu Y3 (QR 0) (QR 1) (Qo _)) (Qe (Qi (QO Ze (QR 0) (QR 1) (Qo _)))) Qr)
   (Qe (Qi (QO Ze (Q0 0) (Q0 1) (Qo _)))),?_⟩
  refine⟨a,_,_,rfl,ha,b,_,_,rfl,hb,rfl,_,rfl,?_⟩
  unfold jq at k
  refine Qz (fun h=>?_) (fun h=>?_)
  ·have h:¬ (p.1:Int)=q.1:=by simpa using h
   refine⟨a,_,_,rfl,ha,b,_,_,rfl,hb,_,_,rfl,rfl,?_⟩
   have e:(decide (q.1<p.1) || q.1==p.1&&decide (q.2<p.2))=decide ((q.1:Int)<p.1):=by
    rw[yw];simp;lia
   rw[e] at k
   exact k
  ·have h:(p.1:Int)=q.1:=by simpa using h
   refine⟨a,_,_,rfl,ha,b,_,_,rfl,hb,_,_,rfl,rfl,?_⟩
   have e:(decide (q.1<p.1) || q.1==p.1&&decide (q.2<p.2))=decide ((q.2:Int)<p.2):=by
    rw[yw];simp;lia
   rw[e] at k
   exact k
theorem ok_wl{f:Addr}{fd:FuncData}(F:Fun K "wrong_line" "wrong_line" sWL f fd)(T:ZP K mg C)(U:Txt K mg) (M:Xh P w K mg base C 2 "line_place" ["self","number"] (spLP K C)) (B:Has P w K mg base 1 "line_comes_behind" ["later","earlier"] (spLB K)) :
  QI P w K mg base CX0 3 f fd ["drawing"] (Zv K C (fun _=>True) Xk):=by
 obtain⟨fm,fdm,hm,bm,G⟩:=M.ex
 refine F.ok scWL (fun vs H Q E h=>?_) (fun cdv A outer s H vs Q E hr h=>?_)
 ·obtain⟨d,S,dx,lp,ll,lm,ap,al,am,rfl,_⟩:=h
  rfl
 ·obtain⟨d,S,dx,lp,ll,lm,ap,al,am,rfl,D,_,k⟩:=h
  refine⟨_,Qb (QQ PassesOwn.never rfl (Yr rfl U.enum (Qa (QB (pv 0) rfl) Qc)) (ZM (n:=2) rfl (QK (Qv (i:=1) scWL.nd rfl (Or.inl rfl)) (QK (Qv (i:=2) scWL.nd rfl (Or.inl rfl)) Zj)))
    (Qb (QH (Yb (Qu op_ge (QR 2) (Q0 2) (Qo _)) (Z9 (Qu op_ge (Q0 2) (QL Qw (by rfl) U.len PySem.boot_len (Qa (QB (pv 0) rfl) Qc)) (Qo _)))).pt
     (Qe (Qi (Zd (pv 0) T.cl hm G hr bm .nil Zm (Qa (pv 1) Qc)))) Qr)
    (Qe (QH (Jm (Qu Ze (pv 1) Qg (Qo _)) (Ym (YM (Zf (Qt B (hr.mono (by decide)) (Qa (pv 2) (Qa (Qx QC (QB (pv 0) rfl) (QD Xu (pv 1) Qg) (fun _ _=>rfl)) Qc))))))).pt
     (Qe (Qi (Zd (pv 0) T.cl hm G hr bm .nil Zm (Qa (pv 1) Qc)))) Qr))))
   (Qe (Qi Q5)),?_⟩
  have hno:=ZY S.w S.h lp ll lm (m := "line_place") (by decide +kernel) (by decide +kernel) (by decide +kernel) (by decide +kernel) (by decide +kernel)
  refine⟨_,rfl,d,C,dx,_,_,rfl,D.ins,T.cl,T.nL,qo _ _ _ _ _,ll,_,rfl,D.lin.lst,XG (K:=K) (a:=ll) (xs:=al.map V.ref) (fun i σ H'=>∃ v1 v2:Option V,σ=[some (.ref d),v1,v2]∧Qp H H'∧∀ j (hj:j<i) (hl:j<S.lines.length),Jv S j S.lines[j]=false)
   ⟨none,none,rfl,Qp.refl H,fun j hj=>by lia⟩ (fun i σ H' _ ⟨_,_,_,s1,_⟩=>(D.same s1).lin.lst) ?_ ?_⟩
  ·rintro i x σ H1 H2 hx ⟨v1,v2,rfl,s1,hb⟩ s2'
   obtain⟨c,hc,rfl⟩:=Zn hx
   have s2:=s1.trans s2'
   have D2:=D.same s2
   obtain⟨hi,hp⟩:=D2.ln hc
   have ret:Jv S i S.lines[i]=true→tRet (qL C "line_place" (spLP K C) [] E0 (Zt 0) (XY (Zt 1) zq)) { nx:=fun _ H'=>Q V.non H',rt:=Q } [some (.ref d),some (.int (i:Int)),some (.ref c)] H2:=fun hbad=>by
    refine⟨_,rfl,d,dx,_,rfl,D2.ins,hno,_,rfl,d,_,i,S,dx,lp,ll,lm,ap,al,am,rfl,rfl,D2,?_⟩
    have e:Xk S=some (jK S i):=by
     rw[rule5_eq,Zl (p:=Jv S) (l:=S.lines) hi hbad (fun j hj=>hb j hj (by lia))];rfl
    have:=k H2 s2
    rw[e] at this
    exact this
   have good:Jv S i S.lines[i]=false→∃ v1 v2:Option V,[some (V.ref d),some (V.int (i:Int)),some (V.ref c)]=[some (.ref d),v1,v2]∧Qp H H2∧∀ j (hj:j<i+1) (hl:j<S.lines.length),Jv S j S.lines[j]=false:=fun hg=>by
    refine⟨_,_,rfl,s2,fun j hj hl=>?_⟩
    by_cases q:j=i
    ·subst q;exact hg
    ·exact hb j (by lia) hl
   have plen:((ap.map V.ref).length:Int)=S.pts.length:=by rw[yc,D.pts.len,yc]
   refine⟨c,_,_,rfl,hp,c,_,_,rfl,hp,_,_,rfl,rfl,_,rfl,Qz (fun h1=>qh (ret ?_)) (fun h1=>?_)⟩
   ·have h1:(S.lines[i].2:Int)≤S.lines[i].1:=of_decide_eq_true h1
    unfold Jv
    have:¬ S.lines[i].1<S.lines[i].2:=by lia
    simp[this]
   ·have h1:¬ (S.lines[i].2:Int)≤S.lines[i].1:=fun z=>h1 (decide_eq_true z)
    refine⟨c,_,_,rfl,hp,_,rfl,d,C,dx,_,_,rfl,D2.ins,T.cl,T.nP,Xc _ _ _ _ _,lp,_,rfl,.inl D2.pts.lst,_,_,rfl,rfl,_,rfl,Qz (fun h2=>ret ?_) (fun h2=>?_)⟩
    ·have h2:((ap.map V.ref).length:Int)≤S.lines[i].2:=of_decide_eq_true h2
     rw[plen] at h2
     unfold Jv
     have:¬ S.lines[i].2<S.pts.length:=by lia
     simp[this]
    ·have h2:¬ ((ap.map V.ref).length:Int)≤S.lines[i].2:=fun z=>h2 (decide_eq_true z)
     rw[plen] at h2
     have x1:S.lines[i].1<S.lines[i].2:=by lia
     have x2:S.lines[i].2<S.pts.length:=by lia
     refine⟨_,rfl,_,_,rfl,rfl,_,rfl,Qz (fun h3=>?_) (fun h3=>?_)⟩
     ·have h3:(0:Int)<i:=of_decide_eq_true h3
      obtain⟨c',hc',hp'⟩:=D2.lnAt (i:=i-1) (by lia)
      have eprev:S.lines[i-1]?=some (S.lines[i-1]'(by lia)):=yd _
      refine⟨_,rfl,_,rfl,d,C,dx,_,_,rfl,D2.ins,T.cl,T.nL,qo _ _ _ _ _,_,rfl,_,_,rfl,rfl,ll,_,_,_,rfl,rfl,D2.lin.lst,at_of (j:=i-1) (v:=V.ref c') (by lia) (by rw[yi,hc'];rfl),c,c',_,_,rfl,hp,hp',_,rfl,Qz (fun h4=>ret ?_) (fun h4=>good ?_)⟩
      ·unfold Jv
       rw[eprev]
       have:0<i:=by lia
       simp[x1,x2,this]
       simpa using h4
      ·unfold Jv
       rw[eprev]
       have:0<i:=by lia
       simp[x1,x2]
       intro _
       simpa using h4
     ·have h3:¬ (0:Int)<i:=fun z=>h3 (decide_eq_true z)
      refine good ?_
      unfold Jv
      have:¬ 0<i:=by lia
      simp[x1,x2,this]
  ·rintro σ H1 ⟨v1,v2,rfl,s1,hb⟩
   have e:Xk S=none:=by
    have:yH (Jv S) S.lines=none:=Pl.firstAt_none.2 fun i hi=>hb i (by rw[yc,D.lin.len];exact hi) hi
    rw[rule5_eq,this];rfl
   have:=k H1 s1
   rw[e] at this
   exact this
end
end Gp
set_option Elab.async false
set_option linter.all false
set_option maxRecDepth 100000
namespace Gp
open PySem PySem.Spec PyProof.Rows L2
open Gla (Pt Plan)
structure Ok5(S:Plan):Prop where
 lin:Z3 S
 siz:XV S
 srt:∀(i j:Nat)(_:i<j)(hj:j<S.pts.length),(S.pts[i]).below S.pts[j]=true
 sm:∀ p∈S.pts,Sm p
 smm:∀ m∈S.marks,Sm m.at_
theorem qp{xs:List V}{p q:Nat}:Z0 xs (some (p:Int)) (some (q:Int))=(xs.drop p).take (q-p):=by
 unfold Z0
 rw[HT.sIx_nat,HT.sIx_nat]
 by_cases h:p≤xs.length
 ·rw[x9 h,Gv,yG]
  lia
 ·rw[jz (as:=xs) (i:=min p xs.length) (by lia),jz (as:=xs) (i:=p) (by lia)]
  simp
theorem Jc{xs:List V}{q:Nat}:Z0 xs none (some (q:Int))=xs.take q:=by
 unfold Z0
 rw[HT.sIx_nat,HT.sIx_none,xw,Uf,Gv]
 lia
def zf(S:Plan)(l:Nat×Nat):Bool:=(yj S.pts.length).any fun (k:Nat)=>k != l.1&&(k != l.2&&jw (S.pt l.1) (S.pt l.2) (S.pt k))
def hasX(S:Plan)(i:Nat)(l:Nat×Nat):Bool:=(S.lines.take i).any fun (m:Nat×Nat)=>jb (S.pt l.1) (S.pt l.2) (S.pt m.1) (S.pt m.2)
theorem YH(S:Plan)(i:Nat)(l:Nat×Nat):xo S i l=(zf S l || hasX S i l):=rfl
def X1(S:Plan):Option Nat:=(yH (xo S) S.lines).map (jK S)
def spHP(K:z8)(C:Addr):Sp:=fun vs H Q _=>∃(d a:Addr)(l:Nat×Nat)(S:Plan)(dx lp ll lm:Addr)(ap al am:List Addr),vs=[.ref d,.ref a]∧Dw K C H d S dx lp ll lm ap al am∧SqT K H a [.int (l.1:Int),.int (l.2:Int)]∧l.1<l.2∧l.2<S.pts.length∧Ok5 S∧
 ∀ H',Qp H H'→Q (.bl (zf S l)) H'
def spCE(K:z8)(C:Addr):Sp:=fun vs H Q _=>∃(d:Addr)(n:Int)(i:Nat)(S:Plan)(dx lp ll lm:Addr)(ap al am:List Addr),vs=[.ref d,.int n]∧n=(i:Int)∧Dw K C H d S dx lp ll lm ap al am∧Ok5 S∧
 ∃ h:i<S.lines.length,∀ H',Qp H H'→Q (.bl (hasX S i S.lines[i])) H'
abbrev sHP:Stmt:=top 27
abbrev sCE:Stmt:=top 28
abbrev sEL:Stmt:=top 29
theorem scHP:Qm ["drawing","line","start","end","point"] ["drawing","line"] (defScope sHP):=⟨rfl,rfl,rfl,by decide +kernel,rfl,by decide +kernel,by decide +kernel⟩
theorem scCE:Qm ["drawing","number","line","start","end","other"] ["drawing","number"] (defScope sCE):=⟨rfl,rfl,rfl,by decide +kernel,rfl,by decide +kernel,by decide +kernel⟩
theorem scEL:Qm ["drawing","number","line"] ["drawing"] (defScope sEL):=⟨rfl,rfl,rfl,by decide +kernel,rfl,by decide +kernel,by decide +kernel⟩
section
variable {P:Program} {w:World} {K:z8} {mg:Str→Option Value} {base:Heap} {C:Addr}
theorem ok_hp{f:Addr}{fd:FuncData}(F:Fun K "holds_point" "holds_point" sHP f fd)(T:ZP K mg C) (B:Has P w K mg base 2 "is_on" ["point","start","end"] (spOn K)) :
  QI P w K mg base CX0 3 f fd ["drawing","line"] (spHP K C):=by
 refine F.ok scHP (fun vs H Q E h=>?_) (fun cdv A outer s H vs Q E hr h=>?_)
 ·obtain⟨d,a,l,S,dx,lp,ll,lm,ap,al,am,rfl,_⟩:=h
  rfl
 ·obtain⟨d,a,l,S,dx,lp,ll,lm,ap,al,am,rfl,D,hL,h1,h2,O,k⟩:=h
  refine⟨_,Qb (Qs (i:=2) scHP.nd rfl (Or.inl rfl) (Qx QC (QB (pv 0) rfl) (QR 1) (fun _ _=>rfl)))
   (Qb (Qs (i:=3) scHP.nd rfl (Or.inl rfl) (Qx QC (QB (pv 0) rfl) (Q0 1) (fun _ _=>rfl)))
   (Qb (QQ PassesOwn.never rfl (Q6 (Zo ZQ (QB (pv 0) rfl) (Zc (QD QU (QR 1) Qg)) (Zc (Q0 1)))) (Qv (i:=4) scHP.nd rfl (Or.inl rfl))
    (Qe (QH (Zf (Qt B hr (Qa (pv 4) (Qa (pv 2) (Qa (pv 3) Qc))))) (Qe (Qi Xl)) Qr)))
   (Qe (Qi Xl)))),?_⟩
  obtain⟨c1,hc1,hp1⟩:=D.ptAt (i:=l.1) (by lia)
  obtain⟨c2,hc2,hp2⟩:=D.ptAt (i:=l.2) h2
  refine⟨_,rfl,d,C,dx,_,_,rfl,D.ins,T.cl,T.nP,Xc _ _ _ _ _,a,_,_,rfl,hL,lp,_,_,_,rfl,rfl,D.pts.lst,Qj (j:=l.1) (v:=V.ref c1) (by rw[yi,hc1];rfl),?_⟩
  refine⟨_,rfl,d,C,dx,_,_,rfl,D.ins,T.cl,T.nP,Xc _ _ _ _ _,a,_,_,rfl,hL,lp,_,_,_,rfl,rfl,D.pts.lst,Qj (j:=l.2) (v:=V.ref c2) (by rw[yi,hc2];rfl),?_⟩
  refine⟨_,rfl,d,C,dx,_,_,rfl,D.ins,T.cl,T.nP,Xc _ _ _ _ _,a,_,_,rfl,hL,_,_,rfl,rfl,_,rfl,a,_,_,rfl,hL,_,rfl,lp,_,rfl,D.pts.lst,fun q hq=>?_⟩
  have ec:Z0 (ap.map V.ref) (some ((l.1:Int)+1)) (some (l.2:Int))=((ap.drop (l.1+1)).take (l.2-(l.1+1))).map V.ref:=by
   rw[show (l.1:Int)+1=((l.1+1:Nat):Int) by lia,qp,jW,xO]
  rw[ec]
  have s0:=Ql (.lst (((ap.drop (l.1+1)).take (l.2-(l.1+1))).map V.ref)) hq
  have apl:ap.length=S.pts.length:=by have:=D.pts.len;rwa [yc] at this
  have xl:(((ap.drop (l.1+1)).take (l.2-(l.1+1))).map V.ref).length=l.2-(l.1+1):=by
   rw[yc,yB,yG];lia
  refine⟨q,rfl,⟨_,SqL.of Qh⟩,Zq (K:=K) (a:=q) (xs:=((ap.drop (l.1+1)).take (l.2-(l.1+1))).map V.ref) (fun i σ H'=>∃ v4:Option V,σ=[some (.ref d),some (.ref a),some (.ref c1),some (.ref c2),v4]∧Qp H H'∧H' q=some (.lst (((ap.drop (l.1+1)).take (l.2-(l.1+1))).map V.ref))∧
    ∀ j,j<i→l.1+1+j<l.2→jw (S.pt l.1) (S.pt l.2) (S.pt (l.1+1+j))=false)
   ⟨none,rfl,s0,Qh,fun j hj=>by lia⟩ (fun i σ H' _ ⟨_,_,_,h,_⟩=>SqL.of h) ?_ ?_⟩
  ·rintro i x σ H1 hx ⟨v4,rfl,s1,hq1,hb⟩
   obtain⟨c,hc,rfl⟩:=Zn hx
   have hil:i<l.2-(l.1+1):=by
    have:=(List.getElem?_eq_some_iff.1 hx).1
    rw[xl] at this;exact this
   have hc':ap[l.1+1+i]?=some c:=by
    rw[xZ hil,List.getElem?_drop] at hc
    exact hc
   have D1:=D.same s1
   obtain⟨hk,hp⟩:=D1.pt hc'
   refine⟨_,rfl,_,rfl,_,rfl,c,c1,c2,S.pts[l.1+1+i],S.pts[l.1]'(by lia),S.pts[l.2],rfl,hp,Qp.tup s1 hp1,Qp.tup s1 hp2,O.sm _ (yo _),O.sm _ (yo _),O.sm _ (yo _),_,rfl,Qz (fun h3=>?_) (fun h3=>?_)⟩
   ·have e:zf S l=true:=by
     unfold zf
     rw[xz]
     refine⟨l.1+1+i,List.mem_range.2 hk,?_⟩
     rw[Pl.pt_eq (i:=l.1) (by lia),Pl.pt_eq h2,Pl.pt_eq hk,h3]
     have x1:(l.1+1+i != l.1)=true:=by simp;lia
     have x2:(l.1+1+i != l.2)=true:=by simp;lia
     rw[x1,x2];rfl
    have:=k H1 s1
    rw[e] at this
    exact this
   ·refine⟨_,rfl,s1,hq1,fun j hj hjl=>?_⟩
    by_cases qj:j=i
    ·subst qj
     rw[Pl.pt_eq (i:=l.1) (by lia),Pl.pt_eq h2,Pl.pt_eq hk]
     simpa using h3
    ·exact hb j (by lia) hjl
  ·rintro σ H1 ⟨v4,rfl,s1,hq1,hb⟩
   rw[xl] at hb
   have e:zf S l=false:=by
    unfold zf
    rw[jO]
    intro m hm
    have hm:=List.mem_range.1 hm
    by_cases x1:m=l.1
    ·simp[x1]
    ·by_cases x2:m=l.2
     ·simp[x2]
     ·simp only[yk,not_and]
      intro _ _ hon
      have bt:=Pl.on_between O.srt h1 h2 hm hon
      have:=hb (m-(l.1+1)) (by lia) (by lia)
      rw[show l.1+1+(m-(l.1+1))=m by lia,hon] at this
      cases this
   have:=k H1 s1
   rw[e] at this
   exact this
theorem ok_ce{f:Addr}{fd:FuncData}(F:Fun K "crosses_earlier" "crosses_earlier" sCE f fd)(T:ZP K mg C) (B:Has P w K mg base 3 "crosses" ["start","end","other_start","other_end"] (zw K)) :
  QI P w K mg base CX0 4 f fd ["drawing","number"] (spCE K C):=by
 refine F.ok scCE (fun vs H Q E h=>?_) (fun cdv A outer s H vs Q E hr h=>?_)
 ·obtain⟨d,n,i,S,dx,lp,ll,lm,ap,al,am,rfl,_⟩:=h
  rfl
 ·obtain⟨d,n,i,S,dx,lp,ll,lm,ap,al,am,rfl,rfl,D,O,hi,k⟩:=h
  refine⟨_,Qb (Qs (i:=2) scCE.nd rfl (Or.inl rfl) (Qx QC (QB (pv 0) rfl) (pv 1) (fun _ _=>rfl)))
   (Qb (Qs (i:=3) scCE.nd rfl (Or.inl rfl) (Qx QC (QB (pv 0) rfl) (QR 2) (fun _ _=>rfl)))
   (Qb (Qs (i:=4) scCE.nd rfl (Or.inl rfl) (Qx QC (QB (pv 0) rfl) (Q0 2) (fun _ _=>rfl)))
   (Qb (QQ PassesOwn.never rfl (Q6 (Zo ZQ (QB (pv 0) rfl) Yo (Zc (pv 1)))) (Qv (i:=5) scCE.nd rfl (Or.inl rfl))
    (Qe (QH (Zf (Qt B hr (Qa (pv 3) (Qa (pv 4) (Qa (Qx QC (QB (pv 0) rfl) (QR 5) (fun _ _=>rfl)) (Qa (Qx QC (QB (pv 0) rfl) (Q0 5) (fun _ _=>rfl)) Qc)))))) (Qe (Qi Xl)) Qr)))
   (Qe (Qi Xl))))),?_⟩
  obtain⟨a,ha,hL⟩:=D.lnAt hi
  obtain⟨h1,h2⟩:=O.lin S.lines[i] (yo hi)
  obtain⟨c1,hc1,hp1⟩:=D.ptAt (i:=S.lines[i].1) (by lia)
  obtain⟨c2,hc2,hp2⟩:=D.ptAt (i:=S.lines[i].2) h2
  refine⟨_,rfl,d,C,dx,_,_,rfl,D.ins,T.cl,T.nL,qo _ _ _ _ _,_,rfl,ll,_,_,_,rfl,rfl,D.lin.lst,Qj (j:=i) (v:=V.ref a) (by rw[yi,ha];rfl),?_⟩
  refine⟨_,rfl,d,C,dx,_,_,rfl,D.ins,T.cl,T.nP,Xc _ _ _ _ _,a,_,_,rfl,hL,lp,_,_,_,rfl,rfl,D.pts.lst,Qj (j:=S.lines[i].1) (v:=V.ref c1) (by rw[yi,hc1];rfl),?_⟩
  refine⟨_,rfl,d,C,dx,_,_,rfl,D.ins,T.cl,T.nP,Xc _ _ _ _ _,a,_,_,rfl,hL,lp,_,_,_,rfl,rfl,D.pts.lst,Qj (j:=S.lines[i].2) (v:=V.ref c2) (by rw[yi,hc2];rfl),?_⟩
  refine⟨_,rfl,d,C,dx,_,_,rfl,D.ins,T.cl,T.nL,qo _ _ _ _ _,_,rfl,_,rfl,ll,_,rfl,D.lin.lst,fun q hq=>?_⟩
  have ec:Z0 (al.map V.ref) none (some (i:Int))=(al.take i).map V.ref:=by rw[Jc,jW]
  rw[ec]
  have s0:=Ql (.lst ((al.take i).map V.ref)) hq
  have all:al.length=S.lines.length:=D.lin.len
  have xl:((al.take i).map V.ref).length=i:=by rw[yc,yB];lia
  refine⟨q,rfl,⟨_,SqL.of Qh⟩,Zq (K:=K) (a:=q) (xs:=(al.take i).map V.ref) (fun j σ H'=>∃ v5:Option V,σ=[some (.ref d),some (.int (i:Int)),some (.ref a),some (.ref c1),some (.ref c2),v5]∧Qp H H'∧H' q=some (.lst ((al.take i).map V.ref))∧
    ∀ m,m<j→(hm:m<S.lines.length)→jb (S.pt S.lines[i].1) (S.pt S.lines[i].2) (S.pt S.lines[m].1) (S.pt S.lines[m].2)=false)
   ⟨none,rfl,s0,Qh,fun j hj=>by lia⟩ (fun i σ H' _ ⟨_,_,_,h,_⟩=>SqL.of h) ?_ ?_⟩
  ·rintro j x σ H1 hx ⟨v5,rfl,s1,hq1,hb⟩
   obtain⟨c,hc,rfl⟩:=Zn hx
   have hj:j<i:=by
    have:=(List.getElem?_eq_some_iff.1 hx).1
    rw[xl] at this;exact this
   have hc':al[j]?=some c:=by rw[xZ hj] at hc;exact hc
   have D1:=D.same s1
   obtain⟨hk,hm⟩:=D1.ln hc'
   obtain⟨g1,g2⟩:=O.lin S.lines[j] (yo hk)
   obtain⟨e1,he1,hq1'⟩:=D1.ptAt (i:=S.lines[j].1) (by lia)
   obtain⟨e2,he2,hq2'⟩:=D1.ptAt (i:=S.lines[j].2) g2
   refine⟨_,rfl,_,rfl,_,rfl,d,C,dx,_,_,rfl,D1.ins,T.cl,T.nP,Xc _ _ _ _ _,c,_,_,rfl,hm,lp,_,_,_,rfl,rfl,D1.pts.lst,Qj (j:=S.lines[j].1) (v:=V.ref e1) (by rw[yi,he1];rfl),
    _,rfl,d,C,dx,_,_,rfl,D1.ins,T.cl,T.nP,Xc _ _ _ _ _,c,_,_,rfl,hm,lp,_,_,_,rfl,rfl,D1.pts.lst,Qj (j:=S.lines[j].2) (v:=V.ref e2) (by rw[yi,he2];rfl),
    c1,c2,e1,e2,S.pts[S.lines[i].1]'(by lia),S.pts[S.lines[i].2],S.pts[S.lines[j].1]'(by lia),S.pts[S.lines[j].2],rfl,Qp.tup s1 hp1,Qp.tup s1 hp2,hq1',hq2',O.sm _ (yo _),O.sm _ (yo _),O.sm _ (yo _),O.sm _ (yo _),_,rfl,Qz (fun h3=>?_) (fun h3=>?_)⟩
   ·have e:hasX S i S.lines[i]=true:=by
     unfold hasX
     rw[xz]
     refine⟨S.lines[j],List.mem_iff_getElem.2 ⟨j,by rw[yB];lia,by simp⟩,?_⟩
     rw[Pl.pt_eq (i:=S.lines[i].1) (by lia),Pl.pt_eq h2,Pl.pt_eq (i:=S.lines[j].1) (by lia),Pl.pt_eq g2]
     exact h3
    have:=k H1 s1
    rw[e] at this
    exact this
   ·refine⟨_,rfl,s1,hq1,fun m hm hml=>?_⟩
    by_cases qj:m=j
    ·subst qj
     rw[Pl.pt_eq (i:=S.lines[i].1) (by lia),Pl.pt_eq h2,Pl.pt_eq (i:=S.lines[m].1) (by lia),Pl.pt_eq g2]
     simpa using h3
    ·exact hb m (by lia) hml
  ·rintro σ H1 ⟨v5,rfl,s1,hq1,hb⟩
   rw[xl] at hb
   have e:hasX S i S.lines[i]=false:=by
    unfold hasX
    rw[jO]
    intro m hm
    obtain⟨j,hj,rfl⟩:=List.mem_iff_getElem.1 hm
    rw[yB] at hj
    have:=hb j (by lia) (by lia)
    simpa using this
   have:=k H1 s1
   rw[e] at this
   exact this
theorem ok_el{f:Addr}{fd:FuncData}(F:Fun K "entangled_line" "entangled_line" sEL f fd)(T:ZP K mg C)(U:Txt K mg) (M:Xh P w K mg base C 2 "line_place" ["self","number"] (spLP K C)) (B1:Has P w K mg base 3 "holds_point" ["drawing","line"] (spHP K C)) (B2:Has P w K mg base 4 "crosses_earlier" ["drawing","number"] (spCE K C)) :
  QI P w K mg base CX0 5 f fd ["drawing"] (Zv K C Ok5 X1):=by
 obtain⟨fm,fdm,hm,bm,G⟩:=M.ex
 refine F.ok scEL (fun vs H Q E h=>?_) (fun cdv A outer s H vs Q E hr h=>?_)
 ·obtain⟨d,S,dx,lp,ll,lm,ap,al,am,rfl,_⟩:=h
  rfl
 ·obtain⟨d,S,dx,lp,ll,lm,ap,al,am,rfl,D,O,k⟩:=h
  refine⟨_,Qb (QQ PassesOwn.never rfl (Yr rfl U.enum (Qa (QB (pv 0) rfl) Qc)) (ZM (n:=2) rfl (QK (Qv (i:=1) scEL.nd rfl (Or.inl rfl)) (QK (Qv (i:=2) scEL.nd rfl (Or.inl rfl)) Zj)))
    (Qe (QH (Yb (Zf (Qt B1 (hr.mono (by decide)) (Qa (pv 0) (Qa (pv 2) Qc)))) (Z9 (Zf (Qt B2 hr (Qa (pv 0) (Qa (pv 1) Qc)))))).pt
     (Qe (Qi (Zd (pv 0) T.cl hm G (hr.mono (by decide)) bm .nil Zm (Qa (pv 1) Qc)))) Qr)))
   (Qe (Qi Q5)),?_⟩
  have hno:=ZY S.w S.h lp ll lm (m := "line_place") (by decide +kernel) (by decide +kernel) (by decide +kernel) (by decide +kernel) (by decide +kernel)
  refine⟨_,rfl,d,C,dx,_,_,rfl,D.ins,T.cl,T.nL,qo _ _ _ _ _,ll,_,rfl,D.lin.lst,XG (K:=K) (a:=ll) (xs:=al.map V.ref) (fun i σ H'=>∃ v1 v2:Option V,σ=[some (.ref d),v1,v2]∧Qp H H'∧∀ j (hj:j<i) (hl:j<S.lines.length),xo S j S.lines[j]=false)
   ⟨none,none,rfl,Qp.refl H,fun j hj=>by lia⟩ (fun i σ H' _ ⟨_,_,_,s1,_⟩=>(D.same s1).lin.lst) ?_ ?_⟩
  ·rintro i x σ H1 H2 hx ⟨v1,v2,rfl,s1,hb⟩ s2'
   obtain⟨c,hc,rfl⟩:=Zn hx
   have s2:=s1.trans s2'
   have D2:=D.same s2
   obtain⟨hi,hp⟩:=D2.ln hc
   obtain⟨h1,h2⟩:=O.lin S.lines[i] (yo hi)
   have ret:∀ H3,Qp H H3→xo S i S.lines[i]=true→tRet (qL C "line_place" (spLP K C) [] E0 (Zt 0) (XY (Zt 1) zq)) { nx:=fun _ H'=>Q V.non H',rt:=Q } [some (.ref d),some (.int (i:Int)),some (.ref c)] H3:=fun H3 s3 hbad=>by
    have D3:=D.same s3
    refine⟨_,rfl,d,dx,_,rfl,D3.ins,hno,_,rfl,d,_,i,S,dx,lp,ll,lm,ap,al,am,rfl,rfl,D3,?_⟩
    have e:X1 S=some (jK S i):=by
     unfold X1
     rw[Zl (p:=xo S) (l:=S.lines) hi hbad (fun j hj=>hb j hj (by lia))];rfl
    have:=k H3 s3
    rw[e] at this
    exact this
   refine⟨_,rfl,_,rfl,d,c,S.lines[i],S,dx,lp,ll,lm,ap,al,am,rfl,D2,hp,h1,h2,O,fun H3 s3'=>⟨_,rfl,Qz (fun h3=>qh (ret H3 (s2.trans s3') ?_)) (fun h3=>?_)⟩⟩
   ·rw[YH,h3];rfl
   ·have s3:=s2.trans s3'
    refine⟨_,rfl,_,rfl,d,_,i,S,dx,lp,ll,lm,ap,al,am,rfl,rfl,D.same s3,O,hi,fun H4 s4'=>⟨_,rfl,Qz (fun h4=>ret H4 (s3.trans s4') ?_) (fun h4=>?_)⟩⟩
    ·rw[YH,h4];simp
    ·refine⟨_,_,rfl,s3.trans s4',fun j hj hl=>?_⟩
     by_cases qj:j=i
     ·subst qj
      rw[YH]
      simp only[Bool.not_eq_true] at h3 h4
      rw[h3,h4];rfl
     ·exact hb j (by lia) hl
  ·rintro σ H1 ⟨v1,v2,rfl,s1,hb⟩
   have e:X1 S=none:=by
    have:yH (xo S) S.lines=none:=Pl.firstAt_none.2 fun i hi=>hb i (by rw[yc,D.lin.len];exact hi) hi
    unfold X1
    rw[this];rfl
   have:=k H1 s1
   rw[e] at this
   exact this
end
end Gp
set_option Elab.async false
set_option linter.all false
set_option maxRecDepth 100000
namespace Gp
open PySem PySem.Spec PyProof.Rows L2
open Gla (Pt Plan)
theorem Za{n i:Nat}{p:Nat→Bool}(hi:i<n)(h:p i=true)(hb:∀ j,j<i→p j=false):(yj n).find? p=some i:=by
 rw[xx]
 refine⟨h,i,by simpa using hi,by simp,?_⟩
 intro j hj
 simp[hb j hj]
theorem Zs{n:Nat}{p:Nat→Bool}(h:∀ i,i<n→p i=false):(yj n).find? p=none:=by
 rw[y6]
 intro i hi
 rw[h i (List.mem_range.1 hi)];simp
def X0(S:Plan):Option Nat:=((yj S.pts.length).find? fun (i:Nat)=>decide ((S.near i).length<2)).map xq
def XZ(S:Plan):Option Nat:=((yj S.pts.length).find? fun (i:Nat)=>!((xL S.nears S.pts.length 0 (yC S.pts.length)).getD i false)).map xq
def ZC(S:Plan):Option Nat:=((yj S.pts.length).find? (Gs S.nears S.pts.length)).map xq
def kvs(fk:List Nat):List (Key×V):=fk.map (fun (n:Nat)=>(Sum.inl (n:Int),V.bl true))
theorem Y6(fk:List Nat)(n:Nat):(Xr (kvs fk) (Sum.inl (n:Int))).isSome=decide (n∈fk):=by
 rw[←X7]
 unfold kvs
 rw[Gh,yw,xz,decide_eq_true_eq]
 constructor
 ·rintro⟨m,hm,e⟩
  have e:(Sum.inl (m:Int):Key)=Sum.inl (n:Int):=of_decide_eq_true e
  have:(m:Int)=n:=Sum.inl.inj e
  have:m=n:=by lia
  subst this;exact hm
 ·intro h
  exact⟨n,h,decide_eq_true rfl⟩
theorem kvs_put{fk:List Nat}{n:Nat}(h:n∉fk):XF (kvs fk) (Sum.inl (n:Int)) (V.bl true)=kvs (fk++[n]):=by
 have hv:Xr (kvs fk) (Sum.inl (n:Int))=none:=by
  have:=Y6 fk n
  rw[decide_eq_false h] at this
  cases e:Xr (kvs fk) (Sum.inl (n:Int)) with
  | none=>rfl
  | some v=>rw[e] at this;cases this
 rw[putK_new _ hv]
 simp[kvs]
theorem JS{S:Plan}(hL:Z3 S){v j:Nat}(h:j∈S.near v):j<S.pts.length:=by
 unfold Plan.near at h
 obtain⟨l,hl,e⟩:=List.mem_filterMap.1 h
 obtain⟨h1,h2⟩:=hL l hl
 by_cases q:l.1=v
 ·rw[if_pos q] at e;have:=Option.some.inj e;lia
 ·rw[if_neg q] at e
  by_cases q2:l.2=v
  ·rw[if_pos q2] at e;have:=Option.some.inj e;lia
  ·rw[if_neg q2] at e;cases e
def YS(n:Nat)(br:Int)(st:Nat):Array Bool:=(if 0≤br then (yC n).setIfInBounds br.toNat true else yC n).setIfInBounds st true
def JN(K:z8):Sp:=fun vs H Q _=>∃(b:Addr)(as:List Addr)(S:Plan)(i br:Int)(st:Nat),vs=[.ref b,.int i,.int br]∧i=(st:Int)∧qB K H b as S∧Z3 S∧XV S∧st<S.pts.length∧(st:Int)≠br∧
 ∀ H' g fk seen,Qp H H'→H' g=some (.dK (kvs fk))→Pl.SRel S.pts.length br [] fk [] seen→seen=jB S.nears (S.pts.length+1) [st] (YS S.pts.length br st)→Q (.ref g) H'
abbrev sLoose:Stmt:=top 45
abbrev sReach:Stmt:=top 46
abbrev sUnr:Stmt:=top 47
abbrev sPart:Stmt:=top 48
theorem zB:Qm ["drawing","number","others"] ["drawing"] (defScope sLoose):=⟨rfl,rfl,rfl,by decide +kernel,rfl,by decide +kernel,by decide +kernel⟩
theorem Y0:Qm ["beside","start","barred","found","waiting","here","there"] ["beside","start","barred"] (defScope sReach):=⟨rfl,rfl,rfl,by decide +kernel,rfl,by decide +kernel,by decide +kernel⟩
theorem scUnr:Qm ["drawing","found","number"] ["drawing"] (defScope sUnr):=⟨rfl,rfl,rfl,by decide +kernel,rfl,by decide +kernel,by decide +kernel⟩
theorem zA:Qm ["drawing","beside","number","start"] ["drawing"] (defScope sPart):=⟨rfl,rfl,rfl,by decide +kernel,rfl,by decide +kernel,by decide +kernel⟩
theorem spread_nil (near:Array (List Nat)):∀(m:Nat)(seen:Array Bool),jB near m [] seen=seen
 | 0,_=>rfl
 | _+1,_=>rfl
section
variable {P:Program} {w:World} {K:z8} {mg:Str→Option Value} {base:Heap} {C:Addr}
theorem ok_loose{f:Addr}{fd:FuncData}(F:Fun K "loose_point" "loose_point" sLoose f fd)(T:ZP K mg C)(U:Txt K mg)(M:Xh P w K mg base C 1 "point_place" ["self","number"] spPP) (N:Xh P w K mg base C 1 "neighbours" ["self"] (spNb K C)) :
  QI P w K mg base CX0 2 f fd ["drawing"] (Zv K C (fun S=>Z3 S∧XV S) X0):=by
 obtain⟨fm,fdm,hm,bm,G⟩:=M.ex
 obtain⟨fn,fdn,hn,bn,GN⟩:=N.ex
 refine F.ok zB (fun vs H Q E h=>?_) (fun cdv A outer s H vs Q E hr h=>?_)
 ·obtain⟨d,S,dx,lp,ll,lm,ap,al,am,rfl,_⟩:=h
  rfl
 ·obtain⟨d,S,dx,lp,ll,lm,ap,al,am,rfl,D,⟨hL,hZ⟩,k⟩:=h
  refine⟨_,Qb (QQ PassesOwn.never rfl (Yr rfl U.enum (Qa (Yd (pv 0) T.cl hn GN hr bn .nil Zm) Qc)) (ZM (n:=2) rfl (QK (Qv (i:=1) zB.nd rfl (Or.inl rfl)) (QK (Qv (i:=2) zB.nd rfl (Or.inl rfl)) Zj)))
    (Qe (QH (Qu ZL (QL Qw (by rfl) U.len PySem.boot_len (Qa (pv 2) Qc)) Qg (Qo _))
     (Qe (Qi (Zd (pv 0) T.cl hm G hr bm .nil Zm (Qa (pv 1) Qc)))) Qr)))
   (Qe (Qi Q5)),?_⟩
  have hno:=ZY S.w S.h lp ll lm (m := "point_place") (by decide +kernel) (by decide +kernel) (by decide +kernel) (by decide +kernel) (by decide +kernel)
  have hno2:=ZY S.w S.h lp ll lm (m := "neighbours") (by decide +kernel) (by decide +kernel) (by decide +kernel) (by decide +kernel) (by decide +kernel)
  refine⟨_,rfl,d,dx,_,rfl,D.ins,hno2,d,S,dx,lp,ll,lm,ap,al,am,rfl,D,hL,hZ,fun H1 b as s1 B=>?_⟩
  have Lx:(as.map V.ref).length=S.pts.length:=by rw[yc,B.len]
  refine⟨b,_,rfl,B.lst,XG (K:=K) (a:=b) (xs:=as.map V.ref) (fun i σ H'=>∃ v1 v2:Option V,σ=[some (.ref d),v1,v2]∧Qp H1 H'∧∀ j,j<i→decide ((S.near j).length<2)=false)
   ⟨none,none,rfl,Qp.refl _,fun j hj=>by lia⟩ (fun i σ H' _ ⟨_,_,_,s2,_⟩=>s2.seq B.lst) ?_ ?_⟩
  ·rintro i x σ H2 H3 hx ⟨v1,v2,rfl,s2,hb⟩ s3'
   obtain⟨c,hc,rfl⟩:=Zn hx
   have s3:=s2.trans s3'
   have hi:i<S.pts.length:=by rw[←B.len];exact (List.getElem?_eq_some_iff.1 hc).1
   have hl:=s3.seq (B.at_ i c hc)
   have nl:((ni (S.near i)).length:Int)=(S.near i).length:=by simp[ni]
   refine⟨_,rfl,c,_,rfl,.inl hl,_,_,rfl,rfl,_,rfl,Qz (fun h1=>?_) (fun h1=>?_)⟩
   ·have h1:((ni (S.near i)).length:Int)<2:=of_decide_eq_true h1
    rw[nl] at h1
    have s4:=s1.trans s3
    refine⟨_,rfl,d,dx,_,rfl,(D.same s4).ins,hno,_,rfl,_,_,i,rfl,rfl,?_⟩
    have e:X0 S=some (xq i):=by
     unfold X0
     rw[Za hi (decide_eq_true (by lia)) hb];rfl
    have:=k H3 s4
    rw[e] at this
    exact this
   ·have h1:¬ ((ni (S.near i)).length:Int)<2:=fun z=>h1 (decide_eq_true z)
    rw[nl] at h1
    refine⟨_,_,rfl,s3,fun j hj=>?_⟩
    by_cases q:j=i
    ·subst q;exact decide_eq_false (by lia)
    ·exact hb j (by lia)
  ·rintro σ H2 ⟨v1,v2,rfl,s2,hb⟩
   rw[Lx] at hb
   have e:X0 S=none:=by
    unfold X0
    rw[Zs hb];rfl
   have:=k H2 (s1.trans s2)
   rw[e] at this
   exact this
theorem ok_reach{f:Addr}{fd:FuncData}(F:Fun K "reached" "reached" sReach f fd)(U:Txt K mg):QI P w K mg base CX0 1 f fd ["beside","start","barred"] (JN K):=by
 refine F.ok Y0 (fun vs H Q E h=>?_) (fun cdv A outer s H vs Q E hr h=>?_)
 ·obtain⟨b,as,S,i,br,st,rfl,_⟩:=h
  rfl
 ·obtain⟨b,as,S,i,br,st,rfl,rfl,B,hL,hZ,hst,hsb,k⟩:=h
  have hu:=hu_of hr
  refine⟨_,Qb (Qs (i:=3) Y0.nd rfl (Or.inl rfl) (pe_disp (pps_cons (pv 1) Xl pps_nil) rfl rfl (by simp) (by decide)))
   (Qb (Qs (i:=4) Y0.nd rfl (Or.inl rfl) (ZD (Qa (pv 1) Qc)))
   (Qb (J9 PassesOwn.never (Qu Ze (QL Qw (by rfl) U.len PySem.boot_len (Qa (pv 4) Qc)) Qg (Qo _))
    (Qb (Qs (i:=5) Y0.nd rfl (Or.inl rfl) (pe_bm0 jg PySem.F.slot_list_pop PySem.F.type_list_pop mt_pop (pv 4)))
    (Qe (QQ PassesOwn.never rfl (Q6 (Qx QC (pv 0) (pv 5) (fun _ _=>rfl))) (Qv (i:=6) Y0.nd rfl (Or.inl rfl))
     (Qe (QH (Jm (Qu Y3 (pv 6) (pv 2) (Qo _)) (Ym (Zg (Jn hu (pv 6) (pv 3))))).pt
      (Qb (zG hu (pv 3) (pv 6) Xl rfl)
      (Qe (Yn (qZ jg js jt Z4 (pv 4) (Qa (pv 6) Qc))))) Qr))))))
   (Qe (Qi (pv 3))))),?_⟩
  intro g hg
  refine⟨_,rfl,Qh,[(Sum.inl (st:Int),V.bl true)],rfl,(by show 1≤15;decide),?_⟩
  have eg:Jo [] [((Sum.inl (st:Int):Key),V.bl true)]=kvs [st]:=rfl
  rw[eg]
  generalize hH1:upd (upd H g (.dK [])) g (.dK (kvs [st]))=H1
  have g1:H1 g=some (.dK (kvs [st])):=by rw[←hH1];exact Qh
  have s1:Qp H H1:=fun c o e=>by rw[←hH1,Qq (Qn e hg),Qq (Qn e hg)];exact e
  refine⟨_,rfl,(by show 1≤sizeLine;decide),fun l hl=>?_⟩
  have hgl:g≠l:=Qn g1 hl
  have fl:H l=none:=s1.free hl
  have s2:Qp H (upd H1 l (.lst (ni [st]))):=fun c o e=>by rw[Qq (Qn e fl)];exact s1 c o e
  refine⟨fun m σ H'=>∃(v5 v6:Option V)(ws fk todo:List Nat)(seen:Array Bool),σ=[some (.ref b),some (.int (st:Int)),some (.int br),some (.ref g),some (.ref l),v5,v6]∧Qp H H'∧H' g=some (.dK (kvs fk))∧H' l=some (.lst (ni ws))∧
    Pl.SRel S.pts.length br ws fk todo seen∧jB S.nears m todo seen=jB S.nears (S.pts.length+1) [st] (YS S.pts.length br st)∧todo.length+(S.pts.length-fk.length)≤m∧m≤S.pts.length+1,
   ⟨S.pts.length+1,none,none,[st],[st],[st],_,rfl,s2,(by rw[Qq hgl];exact g1),Qh,Pl.srel_start hst hsb,rfl,(by simp;lia),yl _⟩,?_⟩
  rintro m σ H2 ⟨v5,v6,ws,fk,todo,seen,rfl,s3,hg2,hl2,R,hR,hm,hmn⟩
  refine⟨_,rfl,l,_,rfl,.inl (SqL.of hl2),_,_,rfl,rfl,_,rfl,Qz (fun h1=>?_) (fun h1=>?_)⟩
  ·have h1:(0:Int)<((ni ws).length:Int):=of_decide_eq_true h1
   have wl:(ni ws).length=ws.length:=by simp[ni]
   rw[wl] at h1
   have tl:ws.length=todo.length:=by rw[R.ws];simp
   match todo,R,hR,hm,tl with
   | [],_,_,_,tl=>exact absurd (show ws.length=0 from tl) (by lia)
   | t::r,R,hR,hm,tl=>
    match m,hR,hm,hmn with
    | 0,_,hm,_=>simp at hm
    | m'+1,hR,hm,hmn=>
     have wse:ws=r.reverse++[t]:=by rw[R.ws];simp
     have tlt:t<S.pts.length:=R.sub t (by simp)
     refine⟨fun σ' H'=>∃(v5 v6:Option V)(ws fk todo:List Nat)(seen:Array Bool),σ'=[some (.ref b),some (.int (st:Int)),some (.int br),some (.ref g),some (.ref l),v5,v6]∧Qp H H'∧H' g=some (.dK (kvs fk))∧H' l=some (.lst (ni ws))∧
       Pl.SRel S.pts.length br ws fk todo seen∧jB S.nears m' todo seen=jB S.nears (S.pts.length+1) [st] (YS S.pts.length br st)∧todo.length+(S.pts.length-fk.length)≤m'∧m'≤S.pts.length+1,fun σ' H' h=>⟨m',by lia,h⟩,?_⟩
     have hpop:(ni ws)[(ni ws).length-1]?=some (V.int (t:Int)):=by
      rw[wse];simp[ni]
     have hdl:(ni ws).dropLast=ni r.reverse:=by rw[wse];simp[ni]
     refine⟨_,rfl,.inl ⟨rfl,_,SqL.of hl2⟩,l,_,_,rfl,rfl,hl2,hpop,?_⟩
     rw[hdl]
     obtain⟨a,ha⟩:∃ a,as[t]?=some a:=⟨as[t]'(by rw[B.len];exact tlt),yd _⟩
     have s4:Qp H (upd H2 l (.lst (ni r.reverse))):=fun c o e=>by rw[Qq (Qn e fl)];exact s3 c o e
     have B4:=B.same s4
     have R0:Pl.SRel S.pts.length br r.reverse fk r seen:=⟨R.size,rfl,R.nd,R.lt,R.nb,fun j hj=>R.sub j (by simp[hj]),R.iff_⟩
     refine⟨_,rfl,_,rfl,b,_,_,_,rfl,rfl,B4.lst,Qj (j:=t) (v:=V.ref a) (by rw[yi,ha];rfl),a,rfl,⟨_,B4.at_ t a ha⟩,Zq (K:=K) (a:=a) (xs:=ni (S.near t)) (fun i σ H'=>∃ v6:Option V,σ=[some (.ref b),some (.int (st:Int)),some (.int br),some (.ref g),some (.ref l),some (.int (t:Int)),v6]∧Qp H H'∧
       H' g=some (.dK (kvs (((S.near t).take i).foldl (Pl.pstep br) (r.reverse,fk)).2))∧H' l=some (.lst (ni (((S.near t).take i).foldl (Pl.pstep br) (r.reverse,fk)).1)))
      ⟨_,rfl,s4,(by rw[Qq hgl];exact hg2),Qh⟩ (fun i σ H' _ ⟨_,_,s5,_⟩=>(B.same s5).at_ t a ha) ?_ ?_⟩
     ·rintro i x σ H3 hx ⟨v6',rfl,s5,hg3,hl3⟩
      have hi:i<(S.near t).length:=by
       have:=(List.getElem?_eq_some_iff.1 hx).1
       simpa [ni] using this
      obtain⟨rfl⟩:x=V.int ((S.near t)[i]:Int):=by
       unfold ni at hx
       rw[yi,yd hi] at hx
       exact (Option.some.inj hx).symm
      have et:(S.near t).take (i+1)=(S.near t).take i++[(S.near t)[i]]:=by rw[jo hi]
      have hjl:=JS hL (yo hi)
      obtain⟨Ri,ei⟩:=Pl.srel_fold ((S.near t).take i) R0 (fun j hj=>JS hL (xk hj))
      have ewl:=congrArg List.length Ri.ws
      rw[List.length_reverse] at ewl
      generalize hac:((S.near t).take i).foldl (Pl.pstep br) (r.reverse,fk)=ac at *
      have step:((S.near t).take (i+1)).foldl (Pl.pstep br) (r.reverse,fk)=Pl.pstep br ac (S.near t)[i]:=by
       rw[et,List.foldl_append,hac];rfl
      have fkl:ac.2.length≤S.pts.length:=by
       have:=Pl.nodup_len (l:=ac.2) (m:=yj S.pts.length) Ri.nd (fun x hx=>List.mem_range.2 (Ri.lt x hx))
       rwa [yZ] at this
      have wll:ac.1.length≤200000:=by
       have z:=hZ.1
       simp at hm
       lia
      refine⟨_,rfl,_,rfl,rfl,_,rfl,Qz (fun h2=>?_) (fun h2=>?_)⟩
      ·have h2:¬ ((S.near t)[i]:Int)=br:=by simpa using h2
       refine⟨_,rfl,_,rfl,g,_,rfl,JM.k (k:=Sum.inl ((S.near t)[i]:Int)) hg3,_,rfl,Qz (fun h3=>?_) (fun h3=>?_)⟩
       ·rw[Y6] at h3
        have h3:(S.near t)[i]∉ac.2:=by simpa using h3
        refine⟨_,rfl,_,rfl,g,_,rfl,z7.k (k:=Sum.inl ((S.near t)[i]:Int)) hg3 (by simp[kvs];exact yF (yE fkl hZ.1) (by decide)),?_⟩
        rw[kvs_put h3]
        have hl4:(upd H3 g (.dK (kvs (ac.2++[(S.near t)[i]])))) l=some (.lst (ni ac.1)):=by rw[Qq (fun e=>hgl e.symm)];exact hl3
        refine⟨_,rfl,.inl ⟨rfl,_,SqL.of hl4⟩,_,rfl,l,_,_,rfl,rfl,hl4,(by simp[ni];exact yF wll (by decide)),?_⟩
        refine⟨_,rfl,fun c o e=>?_,?_,?_⟩
        ·rw[Qq (Qn e fl),Qq (Qn e hg)];exact s5 c o e
        ·rw[Qq hgl,Qh,step]
         unfold Pl.pstep
         rw[if_pos ⟨h2,h3⟩]
        ·rw[Qh,step]
         unfold Pl.pstep
         rw[if_pos ⟨h2,h3⟩]
         simp[ni]
       ·rw[Y6] at h3
        have h3:(S.near t)[i]∈ac.2:=by simpa using h3
        refine⟨_,rfl,s5,?_,?_⟩
        ·rw[step]
         unfold Pl.pstep
         rw[if_neg (fun z=>z.2 h3)];exact hg3
        ·rw[step]
         unfold Pl.pstep
         rw[if_neg (fun z=>z.2 h3)];exact hl3
      ·have h2:((S.near t)[i]:Int)=br:=by simpa using h2
       refine⟨_,rfl,s5,?_,?_⟩
       ·rw[step]
        unfold Pl.pstep
        rw[if_neg (fun z=>z.1 h2)];exact hg3
       ·rw[step]
        unfold Pl.pstep
        rw[if_neg (fun z=>z.1 h2)];exact hl3
     ·rintro σ H3 ⟨v6',rfl,s5,hg3,hl3⟩
      have e:(ni (S.near t)).length=(S.near t).length:=by simp[ni]
      rw[e,jZ] at hg3 hl3
      obtain⟨R1,e1⟩:=Pl.srel_fold (S.near t) R0 (fun j hj=>JS hL hj)
      refine⟨_,_,_,_,_,_,rfl,s5,hg3,hl3,R1,?_,?_⟩
      ·rw[←hR,Pl.spread_cons,Pl.nears_getD,if_pos tlt]
      ·refine⟨?_,by lia⟩
       rw[e1];simp at hm;lia
  ·have h1:¬ (0:Int)<((ni ws).length:Int):=fun z=>h1 (decide_eq_true z)
   have wl:(ni ws).length=ws.length:=by simp[ni]
   rw[wl] at h1
   have w0:ws=[]:=List.eq_nil_of_length_eq_zero (by lia)
   have t0:todo=[]:=by
    have:=R.ws
    rw[w0] at this
    exact List.reverse_eq_nil_iff.1 this.symm
   subst w0 t0
   rw[spread_nil] at hR
   refine⟨_,rfl,?_⟩
   exact k H2 g fk seen s3 hg2 R hR
end
end Gp
set_option Elab.async false
set_option linter.all false
set_option maxRecDepth 100000
namespace Gp
open PySem PySem.Spec PyProof.Rows L2
open Gla (Pt Plan)
def Ok8(S:Plan):Prop:=Z3 S∧XV S∧2≤S.pts.length
theorem init_neg(n:Nat):xL S n 0 (yC n)=jB S (n+1) [0] (YS n (-1) 0):=by
 unfold xL YS
 rw[if_neg (by decide)]
theorem init_nat (near:Array (List Nat)) (n i:Nat):Gs near n i=(jB near (n+1) [if i=0 then 1 else 0] (YS n (i:Int) (if i=0 then 1 else 0))).contains false:=by
 unfold Gs xL YS
 rw[if_pos (c:=0≤(i:Int)) (by lia),xP]
section
variable {P:Program} {w:World} {K:z8} {mg:Str→Option Value} {base:Heap} {C:Addr}
theorem ok_unr{f:Addr}{fd:FuncData}(F:Fun K "unreached_point" "unreached_point" sUnr f fd)(T:ZP K mg C)(U:Txt K mg) (gn:GI mg "NO_POINT" (-1)) (M:Xh P w K mg base C 1 "point_place" ["self","number"] spPP) (N:Xh P w K mg base C 1 "neighbours" ["self"] (spNb K C))
  (R:Has P w K mg base 1 "reached" ["beside","start","barred"] (JN K)):QI P w K mg base CX0 2 f fd ["drawing"] (Zv K C Ok8 XZ):=by
 obtain⟨fm,fdm,hm,bm,G⟩:=M.ex
 obtain⟨fn,fdn,hn,bn,GN⟩:=N.ex
 refine F.ok scUnr (fun vs H Q E h=>?_) (fun cdv A outer s H vs Q E hr h=>?_)
 ·obtain⟨d,S,dx,lp,ll,lm,ap,al,am,rfl,_⟩:=h
  rfl
 ·obtain⟨d,S,dx,lp,ll,lm,ap,al,am,rfl,D,⟨hL,hZ,h2⟩,k⟩:=h
  have hu:=hu_of hr
  refine⟨_,Qb (Qs (i:=1) scUnr.nd rfl (Or.inl rfl) (Qt R hr (Qa (Yd (pv 0) T.cl hn GN hr bn .nil Zm) (Qa Qg (Qa (QS gn) Qc)))))
   (Qb (QQ PassesOwn.never rfl (Yq rfl U.range (Qa (QL Qw (by rfl) U.len PySem.boot_len (Qa (QB (pv 0) rfl) Qc)) Qc)) (Qv (i:=2) scUnr.nd rfl (Or.inl rfl))
    (Qe (QH (Zg (Jn hu (pv 2) (pv 1)))
     (Qe (Qi (Zd (pv 0) T.cl hm G hr bm .nil Zm (Qa (pv 2) Qc)))) Qr)))
   (Qe (Qi Q5))),?_⟩
  have hno:=ZY S.w S.h lp ll lm (m := "point_place") (by decide +kernel) (by decide +kernel) (by decide +kernel) (by decide +kernel) (by decide +kernel)
  have hno2:=ZY S.w S.h lp ll lm (m := "neighbours") (by decide +kernel) (by decide +kernel) (by decide +kernel) (by decide +kernel) (by decide +kernel)
  refine⟨_,rfl,d,dx,_,rfl,D.ins,hno2,d,S,dx,lp,ll,lm,ap,al,am,rfl,D,hL,hZ,fun H1 b as s1 B=>?_⟩
  refine⟨b,as,S,_,_,0,rfl,rfl,B,hL,hZ,by lia,by decide,fun H2 g fk seen s2' hg SR hseen=>?_⟩
  have s2:=s1.trans s2'
  have D2:=D.same s2
  have plen:((ap.map V.ref).length:Int)=S.pts.length:=by rw[yc,D.pts.len,yc]
  rw[←init_neg] at hseen
  have hz:=hZ.1
  refine⟨_,rfl,d,C,dx,_,_,rfl,D2.ins,T.cl,T.nP,Xc _ _ _ _ _,lp,_,rfl,.inl D2.pts.lst,_,rfl,by rw[plen];lia,by rw[plen];lia,Yt (lo:=0) (n:=(((ap.map V.ref).length:Nat):Int).toNat) (fun i σ H'=>∃ v2:Option V,σ=[some (.ref d),some (.ref g),v2]∧Qp H2 H'∧
    ∀ j,j<i→(!(seen.getD j false))=false)
   ⟨none,rfl,Qp.refl _,fun j hj=>by lia⟩ ?_ ?_⟩
  ·rintro i σ H3 hi ⟨v2,rfl,s3,hb⟩
   have hi:i<S.pts.length:=by
    have:((ap.map V.ref).length:Int).toNat=S.pts.length:=by rw[plen];simp
    rw[this] at hi;exact hi
   have ei:(0:Int)+(i:Int)=(i:Int):=by lia
   rw[ei]
   have en:=Pl.srel_end SR i hi (by lia)
   refine⟨_,rfl,_,rfl,g,_,rfl,JM.k (k:=Sum.inl (i:Int)) (s3 _ _ hg),_,rfl,Qz (fun h1=>?_) (fun h1=>?_)⟩
   ·rw[Y6] at h1
    have h1:i∉fk:=by simpa using h1
    have s4:=s2.trans s3
    refine⟨_,rfl,d,dx,_,rfl,(D.same s4).ins,hno,_,rfl,_,_,i,rfl,rfl,?_⟩
    have hf:seen.getD i false=false:=by
     cases hh:seen.getD i false with
     | false=>rfl
     | true=>exact absurd (en.1 hh) h1
    have e:XZ S=some (xq i):=by
     unfold XZ
     rw[←hseen,Za hi (by rw[hf];rfl) hb];rfl
    have:=k H3 s4
    rw[e] at this
    exact this
   ·rw[Y6] at h1
    have h1:i∈fk:=by simpa using h1
    refine⟨_,rfl,s3,fun j hj=>?_⟩
    by_cases q:j=i
    ·subst q;rw[en.2 h1];rfl
    ·exact hb j (by lia)
  ·rintro σ H3 ⟨v2,rfl,s3,hb⟩
   have:((ap.map V.ref).length:Int).toNat=S.pts.length:=by rw[plen];simp
   rw[this] at hb
   have e:XZ S=none:=by
    unfold XZ
    rw[←hseen,Zs hb];rfl
   have:=k H3 (s2.trans s3)
   rw[e] at this
   exact this
theorem ok_part{f:Addr}{fd:FuncData}(F:Fun K "parting_point" "parting_point" sPart f fd)(T:ZP K mg C)(U:Txt K mg)(M:Xh P w K mg base C 1 "point_place" ["self","number"] spPP) (N:Xh P w K mg base C 1 "neighbours" ["self"] (spNb K C))
  (R:Has P w K mg base 1 "reached" ["beside","start","barred"] (JN K)):QI P w K mg base CX0 2 f fd ["drawing"] (Zv K C Ok8 ZC):=by
 obtain⟨fm,fdm,hm,bm,G⟩:=M.ex
 obtain⟨fn,fdn,hn,bn,GN⟩:=N.ex
 refine F.ok zA (fun vs H Q E h=>?_) (fun cdv A outer s H vs Q E hr h=>?_)
 ·obtain⟨d,S,dx,lp,ll,lm,ap,al,am,rfl,_⟩:=h
  rfl
 ·obtain⟨d,S,dx,lp,ll,lm,ap,al,am,rfl,D,⟨hL,hZ,h2⟩,k⟩:=h
  refine⟨_,Qb (Qs (i:=1) zA.nd rfl (Or.inl rfl) (Yd (pv 0) T.cl hn GN hr bn .nil Zm))
   (Qb (QQ PassesOwn.never rfl (Yq rfl U.range (Qa (QL Qw (by rfl) U.len PySem.boot_len (Qa (QB (pv 0) rfl) Qc)) Qc)) (Qv (i:=2) zA.nd rfl (Or.inl rfl))
    (Qb (Qs (i:=3) zA.nd rfl (Or.inl rfl) (qd (Qu YA (pv 2) Qg (Qo _)) Qg Qg))
    (Qe (QH (Qu ZL (QL call_lenD (by rfl) U.len PySem.boot_len (Qa (Qt R hr (Qa (pv 1) (Qa (pv 3) (Qa (pv 2) Qc)))) Qc)) (QD Xu (QL Qw (by rfl) U.len PySem.boot_len (Qa (QB (pv 0) rfl) Qc)) Qg) (Qo _))
     (Qe (Qi (Zd (pv 0) T.cl hm G hr bm .nil Zm (Qa (pv 2) Qc)))) Qr))))
   (Qe (Qi Q5))),?_⟩
  have hno:=ZY S.w S.h lp ll lm (m := "point_place") (by decide +kernel) (by decide +kernel) (by decide +kernel) (by decide +kernel) (by decide +kernel)
  have hno2:=ZY S.w S.h lp ll lm (m := "neighbours") (by decide +kernel) (by decide +kernel) (by decide +kernel) (by decide +kernel) (by decide +kernel)
  refine⟨_,rfl,d,dx,_,rfl,D.ins,hno2,d,S,dx,lp,ll,lm,ap,al,am,rfl,D,hL,hZ,fun H1 b as s1 B=>?_⟩
  have D1:=D.same s1
  have plen:((ap.map V.ref).length:Int)=S.pts.length:=by rw[yc,D.pts.len,yc]
  have hz:=hZ.1
  refine⟨_,rfl,d,C,dx,_,_,rfl,D1.ins,T.cl,T.nP,Xc _ _ _ _ _,lp,_,rfl,.inl D1.pts.lst,_,rfl,by rw[plen];lia,by rw[plen];lia,Yt (lo:=0) (n:=(((ap.map V.ref).length:Nat):Int).toNat) (fun i σ H'=>∃ v2 v3:Option V,σ=[some (.ref d),some (.ref b),v2,v3]∧Qp H1 H'∧
    ∀ j,j<i→Gs S.nears S.pts.length j=false)
   ⟨none,none,rfl,Qp.refl _,fun j hj=>by lia⟩ ?_ ?_⟩
  ·rintro i σ H2 hi ⟨v2,v3,rfl,s2,hb⟩
   have hi:i<S.pts.length:=by
    have:((ap.map V.ref).length:Int).toNat=S.pts.length:=by rw[plen];simp
    rw[this] at hi;exact hi
   have ei:(0:Int)+(i:Int)=(i:Int):=by lia
   rw[ei]
   refine⟨_,rfl,rfl,_,rfl,Qz (fun h0=>?_) (fun h0=>?_)⟩
   ·have h0:(i:Int)=0:=by simpa using h0
    have h0':i=0:=by lia
    refine⟨_,rfl,_,rfl,_,rfl,b,as,S,_,_,1,rfl,rfl,B.same s2,hL,hZ,by lia,by lia,fun H3 g fk seen s3' hg SR hseen=>?_⟩
    have s3:=s2.trans s3'
    have D3:=D1.same s3
    have cu:=Pl.srel_cuts hi SR
    have ec:Gs S.nears S.pts.length i=seen.contains false:=by
     rw[init_nat,hseen,if_pos h0']
    refine⟨g,_,rfl,hg,_,rfl,d,C,dx,_,_,rfl,D3.ins,T.cl,T.nP,Xc _ _ _ _ _,lp,_,rfl,.inl D3.pts.lst,_,_,rfl,rfl,_,_,rfl,rfl,_,rfl,Qz (fun h1=>?_) (fun h1=>?_)⟩
    ·have h1:((kvs fk).length:Int)<((ap.map V.ref).length:Int)-1:=of_decide_eq_true h1
     rw[plen,show (kvs fk).length=fk.length by simp[kvs]] at h1
     have s4:=s1.trans s3
     refine⟨_,rfl,d,dx,_,rfl,(D.same s4).ins,hno,_,rfl,_,_,i,rfl,rfl,?_⟩
     have e:ZC S=some (xq i):=by
      unfold ZC
      rw[Za hi (by rw[ec];exact cu.2 (by lia)) hb];rfl
     have:=k H3 s4
     rw[e] at this
     exact this
    ·have h1:¬ ((kvs fk).length:Int)<((ap.map V.ref).length:Int)-1:=fun z=>h1 (decide_eq_true z)
     rw[plen,show (kvs fk).length=fk.length by simp[kvs]] at h1
     refine⟨_,_,rfl,s3,fun j hj=>?_⟩
     by_cases q:j=i
     ·subst q
      rw[ec]
      cases hh:seen.contains false with
      | false=>rfl
      | true=>have:=cu.1 hh;lia
     ·exact hb j (by lia)
   ·have h0:¬ (i:Int)=0:=by simpa using h0
    have h0':¬ i=0:=by lia
    refine⟨_,rfl,_,rfl,_,rfl,b,as,S,_,_,0,rfl,rfl,B.same s2,hL,hZ,by lia,by lia,fun H3 g fk seen s3' hg SR hseen=>?_⟩
    have s3:=s2.trans s3'
    have D3:=D1.same s3
    have cu:=Pl.srel_cuts hi SR
    have ec:Gs S.nears S.pts.length i=seen.contains false:=by
     rw[init_nat,hseen,if_neg h0']
    refine⟨g,_,rfl,hg,_,rfl,d,C,dx,_,_,rfl,D3.ins,T.cl,T.nP,Xc _ _ _ _ _,lp,_,rfl,.inl D3.pts.lst,_,_,rfl,rfl,_,_,rfl,rfl,_,rfl,Qz (fun h1=>?_) (fun h1=>?_)⟩
    ·have h1:((kvs fk).length:Int)<((ap.map V.ref).length:Int)-1:=of_decide_eq_true h1
     rw[plen,show (kvs fk).length=fk.length by simp[kvs]] at h1
     have s4:=s1.trans s3
     refine⟨_,rfl,d,dx,_,rfl,(D.same s4).ins,hno,_,rfl,_,_,i,rfl,rfl,?_⟩
     have e:ZC S=some (xq i):=by
      unfold ZC
      rw[Za hi (by rw[ec];exact cu.2 (by lia)) hb];rfl
     have:=k H3 s4
     rw[e] at this
     exact this
    ·have h1:¬ ((kvs fk).length:Int)<((ap.map V.ref).length:Int)-1:=fun z=>h1 (decide_eq_true z)
     rw[plen,show (kvs fk).length=fk.length by simp[kvs]] at h1
     refine⟨_,_,rfl,s3,fun j hj=>?_⟩
     by_cases q:j=i
     ·subst q
      rw[ec]
      cases hh:seen.contains false with
      | false=>rfl
      | true=>have:=cu.1 hh;lia
     ·exact hb j (by lia)
  ·rintro σ H2 ⟨v2,v3,rfl,s2,hb⟩
   have:((ap.map V.ref).length:Int).toNat=S.pts.length:=by rw[plen];simp
   rw[this] at hb
   have e:ZC S=none:=by
    unfold ZC
    rw[Zs hb];rfl
   have:=k H2 (s1.trans s2)
   rw[e] at this
   exact this
end
end Gp
set_option Elab.async false
set_option linter.all false
set_option maxRecDepth 100000
namespace Gp
open PySem PySem.Spec PyProof.Rows L2
open Gla (Pt Plan Mark)
def inF(S:Plan)(z:Pt):Bool:=(decide (0<z.x)&&decide (z.x<S.w))&&(decide (0<z.y)&&decide (z.y<S.h))
theorem qr(S:Plan)(z:Pt):j3 S z=(inF S z&&!Gla.onLines S z):=by
 unfold j3 inF
 cases decide (0<z.x) <;> cases decide (z.x<S.w) <;> cases decide (0<z.y) <;> cases decide (z.y<S.h) <;> rfl
def Z8(S:Plan):Option Nat:=(ju (Gla.markOk S) Gla.markBelow S.marks).map (xt S)
def XI(S:Plan)(i:Nat)(m:Mark):Bool:=!(j3 S m.at_) || (decide (0<i)&&(match S.marks[i-1]? with
 | some y=>!(y.at_.below m.at_)
 | none=>false))
theorem qT(S:Plan):Z8 S=(yH (XI S) S.marks).map (xt S):=by
 unfold Z8 ju
 congr 2
 funext i x
 unfold XI
 cases S.marks[i-1]? <;> rfl
def spWF(K:z8)(C:Addr):Sp:=fun vs H Q _=>∃(d a:Addr)(z:Pt)(S:Plan)(dx lp ll lm:Addr)(ap al am:List Addr),vs=[.ref d,.ref a]∧Dw K C H d S dx lp ll lm ap al am∧ZU K H a z∧Q (.bl (inF S z)) H
def spOSL(K:z8)(C:Addr):Sp:=fun vs H Q _=>∃(d a:Addr)(z:Pt)(S:Plan)(dx lp ll lm:Addr)(ap al am:List Addr),vs=[.ref d,.ref a]∧Dw K C H d S dx lp ll lm ap al am∧ZU K H a z∧Sm z∧Ok5 S∧∀ H',Qp H H'→Q (.bl (Ge S z)) H'
abbrev sWF:Stmt:=top 31
abbrev sOSL:Stmt:=top 32
abbrev sWM:Stmt:=top 33
theorem scWF:Qm ["drawing","mark"] ["drawing","mark"] (defScope sWF):=⟨rfl,rfl,rfl,by decide +kernel,rfl,by decide +kernel,by decide +kernel⟩
theorem scOSL:Qm ["drawing","mark","line"] ["drawing","mark"] (defScope sOSL):=⟨rfl,rfl,rfl,by decide +kernel,rfl,by decide +kernel,by decide +kernel⟩
theorem scWM:Qm ["drawing","number","mark"] ["drawing"] (defScope sWM):=⟨rfl,rfl,rfl,by decide +kernel,rfl,by decide +kernel,by decide +kernel⟩
section
variable {P:Program} {w:World} {K:z8} {mg:Str→Option Value} {base:Heap} {C:Addr}
theorem ok_wf{f:Addr}{fd:FuncData}(F:Fun K "is_within_frame" "is_within_frame" sWF f fd)(T:ZP K mg C):QI P w K mg base CX0 1 f fd ["drawing","mark"] (spWF K C):=by
 refine F.ok scWF (fun vs H Q E h=>?_) (fun cdv A outer s H vs Q E hr h=>?_)
 ·obtain⟨d,a,z,S,dx,lp,ll,lm,ap,al,am,rfl,_⟩:=h
  rfl
 ·obtain⟨d,a,z,S,dx,lp,ll,lm,ap,al,am,rfl,D,hz,k⟩:=h
  refine⟨_,Qb (QH (Yb (Qu q4 (QR 1) Qg (Qo _)) (Z9 (Qu op_ge (QR 1) (QB (pv 0) rfl) (Qo _)))).pt (Qe (Qi Xl)) Qr)
   (Qe (Qi (YO (QO Ze (Q0 1) Qg (Qo _)) (YN (QO ZL (Q0 1) (QB (pv 0) rfl) (Qo _)))))),?_⟩
  unfold inF at k
  refine⟨a,_,_,rfl,hz,_,_,rfl,rfl,_,rfl,Qz (fun h1=>qh ?_) (fun h1=>?_)⟩
  ·have h1:(z.x:Int)≤0:=of_decide_eq_true h1
   rw[decide_eq_false (show ¬ 0<z.x by lia),jp,jp] at k
   exact k
  ·have h1:¬ (z.x:Int)≤0:=fun q=>h1 (decide_eq_true q)
   rw[decide_eq_true (show 0<z.x by lia),jh] at k
   refine⟨a,_,_,rfl,hz,_,rfl,d,C,dx,_,_,rfl,D.ins,T.cl,T.nW,df_w _ _ _ _ _,_,_,rfl,rfl,_,rfl,Qz (fun h2=>?_) (fun h2=>?_)⟩
   ·have h2:(S.w:Int)≤z.x:=of_decide_eq_true h2
    rw[decide_eq_false (show ¬ z.x<S.w by lia),jp] at k
    exact k
   ·have h2:¬ (S.w:Int)≤z.x:=fun q=>h2 (decide_eq_true q)
    rw[decide_eq_true (show z.x<S.w by lia),jh] at k
    refine⟨a,_,_,rfl,hz,_,_,rfl,rfl,_,rfl,Qz (fun h3=>?_) (fun h3=>?_)⟩
    ·have h3:(0:Int)<z.y:=of_decide_eq_true h3
     rw[decide_eq_true (show 0<z.y by lia),jh] at k
     refine⟨a,_,_,rfl,hz,_,rfl,d,C,dx,_,_,rfl,D.ins,T.cl,T.nH,df_h _ _ _ _ _,_,_,rfl,rfl,?_⟩
     rw[show decide (z.y<S.h)=decide ((z.y:Int)<(S.h:Int)) by rw[decide_eq_decide];lia] at k
     exact k
    ·have h3:¬ (0:Int)<z.y:=fun q=>h3 (decide_eq_true q)
     rw[decide_eq_false (show ¬ 0<z.y by lia),jp] at k
     exact k
theorem ok_osl{f:Addr}{fd:FuncData}(F:Fun K "is_on_some_line" "is_on_some_line" sOSL f fd)(T:ZP K mg C) (B:Has P w K mg base 2 "is_on" ["point","start","end"] (spOn K)):QI P w K mg base CX0 3 f fd ["drawing","mark"] (spOSL K C):=by
 refine F.ok scOSL (fun vs H Q E h=>?_) (fun cdv A outer s H vs Q E hr h=>?_)
 ·obtain⟨d,a,z,S,dx,lp,ll,lm,ap,al,am,rfl,_⟩:=h
  rfl
 ·obtain⟨d,a,z,S,dx,lp,ll,lm,ap,al,am,rfl,D,hz,sz,O,k⟩:=h
  refine⟨_,Qb (QQ PassesOwn.never rfl (Q6 (QB (pv 0) rfl)) (Qv (i:=2) scOSL.nd rfl (Or.inl rfl))
    (Qe (QH (Zf (Qt B hr (Qa (pv 1) (Qa (Qx QC (QB (pv 0) rfl) (QR 2) (fun _ _=>rfl)) (Qa (Qx QC (QB (pv 0) rfl) (Q0 2) (fun _ _=>rfl)) Qc))))) (Qe (Qi Xl)) Qr)))
   (Qe (Qi Xl)),?_⟩
  refine⟨_,rfl,d,C,dx,_,_,rfl,D.ins,T.cl,T.nL,qo _ _ _ _ _,ll,rfl,⟨_,D.lin.lst⟩,Zq (K:=K) (a:=ll) (xs:=al.map V.ref) (fun i σ H'=>∃ v2:Option V,σ=[some (.ref d),some (.ref a),v2]∧H'=H∧∀ m,m<i→(hm:m<S.lines.length)→jw (S.pt S.lines[m].1) (S.pt S.lines[m].2) z=false)
   ⟨none,rfl,rfl,fun j hj=>by lia⟩ (fun i σ H' _ ⟨_,_,e,_⟩=>by rw[e];exact D.lin.lst) ?_ ?_⟩
  ·rintro i x σ H1 hx ⟨v2,rfl,rfl,hb⟩
   obtain⟨c,hc,rfl⟩:=Zn hx
   obtain⟨hi,hp⟩:=D.ln hc
   obtain⟨g1,g2⟩:=O.lin S.lines[i] (yo hi)
   obtain⟨e1,he1,hq1⟩:=D.ptAt (i:=S.lines[i].1) (by lia)
   obtain⟨e2,he2,hq2⟩:=D.ptAt (i:=S.lines[i].2) g2
   refine⟨_,rfl,_,rfl,d,C,dx,_,_,rfl,D.ins,T.cl,T.nP,Xc _ _ _ _ _,c,_,_,rfl,hp,lp,_,_,_,rfl,rfl,D.pts.lst,Qj (j:=S.lines[i].1) (v:=V.ref e1) (by rw[yi,he1];rfl),
    _,rfl,d,C,dx,_,_,rfl,D.ins,T.cl,T.nP,Xc _ _ _ _ _,c,_,_,rfl,hp,lp,_,_,_,rfl,rfl,D.pts.lst,Qj (j:=S.lines[i].2) (v:=V.ref e2) (by rw[yi,he2];rfl),
    a,e1,e2,z,S.pts[S.lines[i].1]'(by lia),S.pts[S.lines[i].2],rfl,hz,hq1,hq2,O.sm _ (yo _),O.sm _ (yo _),sz,_,rfl,Qz (fun h3=>?_) (fun h3=>?_)⟩
   ·have e:Ge S z=true:=by
     unfold Ge
     rw[xz]
     refine⟨S.lines[i],yo _,?_⟩
     rw[Pl.pt_eq (i:=S.lines[i].1) (by lia),Pl.pt_eq g2]
     exact h3
    have:=k _ (Qp.refl _)
    rw[e] at this
    exact this
   ·refine⟨_,rfl,rfl,fun m hm hml=>?_⟩
    by_cases q:m=i
    ·subst q
     rw[Pl.pt_eq (i:=S.lines[m].1) (by lia),Pl.pt_eq g2]
     simpa using h3
    ·exact hb m (by lia) hml
  ·rintro σ H1 ⟨v2,rfl,rfl,hb⟩
   rw[yc,D.lin.len] at hb
   have e:Ge S z=false:=by
    unfold Ge
    rw[jO]
    intro l hl
    obtain⟨j,hj,rfl⟩:=List.mem_iff_getElem.1 hl
    simpa using hb j hj hj
   have:=k _ (Qp.refl _)
   rw[e] at this
   exact this
theorem ok_wm{f:Addr}{fd:FuncData}(F:Fun K "wrong_mark" "wrong_mark" sWM f fd)(T:ZP K mg C)(U:Txt K mg) (M:Xh P w K mg base C 3 "mark_place" ["self","number"] (spMP K C)) (B1:Has P w K mg base 1 "is_within_frame" ["drawing","mark"] (spWF K C)) (B2:Has P w K mg base 3 "is_on_some_line" ["drawing","mark"] (spOSL K C))
  (B3:Has P w K mg base 1 "comes_behind" ["later","earlier"] (YZ K)):QI P w K mg base CX0 4 f fd ["drawing"] (Zv K C Ok5 Z8):=by
 obtain⟨fm,fdm,hm,bm,G⟩:=M.ex
 refine F.ok scWM (fun vs H Q E h=>?_) (fun cdv A outer s H vs Q E hr h=>?_)
 ·obtain⟨d,S,dx,lp,ll,lm,ap,al,am,rfl,_⟩:=h
  rfl
 ·obtain⟨d,S,dx,lp,ll,lm,ap,al,am,rfl,D,O,k⟩:=h
  refine⟨_,Qb (QQ PassesOwn.never rfl (Yr rfl U.enum (Qa (QB (pv 0) rfl) Qc)) (ZM (n:=2) rfl (QK (Qv (i:=1) scWM.nd rfl (Or.inl rfl)) (QK (Qv (i:=2) scWM.nd rfl (Or.inl rfl)) Zj)))
    (Qb (QH (Yb (YM (Zf (Qt B1 (hr.mono (by decide)) (Qa (pv 0) (Qa (pv 2) Qc))))) (Z9 (Zf (Qt B2 hr (Qa (pv 0) (Qa (pv 2) Qc)))))).pt
     (Qe (Qi (Zd (pv 0) T.cl hm G hr bm .nil Zm (Qa (pv 1) Qc)))) Qr)
    (Qe (QH (Jm (Qu Ze (pv 1) Qg (Qo _)) (Ym (YM (Zf (Qt B3 (hr.mono (by decide)) (Qa (pv 2) (Qa (Qx QC (QB (pv 0) rfl) (QD Xu (pv 1) Qg) (fun _ _=>rfl)) Qc))))))).pt
     (Qe (Qi (Zd (pv 0) T.cl hm G hr bm .nil Zm (Qa (pv 1) Qc)))) Qr))))
   (Qe (Qi Q5)),?_⟩
  have hno:=ZY S.w S.h lp ll lm (m := "mark_place") (by decide +kernel) (by decide +kernel) (by decide +kernel) (by decide +kernel) (by decide +kernel)
  refine⟨_,rfl,d,C,dx,_,_,rfl,D.ins,T.cl,T.nM,df_m _ _ _ _ _,lm,_,rfl,D.mrk.lst,XG (K:=K) (a:=lm) (xs:=am.map V.ref) (fun i σ H'=>∃ v1 v2:Option V,σ=[some (.ref d),v1,v2]∧Qp H H'∧∀ j (hj:j<i) (hl:j<S.marks.length),XI S j S.marks[j]=false)
   ⟨none,none,rfl,Qp.refl H,fun j hj=>by lia⟩ (fun i σ H' _ ⟨_,_,_,s1,_⟩=>(D.same s1).mrk.lst) ?_ ?_⟩
  ·rintro i x σ H1 H2 hx ⟨v1,v2,rfl,s1,hb⟩ s2'
   obtain⟨c,hc,rfl⟩:=Zn hx
   have s2:=s1.trans s2'
   have D2:=D.same s2
   obtain⟨hi,hp⟩:=D2.mkI hc
   have ret:∀ H3,Qp H H3→XI S i S.marks[i]=true→tRet (qL C "mark_place" (spMP K C) [] E0 (Zt 0) (XY (Zt 1) zq)) { nx:=fun _ H'=>Q V.non H',rt:=Q } [some (.ref d),some (.int (i:Int)),some (.ref c)] H3:=fun H3 s3 hbad=>by
    have D3:=D.same s3
    refine⟨_,rfl,d,dx,_,rfl,D3.ins,hno,_,rfl,d,_,i,S,dx,lp,ll,lm,ap,al,am,rfl,rfl,D3,?_⟩
    have e:Z8 S=some (xt S i):=by
     rw[qT,Zl (p:=XI S) (l:=S.marks) hi hbad (fun j hj=>hb j hj (by lia))];rfl
    have:=k H3 s3
    rw[e] at this
    exact this
   have good:∀ H3,Qp H H3→XI S i S.marks[i]=false→∃ v1 v2:Option V,[some (V.ref d),some (V.int (i:Int)),some (V.ref c)]=[some (.ref d),v1,v2]∧Qp H H3∧∀ j (hj:j<i+1) (hl:j<S.marks.length),XI S j S.marks[j]=false:=fun H3 s3 hg=>by
    refine⟨_,_,rfl,s3,fun j hj hl=>?_⟩
    by_cases q:j=i
    ·subst q;exact hg
    ·exact hb j (by lia) hl
   refine⟨_,rfl,_,rfl,d,c,S.marks[i].at_,S,dx,lp,ll,lm,ap,al,am,rfl,D2,hp,_,rfl,Qz (fun h1=>qh (ret H2 s2 ?_)) (fun h1=>?_)⟩
   ·have h1:inF S S.marks[i].at_=false:=by simpa using h1
    unfold XI
    rw[qr,h1];rfl
   ·have h1:inF S S.marks[i].at_=true:=by simpa using h1
    refine⟨_,rfl,_,rfl,d,c,S.marks[i].at_,S,dx,lp,ll,lm,ap,al,am,rfl,D2,hp,O.smm _ (yo _),O,fun H3 s3'=>⟨_,rfl,?_⟩⟩
    have s3:=s2.trans s3'
    have D3:=D.same s3
    have hp3:ZU K H3 c S.marks[i].at_:=Qp.tup s3' hp
    refine Qz (fun h2=>ret H3 s3 ?_) (fun h2=>?_)
    ·unfold XI
     rw[qr,h1,h2];rfl
    ·have h2:Ge S S.marks[i].at_=false:=by simpa using h2
     have hcl:j3 S S.marks[i].at_=true:=by rw[qr,h1,h2];rfl
     refine⟨_,rfl,_,_,rfl,rfl,_,rfl,Qz (fun h3=>?_) (fun h3=>?_)⟩
     ·have h3:(0:Int)<i:=of_decide_eq_true h3
      obtain⟨c',hc',hp'⟩:=D3.mkAt (i:=i-1) (by lia)
      have eprev:S.marks[i-1]?=some (S.marks[i-1]'(by lia)):=yd _
      refine⟨_,rfl,_,rfl,d,C,dx,_,_,rfl,D3.ins,T.cl,T.nM,df_m _ _ _ _ _,_,rfl,_,_,rfl,rfl,lm,_,_,_,rfl,rfl,D3.mrk.lst,at_of (j:=i-1) (v:=V.ref c') (by lia) (by rw[yi,hc'];rfl),c,c',_,_,rfl,hp3,hp',_,rfl,Qz (fun h4=>ret H3 s3 ?_) (fun h4=>good H3 s3 ?_)⟩
      ·unfold XI
       rw[eprev,hcl]
       have:0<i:=by lia
       simp[this]
       simpa using h4
      ·unfold XI
       rw[eprev,hcl]
       simp
       intro _
       simpa using h4
     ·have h3:¬ (0:Int)<i:=fun z=>h3 (decide_eq_true z)
      refine good H3 s3 ?_
      unfold XI
      have:¬ 0<i:=by lia
      rw[hcl]
      simp[this]
  ·rintro σ H1 ⟨v1,v2,rfl,s1,hb⟩
   have e:Z8 S=none:=by
    have:yH (XI S) S.marks=none:=Pl.firstAt_none.2 fun i hi=>hb i (by rw[yc,D.mrk.len,yc];exact hi) hi
    rw[qT,this];rfl
   have:=k H1 s1
   rw[e] at this
   exact this
end
end Gp
set_option Elab.async false
set_option linter.all false
set_option maxRecDepth 100000
namespace Gp
open PySem PySem.Spec PyProof.Rows L2
open Gla (Pt Plan Mark)
def Pr(H:Hp)(a:Addr)(s:Nat×Nat):Prop:=H a=some (.tup [.int (s.1:Int),.int (s.2:Int)])
theorem Pr.sq{K:z8}{H:Hp}{a:Addr}{s:Nat×Nat}(h:Pr H a s):SqT K H a [.int (s.1:Int),.int (s.2:Int)]:=SqT.of h
structure qz(K:z8)(H:Hp)(l:Addr)(ap:List Addr)(S:Plan):Prop where
 prs:JF K H l ap (S.pts.map xy)
theorem qz.same{K:z8}{H H':Hp}{l:Addr}{ap:List Addr}{S:Plan}(h:qz K H l ap S)(e:Qp H H'):qz K H' l ap S:=⟨h.prs.same e⟩
theorem qz.at'{K:z8}{H:Hp}{l:Addr}{ap:List Addr}{S:Plan}(h:qz K H l ap S){i:Nat}(hi:i<S.pts.length):∃ a,(ap.map V.ref)[i]?=some (V.ref a)∧ZU K H a (S.pt i):=by
 have hl:=h.prs.len
 rw[yc] at hl
 obtain⟨a,ha⟩:∃ a,ap[i]?=some a:=⟨ap[i]'(by lia),yd _⟩
 refine⟨a,by rw[yi,ha];rfl,?_⟩
 rw[Pl.pt_eq hi]
 exact SqT.of (h.prs.at_ i a (xy S.pts[i]) ha (by rw[yi,yd hi];rfl))
theorem Zx{S:Plan}(h:∀ p∈S.pts,Sm p)(i:Nat):Sm (S.pt i):=by
 by_cases hi:i<S.pts.length
 ·rw[Pl.pt_eq hi];exact h _ (yo hi)
 ·unfold Plan.pt
  rw[j4,jH (by lia)]
  exact⟨by decide,by decide⟩
def spSB(K:z8):Sp:=fun vs H Q _=>∃(l a c:Addr)(ap:List Addr)(S:Plan)(s:Nat×Nat)(z:Pt),vs=[.ref l,.ref a,.ref c]∧qz K H l ap S∧Pr H a s∧ZU K H c z∧Sm z∧(∀ p∈S.pts,Sm p)∧s.1<S.pts.length∧s.2<S.pts.length∧Q (.bl (Pl.stepBelow S s z)) H
def spHi(K:z8):Sp:=fun vs H Q _=>∃(l a c:Addr)(ap:List Addr)(S:Plan)(s o:Nat×Nat),vs=[.ref l,.ref a,.ref c]∧qz K H l ap S∧Pr H a s∧Pr H c o∧(∀ p∈S.pts,Sm p)∧s.1<S.pts.length∧s.2<S.pts.length∧o.1<S.pts.length∧o.2<S.pts.length∧Q (.bl (Pl.stepHigher S s o)) H
def Xx(H:Hp)(v:V) (b:Option (Nat×Nat)):Prop:=match b with
 | none=>v=.non
 | some s=>∃ a,v=.ref a∧Pr H a s
def spSU(K:z8)(C:Addr):Sp:=fun vs H Q _=>∃(d a:Addr)(z:Pt)(S:Plan)(dx lp ll lm:Addr)(ap al am:List Addr),vs=[.ref d,.ref a]∧Dw K C H d S dx lp ll lm ap al am∧ZU K H a z∧Sm z∧Ok5 S∧∀ H' v,Qp H H'→Xx H' v (S.lines.foldl (Pl.underStep S z) none)→Q v H'
abbrev sSB:Stmt:=top 34
abbrev sHi:Stmt:=top 35
abbrev sSU:Stmt:=top 36
abbrev sSide:Stmt:=top 37
theorem scSB:Qm ["points","step","mark","left","right"] ["points","step","mark"] (defScope sSB):=⟨rfl,rfl,rfl,by decide +kernel,rfl,by decide +kernel,by decide +kernel⟩
theorem scHi:Qm ["points","step","other","left","right","other_left","other_right"] ["points","step","other"] (defScope sHi):=⟨rfl,rfl,rfl,by decide +kernel,rfl,by decide +kernel,by decide +kernel⟩
theorem scSU:Qm ["drawing","mark","points","best","line","step"] ["drawing","mark"] (defScope sSU):=⟨rfl,rfl,rfl,by decide +kernel,rfl,by decide +kernel,by decide +kernel⟩
theorem scSide:Qm ["number"] ["number"] (defScope sSide):=⟨rfl,rfl,rfl,by decide +kernel,rfl,by decide +kernel,by decide +kernel⟩
def spSide:Sp:=fun vs H Q _=>∃ n:Int,vs=[.int n]∧Q (.int (Pl.pySide n)) H
section
variable {P:Program} {w:World} {K:z8} {mg:Str→Option Value} {base:Heap} {C:Addr}
theorem ok_side{f:Addr}{fd:FuncData}(F:Fun K "side" "side" sSide f fd):QI P w K mg base CX0 1 f fd ["number"] spSide:=by
 refine F.ok scSide (fun vs H Q E h=>?_) (fun cdv A outer s H vs Q E hr h=>?_)
 ·obtain⟨n,rfl,_⟩:=h
  rfl
 ·obtain⟨n,rfl,k⟩:=h
  refine⟨_,Qb (QH (Qu Ze (pv 0) Qg (Qo _)) (Qe (Qi Qg)) Qr)
   (Qe (Qi (qd (Qu ZL (pv 0) Qg (Qo _)) (pe_un un_neg Qg) Qg))),?_⟩
  unfold Pl.pySide at k
  refine⟨_,rfl,_,_,rfl,rfl,_,rfl,Qz (fun h1=>?_) (fun h1=>?_)⟩
  ·have h1:0<n:=of_decide_eq_true h1
   rw[if_pos h1] at k
   exact k
  ·have h1:¬ 0<n:=fun q=>h1 (decide_eq_true q)
   rw[if_neg h1] at k
   refine⟨_,rfl,_,_,rfl,rfl,_,rfl,Qz (fun h2=>?_) (fun h2=>?_)⟩
   ·have h2:n<0:=of_decide_eq_true h2
    rw[if_pos h2] at k
    exact⟨_,rfl,k⟩
   ·have h2:¬ n<0:=fun q=>h2 (decide_eq_true q)
    rw[if_neg h2] at k
    exact k
theorem ok_sb{f:Addr}{fd:FuncData}(F:Fun K "is_step_below" "is_step_below" sSB f fd) (T:Has P w K mg base 1 "turn" ["first","second","third"] (YJ K)):QI P w K mg base CX0 2 f fd ["points","step","mark"] (spSB K):=by
 refine F.ok scSB (fun vs H Q E h=>?_) (fun cdv A outer s H vs Q E hr h=>?_)
 ·obtain⟨l,a,c,ap,S,s,z,rfl,_⟩:=h
  rfl
 ·obtain⟨l,a,c,ap,S,s,z,rfl,hP,ha,hz,sz,hsm,h1,h2,k⟩:=h
  refine⟨_,Qb (Qs (i:=3) scSB.nd rfl (Or.inl rfl) (Qx QC (pv 0) (QR 1) (fun _ _=>rfl)))
   (Qb (Qs (i:=4) scSB.nd rfl (Or.inl rfl) (Qx QC (pv 0) (Q0 1) (fun _ _=>rfl)))
   (Qe (Qi (YO (QO q4 (QR 3) (QR 2) (Qo _)) (YO (QO ZL (QR 2) (QR 4) (Qo _)) (YN (QO Ze (Qt T hr (Qa (pv 3) (Qa (pv 4) (Qa (pv 2) Qc)))) Qg (Qo _)))))))),?_⟩
  obtain⟨c1,e1,p1⟩:=hP.at' h1
  obtain⟨c2,e2,p2⟩:=hP.at' h2
  refine⟨_,rfl,a,_,_,rfl,ha.sq,l,_,_,_,rfl,rfl,hP.prs.lst,Qj (j:=s.1) e1,?_⟩
  refine⟨_,rfl,a,_,_,rfl,ha.sq,l,_,_,_,rfl,rfl,hP.prs.lst,Qj (j:=s.2) e2,?_⟩
  unfold Pl.stepBelow at k
  refine⟨c1,_,_,rfl,p1,c,_,_,rfl,hz,_,_,rfl,rfl,_,rfl,Qz (fun g1=>?_) (fun g1=>?_)⟩
  ·have g1:((S.pt s.1).x:Int)≤z.x:=of_decide_eq_true g1
   rw[decide_eq_true (show (S.pt s.1).x≤z.x by lia),jh] at k
   refine⟨c,_,_,rfl,hz,c2,_,_,rfl,p2,_,_,rfl,rfl,_,rfl,Qz (fun g2=>?_) (fun g2=>?_)⟩
   ·have g2:(z.x:Int)<(S.pt s.2).x:=of_decide_eq_true g2
    rw[decide_eq_true (show z.x<(S.pt s.2).x by lia),jh] at k
    exact⟨_,rfl,_,rfl,_,rfl,c1,c2,c,_,_,_,rfl,p1,p2,hz,Zx hsm _,Zx hsm _,sz,_,_,rfl,rfl,k⟩
   ·have g2:¬ (z.x:Int)<(S.pt s.2).x:=fun q=>g2 (decide_eq_true q)
    rw[decide_eq_false (show ¬ z.x<(S.pt s.2).x by lia),jp] at k
    exact k
  ·have g1:¬ ((S.pt s.1).x:Int)≤z.x:=fun q=>g1 (decide_eq_true q)
   rw[decide_eq_false (show ¬ (S.pt s.1).x≤z.x by lia),jp] at k
   exact k
theorem ok_hi{f:Addr}{fd:FuncData}(F:Fun K "is_higher" "is_higher" sHi f fd) (T:Has P w K mg base 1 "turn" ["first","second","third"] (YJ K)):QI P w K mg base CX0 2 f fd ["points","step","other"] (spHi K):=by
 refine F.ok scHi (fun vs H Q E h=>?_) (fun cdv A outer s H vs Q E hr h=>?_)
 ·obtain⟨l,a,c,ap,S,s,z,rfl,_⟩:=h
  rfl
 ·obtain⟨l,a,c,ap,S,s,o,rfl,hP,ha,hc,hsm,h1,h2,h3,h4,k⟩:=h
  refine⟨_,Qb (Qs (i:=3) scHi.nd rfl (Or.inl rfl) (Qx QC (pv 0) (QR 1) (fun _ _=>rfl)))
   (Qb (Qs (i:=4) scHi.nd rfl (Or.inl rfl) (Qx QC (pv 0) (Q0 1) (fun _ _=>rfl)))
   (Qb (Qs (i:=5) scHi.nd rfl (Or.inl rfl) (Qx QC (pv 0) (QR 2) (fun _ _=>rfl)))
   (Qb (Qs (i:=6) scHi.nd rfl (Or.inl rfl) (Qx QC (pv 0) (Q0 2) (fun _ _=>rfl)))
   (Qb (QH (Qu YA (QR 1) (QR 2) (Qo _)) (Qe (Qi (QO Ze (Qt T hr (Qa (pv 5) (Qa (pv 6) (Qa (pv 4) Qc)))) Qg (Qo _)))) Qr)
   (Qb (QH (Qu ZL (QR 3) (QR 5) (Qo _)) (Qe (Qi (QO ZL (Qt T hr (Qa (pv 3) (Qa (pv 4) (Qa (pv 5) Qc)))) Qg (Qo _)))) Qr)
   (Qe (Qi (QO Ze (Qt T hr (Qa (pv 5) (Qa (pv 6) (Qa (pv 3) Qc)))) Qg (Qo _))))))))),?_⟩
  obtain⟨c1,e1,p1⟩:=hP.at' h1
  obtain⟨c2,e2,p2⟩:=hP.at' h2
  obtain⟨c3,e3,p3⟩:=hP.at' h3
  obtain⟨c4,e4,p4⟩:=hP.at' h4
  refine⟨_,rfl,a,_,_,rfl,ha.sq,l,_,_,_,rfl,rfl,hP.prs.lst,Qj (j:=s.1) e1,?_⟩
  refine⟨_,rfl,a,_,_,rfl,ha.sq,l,_,_,_,rfl,rfl,hP.prs.lst,Qj (j:=s.2) e2,?_⟩
  refine⟨_,rfl,c,_,_,rfl,hc.sq,l,_,_,_,rfl,rfl,hP.prs.lst,Qj (j:=o.1) e3,?_⟩
  refine⟨_,rfl,c,_,_,rfl,hc.sq,l,_,_,_,rfl,rfl,hP.prs.lst,Qj (j:=o.2) e4,?_⟩
  unfold Pl.stepHigher at k
  refine⟨a,_,_,rfl,ha.sq,c,_,_,rfl,hc.sq,rfl,_,rfl,Qz (fun g1=>?_) (fun g1=>?_)⟩
  ·have g1:(s.1:Int)=o.1:=by simpa using g1
   rw[if_pos (show s.1=o.1 by lia)] at k
   exact⟨_,rfl,_,rfl,_,rfl,c3,c4,c2,_,_,_,rfl,p3,p4,p2,Zx hsm _,Zx hsm _,Zx hsm _,_,_,rfl,rfl,k⟩
  ·have g1:¬ (s.1:Int)=o.1:=by simpa using g1
   rw[if_neg (show ¬ s.1=o.1 by lia)] at k
   refine⟨c1,_,_,rfl,p1,c3,_,_,rfl,p3,_,_,rfl,rfl,_,rfl,Qz (fun g2=>?_) (fun g2=>?_)⟩
   ·have g2:((S.pt s.1).x:Int)<(S.pt o.1).x:=of_decide_eq_true g2
    rw[if_pos (show (S.pt s.1).x<(S.pt o.1).x by lia)] at k
    exact⟨_,rfl,_,rfl,_,rfl,c1,c2,c3,_,_,_,rfl,p1,p2,p3,Zx hsm _,Zx hsm _,Zx hsm _,_,_,rfl,rfl,k⟩
   ·have g2:¬ ((S.pt s.1).x:Int)<(S.pt o.1).x:=fun q=>g2 (decide_eq_true q)
    rw[if_neg (show ¬ (S.pt s.1).x<(S.pt o.1).x by lia)] at k
    exact⟨_,rfl,_,rfl,_,rfl,c3,c4,c1,_,_,_,rfl,p3,p4,p1,Zx hsm _,Zx hsm _,Zx hsm _,_,_,rfl,rfl,k⟩
theorem Xx.same{H H':Hp}{v:V} {b:Option (Nat×Nat)} (h:Xx H v b) (e:Qp H H'):Xx H' v b:=by
 cases b with
 | none=>exact h
 | some s=>obtain⟨a,ea,hp⟩:=h;exact⟨a,ea,e _ _ hp⟩
theorem qP{S:Plan}{l:Nat×Nat}{n:Nat}(h1:l.1<n)(h2:l.2<n):(Pl.stepOf S l).1<n∧(Pl.stepOf S l).2<n:=by
 unfold Pl.stepOf
 by_cases q:(S.pt l.1).x<(S.pt l.2).x
 ·rw[if_pos q];exact⟨h1,h2⟩
 ·rw[if_neg q];exact⟨h2,h1⟩
theorem under_or(S:Plan)(z:Pt) (b:Option (Nat×Nat)) (l:Nat×Nat):Pl.underStep S z b l=some (Pl.stepOf S l)∨Pl.underStep S z b l=b:=by
 cases b with
 | none=>
  by_cases q:(Pl.stepBelow S (Pl.stepOf S l) z&&true)=true
  ·left;exact if_pos q
  ·right;exact if_neg q
 | some o=>
  by_cases q:(Pl.stepBelow S (Pl.stepOf S l) z&&Pl.stepHigher S (Pl.stepOf S l) o)=true
  ·left;exact if_pos q
  ·right;exact if_neg q
theorem best_lt{S:Plan}(hL:Z3 S){z:Pt}:∀ (ls:List (Nat×Nat)) (b:Option (Nat×Nat)),(∀ l∈ls,l∈S.lines)→(∀ s,b=some s→s.1<S.pts.length∧s.2<S.pts.length)→∀ s,ls.foldl (Pl.underStep S z) b=some s→s.1<S.pts.length∧s.2<S.pts.length
 | [],b,_,hb=>hb
 | l::ls,b,hl,hb=>by
  rw[xg]
  refine best_lt hL ls _ (fun x hx=>hl x (by simp[hx])) ?_
  intro s hs
  have h:=hL l (hl l (by simp))
  rcases under_or S z b l with e | e
  ·rw[e] at hs
   rw[←Option.some.inj hs];exact qP (by lia) h.2
  ·rw[e] at hs;exact hb s hs
theorem ok_su{f:Addr}{fd:FuncData}(F:Fun K "step_under" "step_under" sSU f fd)(T:ZP K mg C) (B1:Has P w K mg base 2 "is_step_below" ["points","step","mark"] (spSB K)) (B2:Has P w K mg base 2 "is_higher" ["points","step","other"] (spHi K)):QI P w K mg base CX0 3 f fd ["drawing","mark"] (spSU K C):=by
 refine F.ok scSU (fun vs H Q E h=>?_) (fun cdv A outer s H vs Q E hr h=>?_)
 ·obtain⟨d,a,z,S,dx,lp,ll,lm,ap,al,am,rfl,_⟩:=h
  rfl
 ·obtain⟨d,a,z,S,dx,lp,ll,lm,ap,al,am,rfl,D,hz,sz,O,k⟩:=h
  refine⟨_,Qb (Qs (i:=2) scSU.nd rfl (Or.inl rfl) (QB (pv 0) rfl))
   (Qb (Qs (i:=3) scSU.nd rfl (Or.inl rfl) Q5)
   (Qb (QQ PassesOwn.never rfl (Q6 (QB (pv 0) rfl)) (Qv (i:=4) scSU.nd rfl (Or.inl rfl))
    (Qb (Qs (i:=5) scSU.nd rfl (Or.inl rfl) (qd (Qu ZL (Qx QM (Qx QC (pv 2) (QR 4) (fun _ _=>rfl)) Qg (fun _ _=>rfl)) (Qx QM (Qx QC (pv 2) (Q0 4) (fun _ _=>rfl)) Qg (fun _ _=>rfl)) (Qo _)) (pv 4) (Q4 (Qa (Q0 4) (Qa (QR 4) Qc)))))
    (Qe (QH (Jm (Zf (Qt B1 hr (Qa (pv 2) (Qa (pv 5) (Qa (pv 1) Qc))))) (Ym (Yb (Zg (pc_isN (pv 3))) (Z9 (Zf (Qt B2 hr (Qa (pv 2) (Qa (pv 5) (Qa (pv 3) Qc))))))).pt)).pt
     (Qe (Qs (i:=3) scSU.nd rfl (Or.inl rfl) (pv 5))) Qr))))
   (Qe (Qi (pv 3))))),?_⟩
  refine⟨_,rfl,d,C,dx,_,_,rfl,D.ins,T.cl,T.nP,Xc _ _ _ _ _,?_⟩
  refine⟨_,rfl,d,C,dx,_,_,rfl,D.ins,T.cl,T.nL,qo _ _ _ _ _,ll,rfl,⟨_,D.lin.lst⟩,Zq (K:=K) (a:=ll) (xs:=al.map V.ref) (fun i σ H'=>∃(v3:V)(v4 v5:Option V),σ=[some (.ref d),some (.ref a),some (.ref lp),some v3,v4,v5]∧Qp H H'∧Xx H' v3 ((S.lines.take i).foldl (Pl.underStep S z) none))
   ⟨_,none,none,rfl,Qp.refl _,rfl⟩ (fun i σ H' _ ⟨_,_,_,_,s1,_⟩=>(D.same s1).lin.lst) ?_ ?_⟩
  ·rintro i x σ H1 hx ⟨v3,v4,v5,rfl,s1,hb⟩
   obtain⟨c,hc,rfl⟩:=Zn hx
   have D1:=D.same s1
   obtain⟨hi,hpq⟩:=D1.ln hc
   have hpr:Pr H1 c S.lines[i]:=D1.lin.at_ i c S.lines[i] hc (yd hi)
   obtain⟨g1,g2⟩:=O.lin S.lines[i] (yo hi)
   have P1:qz K H1 lp ap S:=⟨D1.pts⟩
   obtain⟨e1,he1,q1⟩:=P1.at' (i:=S.lines[i].1) (by lia)
   obtain⟨e2,he2,q2⟩:=P1.at' (i:=S.lines[i].2) g2
   have et:S.lines.take (i+1)=S.lines.take i++[S.lines[i]]:=by rw[jo hi]
   have fstep:(S.lines.take (i+1)).foldl (Pl.underStep S z) none=Pl.underStep S z ((S.lines.take i).foldl (Pl.underStep S z) none) S.lines[i]:=by
    rw[et,List.foldl_append];rfl
   have blt:=best_lt O.lin (z:=z) (S.lines.take i) none (fun l hl=>xk hl) (fun s h=>by cases h)
   generalize (S.lines.take i).foldl (Pl.underStep S z) none=best at *
   obtain⟨sl1,sl2⟩:=qP (S:=S) (l:=S.lines[i]) (n:=S.pts.length) (by lia) g2
   have YL:∀(H2:Hp)(t:Addr),Qp H1 H2→Pr H2 t (Pl.stepOf S S.lines[i])→
     tIfS (tAnd (tB (tCall (spSB K) [] E0 (XY (Zt 2) (XY (Zt 5) (XY (Zt 1) zq))))) (tOr (tB (tIsN (Zt 3))) (tB (tCall (spHi K) [] E0 (XY (Zt 2) (XY (Zt 5) (XY (Zt 3) zq))))))) (tAsg (Zt 5) (Zp 3)) tNext
      { nx:=fun σ H'=>∃(v3:V)(v4 v5:Option V),σ=[some (.ref d),some (.ref a),some (.ref lp),some v3,v4,v5]∧Qp H H'∧Xx H' v3 ((S.lines.take (i+1)).foldl (Pl.underStep S z) none),rt:=Q,bk:=fun _ _=>False,ct:=fun σ H'=>∃(v3:V)(v4 v5:Option V),σ=[some (.ref d),some (.ref a),some (.ref lp),some v3,v4,v5]∧Qp H H'∧Xx H' v3 ((S.lines.take (i+1)).foldl (Pl.underStep S z) none) }
      [some (.ref d),some (.ref a),some (.ref lp),some v3,some (.ref c),some (.ref t)] H2:=by
    intro H2 t s2 ht
    have s12:=s1.trans s2
    have P2:=P1.same s2
    have hb2:=hb.same s2
    rw[fstep]
    refine⟨_,rfl,_,rfl,_,rfl,lp,t,a,ap,S,_,z,rfl,P2,ht,Qp.tup s12 hz,sz,O.sm,sl1,sl2,_,rfl,Qz (fun h1=>?_) (fun h1=>?_)⟩
    ·cases best with
     | none=>
      have hv:v3=.non:=hb2
      subst hv
      refine⟨_,rfl,_,rfl,Qz (fun h2=>qh ?_) (fun h2=>absurd rfl h2)⟩
      refine⟨_,rfl,_,_,_,rfl,s12,?_⟩
      have e:Pl.underStep S z none S.lines[i]=some (Pl.stepOf S S.lines[i]):=by
       unfold Pl.underStep
       simp[h1]
      rw[e]
      exact⟨t,rfl,ht⟩
     | some o=>
      obtain⟨ao,rfl,ho⟩:=hb2
      obtain⟨o1,o2⟩:=blt o rfl
      refine⟨_,rfl,_,rfl,Qz (fun h2=>absurd h2 (by simp)) (fun h2=>?_)⟩
      refine⟨_,rfl,_,rfl,_,rfl,lp,t,ao,ap,S,_,o,rfl,P2,ht,ho,O.sm,sl1,sl2,o1,o2,_,rfl,Qz (fun h3=>?_) (fun h3=>?_)⟩
      ·refine⟨_,rfl,_,_,_,rfl,s12,?_⟩
       have e:Pl.underStep S z (some o) S.lines[i]=some (Pl.stepOf S S.lines[i]):=by
        unfold Pl.underStep
        simp[h1,h3]
       rw[e]
       exact⟨t,rfl,ht⟩
      ·refine⟨_,_,_,rfl,s12,?_⟩
       have h3:Pl.stepHigher S (Pl.stepOf S S.lines[i]) o=false:=by simpa using h3
       have e:Pl.underStep S z (some o) S.lines[i]=some o:=by
        unfold Pl.underStep
        simp[h1,h3]
       rw[e]
       exact⟨ao,rfl,ho⟩
    ·refine⟨_,_,_,rfl,s12,?_⟩
     have h1:Pl.stepBelow S (Pl.stepOf S S.lines[i]) z=false:=by simpa using h1
     have e:Pl.underStep S z best S.lines[i]=best:=by
      unfold Pl.underStep
      simp[h1]
     rw[e]
     exact hb2
   refine⟨_,rfl,c,_,_,rfl,hpq,lp,_,_,_,rfl,rfl,D1.pts.lst,Qj (j:=S.lines[i].1) he1,e1,_,_,_,rfl,rfl,q1,Qj (j:=0) rfl,
    _,rfl,c,_,_,rfl,hpq,lp,_,_,_,rfl,rfl,D1.pts.lst,Qj (j:=S.lines[i].2) he2,e2,_,_,_,rfl,rfl,q2,Qj (j:=0) rfl,_,_,rfl,rfl,_,rfl,Qz (fun h1=>?_) (fun h1=>?_)⟩
   ·have h1:((S.pt S.lines[i].1).x:Int)<(S.pt S.lines[i].2).x:=of_decide_eq_true h1
    have eso:Pl.stepOf S S.lines[i]=S.lines[i]:=if_pos (by lia)
    exact⟨_,rfl,YL H1 c (Qp.refl _) (by rw[eso];exact hpr)⟩
   ·have h1:¬ ((S.pt S.lines[i].1).x:Int)<(S.pt S.lines[i].2).x:=fun q=>h1 (decide_eq_true q)
    have eso:Pl.stepOf S S.lines[i]=(S.lines[i].2,S.lines[i].1):=if_neg (by lia)
    refine⟨c,_,_,rfl,hpq,c,_,_,rfl,hpq,(by show 2≤sizeLine;decide),fun t ht=>?_⟩
    exact YL _ t (Ql _ ht) (by rw[eso];exact Qh)
  ·rintro σ H1 ⟨v3,v4,v5,rfl,s1,hb⟩
   rw[yc,D.lin.len,jZ] at hb
   exact⟨_,rfl,k H1 v3 s1 hb⟩
end
end Gp
set_option Elab.async false
set_option linter.all false
set_option maxRecDepth 100000
namespace Gp
open PySem PySem.Spec PyProof.Rows L2
open Gla (Pt Plan Mark)
def prD(s:Nat×Nat):PyData:=.tuple [.int (s.1:Int),.int (s.2:Int)]
theorem Pr.dp{K:z8}{H:Hp}{a:Addr}{s:Nat×Nat}(h:Pr H a s):Dp K H (.ref a) (prD s):=.tup h.sq (.cons (.int _) (.cons (.int _) .nil))
theorem qb(s:Nat×Nat):SeqAt.shaped (prD s)=true:=by
 unfold prD SeqAt.shaped
 rfl
theorem prD_eqv(s t:Nat×Nat):PyData.eqv (prD s) (prD t)=decide (s=t):=by
 unfold prD
 rw[PyData.eqv,PyData.eqvAll,PyData.eqvAll,PyData.eqvAll,PyData.eqv,PyData.eqv,yw]
 simp only[G1,yk,beq_iff_eq,decide_eq_true_eq]
 constructor
 ·rintro⟨h1,h2⟩
  exact Prod.ext (by lia) (by lia)
 ·rintro rfl;exact⟨rfl,rfl⟩
def spFL(K:z8):Sp:=fun vs H Q _=>∃(l a:Addr)(ap:List Addr)(S:Plan)(s:Nat×Nat)(i j:Int)(m n:Nat),vs=[.ref l,.ref a,.int i,.int j]∧i=(m:Int)∧j=(n:Int)∧qz K H l ap S∧Pr H a s∧(∀ p∈S.pts,Sm p)∧s.1<S.pts.length∧s.2<S.pts.length∧m<S.pts.length∧n<S.pts.length∧Q (.bl (Pl.furtherLeft S s m n)) H
structure Ok10(S:Plan):Prop where
 good:Pl.Good S
 deg:∀ v,v<S.pts.length→2≤(S.near v).length
 sm:∀ p∈S.pts,Sm p
 ok5:Ok5 S
def spSA(K:z8):Sp:=fun vs H Q _=>∃(l b a:Addr)(ap as:List Addr)(S:Plan)(s:Nat×Nat),vs=[.ref l,.ref b,.ref a]∧qz K H l ap S∧qB K H b as S∧Pr H a s∧Ok10 S∧(Pl.dr S).isDart s∧
 ∀ H' t,Qp H H'→Pr H' t (Pl.nxt S s)→Q (.ref t) H'
abbrev sFL:Stmt:=top 38
abbrev sSA:Stmt:=top 39
abbrev sOut:Stmt:=top 40
theorem scFL:Qm ["points","step","one","other","back","here","one_side","other_side"] ["points","step","one","other"] (defScope sFL):=⟨rfl,rfl,rfl,by decide +kernel,rfl,by decide +kernel,by decide +kernel⟩
theorem scSA:Qm ["points","beside","step","best","number"] ["points","beside","step"] (defScope sSA):=⟨rfl,rfl,rfl,by decide +kernel,rfl,by decide +kernel,by decide +kernel⟩
theorem scOut:Qm ["points","beside","first","steps","step"] ["points","beside","first"] (defScope sOut):=⟨rfl,rfl,rfl,by decide +kernel,rfl,by decide +kernel,by decide +kernel⟩
section
variable {P:Program} {w:World} {K:z8} {mg:Str→Option Value} {base:Heap} {C:Addr}
theorem ok_fl{f:Addr}{fd:FuncData}(F:Fun K "is_further_left" "is_further_left" sFL f fd) (T:Has P w K mg base 1 "turn" ["first","second","third"] (YJ K)) (Z:Has P w K mg base 1 "side" ["number"] spSide):QI P w K mg base CX0 2 f fd ["points","step","one","other"] (spFL K):=by
 refine F.ok scFL (fun vs H Q E h=>?_) (fun cdv A outer s H vs Q E hr h=>?_)
 ·obtain⟨l,a,ap,S,s,i,j,m,n,rfl,_⟩:=h
  rfl
 ·obtain⟨l,a,ap,S,s,i,j,m,n,rfl,rfl,rfl,hP,ha,hsm,h1,h2,h3,h4,k⟩:=h
  refine⟨_,Qb (Qs (i:=4) scFL.nd rfl (Or.inl rfl) (Qx QC (pv 0) (QR 1) (fun _ _=>rfl)))
   (Qb (Qs (i:=5) scFL.nd rfl (Or.inl rfl) (Qx QC (pv 0) (Q0 1) (fun _ _=>rfl)))
   (Qb (Qs (i:=6) scFL.nd rfl (Or.inl rfl) (Qt Z hr (Qa (Qt T hr (Qa (pv 4) (Qa (pv 5) (Qa (Qx QC (pv 0) (pv 2) (fun _ _=>rfl)) Qc)))) Qc)))
   (Qb (Qs (i:=7) scFL.nd rfl (Or.inl rfl) (Qt Z hr (Qa (Qt T hr (Qa (pv 4) (Qa (pv 5) (Qa (Qx QC (pv 0) (pv 3) (fun _ _=>rfl)) Qc)))) Qc)))
   (Qb (QH (Qu Y3 (pv 6) (pv 7) (Qo _)) (Qe (Qi (QO Ze (pv 6) (pv 7) (Qo _)))) Qr)
   (Qe (Qi (QO Ze (Qt T hr (Qa (pv 5) (Qa (Qx QC (pv 0) (pv 3) (fun _ _=>rfl)) (Qa (Qx QC (pv 0) (pv 2) (fun _ _=>rfl)) Qc)))) Qg (Qo _)))))))),?_⟩
  obtain⟨c1,e1,p1⟩:=hP.at' h1
  obtain⟨c2,e2,p2⟩:=hP.at' h2
  obtain⟨c3,e3,p3⟩:=hP.at' h3
  obtain⟨c4,e4,p4⟩:=hP.at' h4
  refine⟨_,rfl,a,_,_,rfl,ha.sq,l,_,_,_,rfl,rfl,hP.prs.lst,Qj (j:=s.1) e1,?_⟩
  refine⟨_,rfl,a,_,_,rfl,ha.sq,l,_,_,_,rfl,rfl,hP.prs.lst,Qj (j:=s.2) e2,?_⟩
  refine⟨_,rfl,_,rfl,_,rfl,_,rfl,l,_,_,_,rfl,rfl,hP.prs.lst,Qj (j:=m) e3,c1,c2,c3,_,_,_,rfl,p1,p2,p3,Zx hsm _,Zx hsm _,Zx hsm _,_,rfl,?_⟩
  refine⟨_,rfl,_,rfl,_,rfl,_,rfl,l,_,_,_,rfl,rfl,hP.prs.lst,Qj (j:=n) e4,c1,c2,c4,_,_,_,rfl,p1,p2,p4,Zx hsm _,Zx hsm _,Zx hsm _,_,rfl,?_⟩
  unfold Pl.furtherLeft at k
  refine⟨_,rfl,_,rfl,rfl,_,rfl,Qz (fun g1=>?_) (fun g1=>?_)⟩
  ·have g1:¬ Pl.pySide (yh (S.pt s.1) (S.pt s.2) (S.pt m))=Pl.pySide (yh (S.pt s.1) (S.pt s.2) (S.pt n)):=by simpa using g1
   rw[if_pos g1] at k
   exact⟨_,rfl,_,rfl,_,_,rfl,rfl,k⟩
  ·have g1:Pl.pySide (yh (S.pt s.1) (S.pt s.2) (S.pt m))=Pl.pySide (yh (S.pt s.1) (S.pt s.2) (S.pt n)):=by simpa using g1
   rw[if_neg (fun z=>z g1)] at k
   exact⟨_,rfl,_,rfl,_,rfl,l,_,_,_,rfl,rfl,hP.prs.lst,Qj (j:=n) e4,_,rfl,_,rfl,l,_,_,_,rfl,rfl,hP.prs.lst,Qj (j:=m) e3,c2,c4,c3,_,_,_,rfl,p2,p4,p3,Zx hsm _,Zx hsm _,Zx hsm _,_,_,rfl,rfl,k⟩
theorem ok_sa{f:Addr}{fd:FuncData}(F:Fun K "step_after" "step_after" sSA f fd) (B:Has P w K mg base 2 "is_further_left" ["points","step","one","other"] (spFL K)):QI P w K mg base CX0 3 f fd ["points","beside","step"] (spSA K):=by
 refine F.ok scSA (fun vs H Q E h=>?_) (fun cdv A outer s H vs Q E hr h=>?_)
 ·obtain⟨l,b,a,ap,as,S,s,rfl,_⟩:=h
  rfl
 ·obtain⟨l,b,a,ap,as,S,s,rfl,hP,hB,ha,O,hd,k⟩:=h
  refine⟨_,Qb (Qs (i:=3) scSA.nd rfl (Or.inl rfl) Q5)
   (Qb (QQ PassesOwn.never rfl (Q6 (Qx QC (pv 1) (Q0 2) (fun _ _=>rfl))) (Qv (i:=4) scSA.nd rfl (Or.inl rfl))
    (Qe (QH (Jm (Qu Y3 (pv 4) (QR 2) (Qo _)) (Ym (Yb (Zg (pc_isN (pv 3))) (Z9 (Zf (Qt B hr (Qa (pv 0) (Qa (pv 2) (Qa (pv 4) (Qa (pv 3) Qc)))))))).pt)).pt
     (Qe (Qs (i:=3) scSA.nd rfl (Or.inl rfl) (pv 4))) Qr)))
   (Qe (Qi (Q4 (Qa (Q0 2) (Qa (pv 3) Qc)))))),?_⟩
  obtain⟨d1,d2⟩:=O.good.fine.dart_lt hd
  obtain⟨c,hc⟩:∃ c,as[s.2]?=some c:=⟨as[s.2]'(by rw[hB.len];exact d2),yd _⟩
  have hu:=hd.rev
  refine⟨_,rfl,a,_,_,rfl,ha.sq,b,_,_,_,rfl,rfl,hB.lst,Qj (j:=s.2) (v:=V.ref c) (by rw[yi,hc];rfl),c,rfl,⟨_,hB.at_ s.2 c hc⟩,Zq (K:=K) (a:=c) (xs:=ni (S.near s.2)) (fun i σ H'=>∃(best:Option Nat)(v4:Option V),σ=[some (.ref l),some (.ref b),some (.ref a),some (Yw best),v4]∧H'=H∧Pl.AInv S s.1 s.2 ((S.near s.2).take i) best)
   ⟨none,none,rfl,rfl,⟨fun _ c hc=>by simp at hc,fun b hb=>by cases hb⟩⟩ (fun i σ H' _ ⟨_,_,_,e,_⟩=>by rw[e];exact hB.at_ s.2 c hc) ?_ ?_⟩
  ·rintro i x σ H1 hx ⟨best,v4,rfl,rfl,I⟩
   have hi:i<(S.near s.2).length:=by
    have:=(List.getElem?_eq_some_iff.1 hx).1
    simpa [ni] using this
   obtain⟨rfl⟩:x=V.int ((S.near s.2)[i]:Int):=by
    unfold ni at hx
    rw[yi,yd hi] at hx
    exact (Option.some.inj hx).symm
   have et:(S.near s.2).take (i+1)=(S.near s.2).take i++[(S.near s.2)[i]]:=by rw[jo hi]
   have hn:=O.good.fine.near_iff.1 (yo hi)
   have hnl:=JS O.ok5.lin (yo hi)
   have st:=O.good.fine.after_step hu (fun c hc=>O.good.fine.near_iff.1 (xk hc)) I hn
   rw[et]
   have fin:∀ best',best'=Pl.afterStep S (s.1,s.2) best (S.near s.2)[i]→Pl.AInv S s.1 s.2 ((S.near s.2).take i++[(S.near s.2)[i]]) best':=fun best' e=>by rw[e];exact st
   refine⟨_,rfl,a,_,_,rfl,ha.sq,rfl,_,rfl,Qz (fun g1=>?_) (fun g1=>?_)⟩
   ·have g1:¬ ((S.near s.2)[i]:Int)=s.1:=by simpa using g1
    have g1':(S.near s.2)[i]≠s.1:=by lia
    cases best with
    | none=>
     refine⟨_,rfl,_,rfl,Qz (fun h2=>qh ?_) (fun h2=>absurd rfl h2)⟩
     refine⟨_,rfl,some (S.near s.2)[i],_,rfl,rfl,fin _ ?_⟩
     unfold Pl.afterStep
     rw[if_pos ⟨g1',rfl⟩]
    | some o=>
     have ol:o<S.pts.length:=(O.good.fine.dart_lt (I.some_ o rfl).1).2
     refine⟨_,rfl,_,rfl,Qz (fun h2=>absurd h2 (by simp[Yw])) (fun h2=>?_)⟩
     refine⟨_,rfl,_,rfl,_,rfl,_,rfl,l,a,ap,S,s,_,_,(S.near s.2)[i],o,rfl,rfl,rfl,hP,ha,O.sm,d1,d2,hnl,ol,_,rfl,Qz (fun h3=>?_) (fun h3=>?_)⟩
     ·refine⟨_,rfl,some (S.near s.2)[i],_,rfl,rfl,fin _ ?_⟩
      unfold Pl.afterStep
      rw[if_pos ⟨g1',h3⟩]
     ·refine⟨some o,_,rfl,rfl,fin _ ?_⟩
      unfold Pl.afterStep
      rw[if_neg (fun z=>h3 z.2)]
   ·have g1:((S.near s.2)[i]:Int)=s.1:=by simpa using g1
    refine⟨best,_,rfl,rfl,fin _ ?_⟩
    unfold Pl.afterStep
    rw[if_neg (fun z=>z.1 (by show _=s.1;lia))]
  ·rintro σ H1 ⟨best,v4,rfl,rfl,I⟩
   have e:(ni (S.near s.2)).length=(S.near s.2).length:=by simp[ni]
   rw[e,jZ] at I
   have:=O.good.fine.after_all (u:=s.1) (v:=s.2) hd (O.deg s.2 d2) I
   subst this
   refine⟨a,_,_,rfl,ha.sq,_,rfl,(by show 2≤sizeLine;decide),fun t ht=>?_⟩
   exact k _ t (Ql _ ht) Qh
end
end Gp
set_option Elab.async false
set_option linter.all false
set_option maxRecDepth 100000
namespace Gp
open PySem PySem.Spec PyProof.Rows L2
open Gla (Pt Plan Mark)
abbrev sCM:Stmt:=top 41
abbrev sUP:Stmt:=top 42
theorem scCM:Qm ["drawing","beside","taken","number","mark","first","step"] ["drawing"] (defScope sCM):=⟨rfl,rfl,rfl,by decide +kernel,rfl,by decide +kernel,by decide +kernel⟩
theorem scUP:Qm ["drawing","panes"] ["drawing"] (defScope sUP):=⟨rfl,rfl,rfl,by decide +kernel,rfl,by decide +kernel,by decide +kernel⟩
structure StAt(K:z8)(H:Hp)(t:Addr)(ts:List Addr) (ds:List (Nat×Nat)):Prop where
 lst:SqL K H t (ts.map V.ref)
 len:ts.length=ds.length
 at_:∀(i:Nat)(a:Addr)(x:Nat×Nat),ts[i]?=some a→ds[i]?=some x→Pr H a x
theorem StAt.same{K:z8}{H H':Hp}{t:Addr}{ts:List Addr} {ds:List (Nat×Nat)} (h:StAt K H t ts ds) (e:Qp H H'):StAt K H' t ts ds:=⟨e.seq h.lst,h.len,fun i a x h1 h2=>e _ _ (h.at_ i a x h1 h2)⟩
def spOut(K:z8):Sp:=fun vs H Q _=>∃(l b a:Addr)(ap as:List Addr)(S:Plan)(s:Nat×Nat)(O:Ok10 S),vs=[.ref l,.ref b,.ref a]∧qz K H l ap S∧qB K H b as S∧Pr H a s∧(Pl.dr S).isDart s∧
 ∀ H' t ts,Qp H H'→StAt K H' t ts (O.good.orb s)→Q (.ref t) H'
theorem wk_get{nx:Pl.Dt→Pl.Dt}{d:Pl.Dt}{k i:Nat}(h:i<k):(Pl.wk nx d k)[i]?=some (Pl.it nx i d):=by
 rw[yd (by rw[Pl.wk_length];exact h),Pl.wk_getElem]
section
variable {P:Program} {w:World} {K:z8} {mg:Str→Option Value} {base:Heap} {C:Addr}
theorem ok_out{f : Addr}{fd : FuncData}(F : Fun K "outline" "outline" sOut f fd) (B : Has P w K mg base 3 "step_after" ["points", "beside", "step"] (spSA K)) : QI P w K mg base CX0 4 f fd ["points", "beside", "first"] (spOut K) := by
  refine F.ok scOut (fun vs H Q E h => ?_) (fun cdv A outer s H vs Q E hr h => ?_)
  · obtain ⟨l, b, a, ap, as, S, s, O, rfl, _⟩ := h
    rfl
  · obtain ⟨l, b, a, ap, as, S, s, O, rfl, hP, hB, ha, hd, k⟩ := h
    refine ⟨_, Qb (Qs (i := 3) scOut.nd rfl (Or.inl rfl) (ZD (Qa (pv 2) Qc)))
      (Qb (Qs (i := 4) scOut.nd rfl (Or.inl rfl) (Qt B hr (Qa (pv 0) (Qa (pv 1) (Qa (pv 2) Qc)))))
      (Qb (J9 PassesOwn.never (Qu (op_neD hr.units) (pv 4) (pv 2) (Qo _))
        (Qb (Yn (qZ jg js jt Z4 (pv 3) (Qa (pv 4) Qc)))
        (Qe (Qs (i := 4) scOut.nd rfl (Or.inl rfl) (Qt B hr (Qa (pv 0) (Qa (pv 1) (Qa (pv 4) Qc))))))))
      (Qe (Qi (pv 3))))), ?_⟩
    have per := O.good.per hd
    have two := O.good.two hd
    have ple := O.good.per_le hd
    have dart := O.good.fine.rot.it_dart hd
    refine ⟨_, rfl, (by show 1 ≤ sizeLine; decide), fun t ht => ?_⟩
    have s0 := Ql (.lst [V.ref a]) ht
    refine ⟨_, rfl, _, rfl, _, rfl, l, b, a, ap, as, S, s, rfl, hP.same s0, hB.same s0, s0 _ _ ha, O, hd, fun H1 c s1 hc => ?_⟩
    have t1 : H1 t = some (.lst [V.ref a]) := s1 _ _ Qh
    have s01 : Qp H H1 := s0.trans s1
    refine ⟨fun m σ H' => ∃(c : Addr)(ts : List Addr)(j : Nat), σ = [some (.ref l), some (.ref b), some (.ref a), some (.ref t), some (.ref c)] ∧ Qp H H' ∧ H' t = some (.lst (ts.map V.ref)) ∧ ts.length = j ∧ 1 ≤ j ∧ j ≤ O.good.pr s ∧ m = O.good.pr s - j ∧ Pr H' c (Pl.it (Pl.nxt S) j s) ∧
        (∀(i : Nat)(x : Addr), ts[i]? = some x → Pr H' x (Pl.it (Pl.nxt S) i s)),
      ⟨O.good.pr s - 1, c, [a], 1, rfl, s01, t1, rfl, yl _, by lia, rfl, hc, fun i x hx => ?_⟩, ?_⟩
    · cases i with
      | zero => have e : a = x := Option.some.inj hx
                subst e; exact s01 _ _ ha
      | succ i => simp at hx
    · rintro m σ H2 ⟨c, ts, j, rfl, s2, ht2, hlen, j1, jk, rfl, hc2, hat⟩
      refine ⟨_, rfl, _, rfl, _, _, hc2.dp, Pr.dp (s := s) (show Pr H2 a s from s2 _ _ ha), qb _, qb _, _, rfl, Qz (fun h1 => ?_) (fun h1 => ?_)⟩
      · rw [prD_eqv] at h1
        have h1 : ¬ Pl.it (Pl.nxt S) j s = s := by simpa using h1
        have jlt : j < O.good.pr s := by
          rcases xH j (O.good.pr s) with q | q
          · exact q
          · exact absurd (by rw [show j = O.good.pr s by lia]; exact per.back) h1
        refine ⟨fun σ' H' => ∃(c : Addr)(ts : List Addr)(j' : Nat), σ' = [some (.ref l), some (.ref b), some (.ref a), some (.ref t), some (.ref c)] ∧ Qp H H' ∧ H' t = some (.lst (ts.map V.ref)) ∧ ts.length = j' ∧ 1 ≤ j' ∧ j' ≤ O.good.pr s ∧ O.good.pr s - (j + 1) = O.good.pr s - j' ∧ Pr H' c (Pl.it (Pl.nxt S) j' s) ∧
          (∀(i : Nat)(x : Addr), ts[i]? = some x → Pr H' x (Pl.it (Pl.nxt S) i s)), fun σ' H' h => ⟨O.good.pr s - (j + 1), by lia, h⟩, ?_⟩
        have hlz : (ts.map V.ref).length < sizeLine := by
          rw [yc, hlen]
          have := O.ok5.siz.2.1
          exact yu jlt (yE ple (yE (Nat.mul_le_mul_left 2 this) (by decide)))
        refine ⟨_, rfl, .inl ⟨rfl, _, SqL.of ht2⟩, _, rfl, t, _, _, rfl, rfl, ht2, hlz, ?_⟩
        generalize hH3 : upd H2 t (.lst (ts.map V.ref ++ [V.ref c])) = H3
        have kp : But t H2 H3 := fun x o e hne => by rw [← hH3, Qq hne]; exact e
        have t3 : H3 t = some (.lst (ts.map V.ref ++ [V.ref c])) := by rw [← hH3]; exact Qh
        have s3 : Qp H H3 := kp.same ht s2
        have pr3 : ∀ {x : Addr} {y : Nat × Nat}, Pr H2 x y → Pr H3 x y := fun {x y} h => kp _ _ h (q5 h ht2 (by intro z; cases z))
        refine ⟨_, rfl, _, rfl, _, rfl, l, b, c, ap, as, S, Pl.it (Pl.nxt S) j s, rfl, hP.same s3, hB.same s3, pr3 hc2, O, dart j, fun H4 c4 s4 hc4 => ?_⟩
        refine ⟨c4, ts ++ [c], j + 1, rfl, s3.trans s4, ?_, by simp [hlen], by lia, by lia, rfl, hc4, fun i x hx => ?_⟩
        · rw [s4 _ _ t3, jS]; rfl
        · rcases Y9 hx with ⟨_, h2⟩ | ⟨h2, h3⟩
          · exact s4 _ _ (pr3 (hat i x h2))
          · subst h3
            rw [h2, hlen]
            exact s4 _ _ (pr3 hc2)
      · rw [prD_eqv] at h1
        have h1 : Pl.it (Pl.nxt S) j s = s := by simpa using h1
        have je : j = O.good.pr s := by
          rcases xH j (O.good.pr s) with q | q
          · exact absurd h1 (per.first j (by lia) q)
          · lia
        refine ⟨_, rfl, ?_⟩
        refine k H2 t ts s2 ⟨SqL.of ht2, ?_, fun i x y hx hy => ?_⟩
        · rw [hlen, je]
          exact (Pl.wk_length _ _ _).symm
        · have hi : i < O.good.pr s := by rw [← je, ← hlen]; exact (List.getElem?_eq_some_iff.1 hx).1
          have e : y = Pl.it (Pl.nxt S) i s := by
            have : (Pl.wk (Pl.nxt S) s (O.good.pr s))[i]? = some y := hy
            rw [wk_get hi] at this
            exact (Option.some.inj this).symm
          rw [e]
          exact hat i x hx
end
def Jq(x:Nat×Nat):List Key:=[Sum.inl (x.1:Int),Sum.inl (x.2:Int)]
def kT (ds:List (Nat×Nat)):List (List Key×V):=ds.map (fun x=>(Jq x,V.bl true))
theorem keyT_inj{x y:Nat×Nat}(h:Jq x=Jq y):x=y:=by
 unfold Jq at h
 simp only[List.cons.injEq,Sum.inl.injEq,and_true] at h
 exact Prod.ext (by lia) (by lia)
theorem qg (ds:List (Nat×Nat)) (x:Nat×Nat):(Xr (kT ds) (Jq x)).isSome=decide (x∈ds):=by
 rw[←X7]
 unfold kT
 rw[Gh,yw,xz,decide_eq_true_eq]
 constructor
 ·rintro⟨m,hm,e⟩
  have e:Jq m=Jq x:=of_decide_eq_true e
  rw[←keyT_inj e];exact hm
 ·intro h
  exact⟨x,h,decide_eq_true rfl⟩
theorem kT_put {ds:List (Nat×Nat)} {x:Nat×Nat} (h:x∉ds):XF (kT ds) (Jq x) (V.bl true)=kT (ds++[x]):=by
 have hv:Xr (kT ds) (Jq x)=none:=by
  have:=qg ds x
  rw[decide_eq_false h] at this
  cases e:Xr (kT ds) (Jq x) with
  | none=>rfl
  | some v=>rw[e] at this;cases this
 rw[putK_new _ hv]
 simp[kT]
theorem Pr.key{H:Hp}{a:Addr}{x:Nat×Nat}(h:Pr H a x):H a=some (.tup ((Jq x).map kV)):=h
def XO(S:Plan):Option Nat:=(Gy S S.outlines 0 [] S.marks).map (xt S)
def YK(S:Plan):Option Nat:=if S.marks.length<S.outlines.length then some S.size else none
section
variable {P:Program} {w:World} {K:z8} {mg:Str→Option Value} {base:Heap} {C:Addr}
theorem ok_up{f:Addr}{fd:FuncData}(F:Fun K "unmarked_pane" "unmarked_pane" sUP f fd)(T:ZP K mg C)(U:Txt K mg) (M:Xh P w K mg base C 4 "byte_count" ["self"] (spBC K C)):QI P w K mg base CX0 5 f fd ["drawing"] (Zv K C (fun S=>Pl.Good S) YK):=by
 obtain⟨fm,fdm,hm,bm,G⟩:=M.ex
 refine F.ok scUP (fun vs H Q E h=>?_) (fun cdv A outer s H vs Q E hr h=>?_)
 ·obtain⟨d,S,dx,lp,ll,lm,ap,al,am,rfl,_⟩:=h
  rfl
 ·obtain⟨d,S,dx,lp,ll,lm,ap,al,am,rfl,D,O,k⟩:=h
  refine⟨_,Qb (Qs (i:=1) scUP.nd rfl (Or.inl rfl) (QD QU (QD Xu (QL Qw (by rfl) U.len PySem.boot_len (Qa (QB (pv 0) rfl) Qc)) (QL Qw (by rfl) U.len PySem.boot_len (Qa (QB (pv 0) rfl) Qc))) Qg))
   (Qb (QH (Qu ZL (QL Qw (by rfl) U.len PySem.boot_len (Qa (QB (pv 0) rfl) Qc)) (pv 1) (Qo _)) (Qe (Qi (Yd (pv 0) T.cl hm G hr bm .nil Zm))) Qr)
   (Qe (Qi Q5))),?_⟩
  have hno:=ZY S.w S.h lp ll lm (m := "byte_count") (by decide +kernel) (by decide +kernel) (by decide +kernel) (by decide +kernel) (by decide +kernel)
  have l1:((al.map V.ref).length:Int)=S.lines.length:=by rw[yc,D.lin.len]
  have l2:((ap.map V.ref).length:Int)=S.pts.length:=by rw[yc,D.pts.len,yc]
  have l3:((am.map V.ref).length:Int)=S.marks.length:=by rw[yc,D.mrk.len,yc]
  have eu:=O.euler
  refine⟨_,rfl,d,C,dx,_,_,rfl,D.ins,T.cl,T.nL,qo _ _ _ _ _,ll,_,rfl,.inl D.lin.lst,_,rfl,d,C,dx,_,_,rfl,D.ins,T.cl,T.nP,Xc _ _ _ _ _,lp,_,rfl,.inl D.pts.lst,_,_,rfl,rfl,_,_,rfl,rfl,?_⟩
  refine⟨_,rfl,d,C,dx,_,_,rfl,D.ins,T.cl,T.nM,df_m _ _ _ _ _,lm,_,rfl,.inl D.mrk.lst,_,rfl,_,_,rfl,rfl,_,rfl,Qz (fun h1=>?_) (fun h1=>?_)⟩
  ·have h1:((am.map V.ref).length:Int)<((al.map V.ref).length:Int)-((ap.map V.ref).length:Int)+1:=of_decide_eq_true h1
   rw[l1,l2,l3] at h1
   refine⟨_,rfl,d,dx,_,rfl,D.ins,hno,d,S,dx,lp,ll,lm,ap,al,am,rfl,D,?_⟩
   have e:YK S=some S.size:=if_pos (by lia)
   have:=k H (Qp.refl _)
   rw[e] at this
   exact this
  ·have h1:¬ ((am.map V.ref).length:Int)<((al.map V.ref).length:Int)-((ap.map V.ref).length:Int)+1:=fun q=>h1 (decide_eq_true q)
   rw[l1,l2,l3] at h1
   have e:YK S=none:=if_neg (by lia)
   have:=k H (Qp.refl _)
   rw[e] at this
   exact this
noncomputable def under {S:Plan} (G:Pl.Good S) (z:Pt):Nat×Nat:=(S.lines.foldl (Pl.underStep S z) none).getD (0,0)
theorem J3{S:Plan}(F:Pl.Fine S){z:Pt}(hz:z.y≤1048575):∀ (ls seen:List (Nat×Nat)) (b:Option (Nat×Nat)),(∀ l∈ls,l∈S.lines)→Pl.UInv S z seen b→Pl.UInv S z (seen++ls) (ls.foldl (Pl.underStep S z) b)
 | [],seen,b,_,I=>by rw[xM];exact I
 | l::ls,seen,b,hl,I=>by
  have:=J3 F hz ls (seen++[l]) (Pl.underStep S z b l) (fun x hx=>hl x (by simp[hx])) (F.under_step hz I (hl l (by simp)))
  rw[xh] at this
  exact this
theorem J2{S:Plan}(G:Pl.Good S){z:Pt}(hc:j3 S z=true):S.lines.foldl (Pl.underStep S z) none=some (under G z)∧Pl.Under S z (under G z):=by
 have c:=Pl.clr_of hc
 have hy:z.y≤1048575:=by have:=c.y1;have:=G.fine.h;lia
 have I:=J3 G.fine hy S.lines [] none (fun l hl=>hl) ⟨fun _ l hl=>by simp at hl,fun b hb=>by cases hb⟩
 rw[List.nil_append] at I
 obtain⟨e,he,hu⟩:=G.under_all hc I
 unfold under
 rw[he]
 exact⟨rfl,hu⟩
noncomputable def unders {S:Plan} (G:Pl.Good S):List (Nat×Nat):=S.marks.map (fun m=>under G m.at_)
theorem ok_cm{f:Addr}{fd:FuncData}(F:Fun K "crowding_mark" "crowding_mark" sCM f fd)(T:ZP K mg C)(U:Txt K mg) (M:Xh P w K mg base C 3 "mark_place" ["self","number"] (spMP K C)) (N:Xh P w K mg base C 1 "neighbours" ["self"] (spNb K C))
  (B1:Has P w K mg base 3 "step_under" ["drawing","mark"] (spSU K C)) (B2:Has P w K mg base 4 "outline" ["points","beside","first"] (spOut K)) :
  QI P w K mg base CX0 5 f fd ["drawing"] (Zv K C (fun S=>Ok10 S∧∀ m∈S.marks,j3 S m.at_=true) XO):=by
 obtain⟨fm,fdm,hm,bm,G⟩:=M.ex
 obtain⟨fn,fdn,hn,bn,GN⟩:=N.ex
 refine F.ok scCM (fun vs H Q E h=>?_) (fun cdv A outer s H vs Q E hr h=>?_)
 ·obtain⟨d,S,dx,lp,ll,lm,ap,al,am,rfl,_⟩:=h
  rfl
 ·obtain⟨d,S,dx,lp,ll,lm,ap,al,am,rfl,D,⟨O,hcl⟩,k⟩:=h
  have hu:=hu_of hr
  refine⟨_,Qb (Qs (i:=1) scCM.nd rfl (Or.inl rfl) (Yd (pv 0) T.cl hn GN (hr.mono (by decide)) bn .nil Zm))
   (Qb (Qs (i:=2) scCM.nd rfl (Or.inl rfl) pe_dnewT)
   (Qb (QQ PassesOwn.never rfl (Yr rfl U.enum (Qa (QB (pv 0) rfl) Qc)) (ZM (n:=2) rfl (QK (Qv (i:=3) scCM.nd rfl (Or.inl rfl)) (QK (Qv (i:=4) scCM.nd rfl (Or.inl rfl)) Zj)))
    (Qb (Qs (i:=5) scCM.nd rfl (Or.inl rfl) (Qt B1 (hr.mono (by decide)) (Qa (pv 0) (Qa (pv 4) Qc))))
    (Qb (QH (Zg (pc_din hu (pv 5) (pv 2))) (Qe (Qi (Zd (pv 0) T.cl hm G (hr.mono (by decide)) bm .nil Zm (Qa (pv 3) Qc)))) Qr)
    (Qe (QQ PassesOwn.never rfl (Q6 (Qt B2 hr (Qa (QB (pv 0) rfl) (Qa (pv 1) (Qa (pv 5) Qc))))) (Qv (i:=6) scCM.nd rfl (Or.inl rfl))
     (Qe (zG hu (pv 2) (pv 6) Xl rfl)))))))
   (Qe (Qi Q5)))),?_⟩
  have hno:=ZY S.w S.h lp ll lm (m := "mark_place") (by decide +kernel) (by decide +kernel) (by decide +kernel) (by decide +kernel) (by decide +kernel)
  have hno2:=ZY S.w S.h lp ll lm (m := "neighbours") (by decide +kernel) (by decide +kernel) (by decide +kernel) (by decide +kernel) (by decide +kernel)
  have hel:(unders O.good).length=S.marks.length:=by simp[unders]
  have heg:∀ i (h:i<S.marks.length),(unders O.good)[i]'(by lia)=under O.good S.marks[i].at_:=fun i h=>by simp[unders]
  have hU:∀ i (h:i<S.marks.length),Pl.Under S S.marks[i].at_ ((unders O.good)[i]'(by lia)):=fun i h=>by
   rw[heg i h];exact (J2 O.good (hcl _ (yo h))).2
  have hDt:∀ i (h:i<S.marks.length),(Pl.dr S).isDart ((unders O.good)[i]'(by lia)):=fun i h=>Or.inl (hU i h).mem
  obtain⟨tw1,tw2⟩:=O.good.twice_iff hel hcl hU
  refine⟨_,rfl,d,dx,_,rfl,D.ins,hno2,d,S,dx,lp,ll,lm,ap,al,am,rfl,D,O.ok5.lin,O.ok5.siz,fun H1 b as s1 B=>?_⟩
  intro g hg
  have s2:Qp H (upd H1 g (.dT [])):=s1.trans (Ql _ hg)
  have fg:H g=none:=s1.free hg
  have fg1:H1 g=none:=hg
  have D2:=D.same s2
  refine⟨_,rfl,d,C,dx,_,_,rfl,D2.ins,T.cl,T.nM,df_m _ _ _ _ _,lm,_,rfl,D2.mrk.lst,XG (K:=K) (a:=lm) (xs:=am.map V.ref) (fun i σ H'=>∃ (v3 v4 v5 v6:Option V) (ds:List (Nat×Nat)),σ=[some (.ref d),some (.ref b),some (.ref g),v3,v4,v5,v6]∧Qp H1 H'∧H' g=some (.dT (kT ds))∧ds.Nodup∧(∀ x∈ds,(Pl.dr S).isDart x)∧
    (∀ x,x∈ds↔∃ j,∃(hj:j<i)(hl:j<S.marks.length),x∈O.good.orb ((unders O.good)[j]'(by lia)))∧∀ j (hj:j<i) (hl:j<S.marks.length) k (hk:k<j),(unders O.good)[j]'(by lia)∉O.good.orb ((unders O.good)[k]'(by lia)))
   ⟨none,none,none,none,[],rfl,Ql _ hg,Qh,by simp,by simp,fun x=>by simp,fun j hj=>by lia⟩ (fun i σ H' _ ⟨_,_,_,_,_,_,s3,_⟩=>((D.same s1).same s3).mrk.lst) ?_ ?_⟩
  ·rintro i x σ H3 H4 hx ⟨v3,v4,v5,v6,ds,rfl,s3,hg3,hnd,hdd,hmem,hb⟩ s4'
   obtain⟨c,hc,rfl⟩:=Zn hx
   have s4:=s3.trans s4'
   have sH4:=s1.trans s4
   have D4:=D.same sH4
   obtain⟨hi,hp⟩:=D4.mkI hc
   obtain⟨ef,hUi⟩:=J2 O.good (hcl _ (yo hi))
   refine⟨_,rfl,_,rfl,d,c,S.marks[i].at_,S,dx,lp,ll,lm,ap,al,am,rfl,D4,hp,O.ok5.smm _ (yo _),O.ok5,fun H5 v s5' hbest=>?_⟩
   rw[ef] at hbest
   obtain⟨a,rfl,hpa⟩:=hbest
   have s5:=s4.trans s5'
   have hg5:H5 g=some (.dT (kT ds)):=s5' _ _ (s4' _ _ hg3)
   have D5:=D.same (s1.trans s5)
   refine⟨_,rfl,_,rfl,g,_,rfl,JM.t hg5 hpa.key,_,rfl,Qz (fun h1=>?_) (fun h1=>?_)⟩
   ·rw[qg] at h1
    have h1:under O.good S.marks[i].at_∈ds:=of_decide_eq_true h1
    rw[←heg i hi] at h1
    obtain⟨j,hj,hl,hx⟩:=(hmem _).1 h1
    refine⟨_,rfl,d,dx,_,rfl,D5.ins,hno,_,rfl,d,_,i,S,dx,lp,ll,lm,ap,al,am,rfl,rfl,D5,?_⟩
    have e:XO S=some (xt S i):=by
     unfold XO
     rw[tw1 i hi (fun j hj k hk=>hb j hj (by lia) k hk) ⟨j,hj,hx⟩];rfl
    have:=k H5 (s1.trans s5)
    rw[e] at this
    exact this
   ·rw[qg] at h1
    have h1n:under O.good S.marks[i].at_∉ds:=by simpa using h1
    clear h1
    rw[←heg i hi] at h1n hpa
    generalize he:(unders O.good)[i]'(by lia)=e at *
    have hde:(Pl.dr S).isDart e:=by rw[←he];exact hDt i hi
    have disj:∀ x∈O.good.orb e,x∉ds:=fun x hx hxd=>by
     obtain⟨j,hj,hl,hxo⟩:=(hmem x).1 hxd
     apply h1n
     exact (hmem e).2 ⟨j,hj,hl,O.good.orb_trans (hDt j hl) hxo (O.good.orb_symm hde hx)⟩
    have odart:∀ x∈O.good.orb e,(Pl.dr S).isDart x:=fun x hx=>O.good.dart_orb hde hx
    have ond:=O.good.orb_nodup hde
    refine⟨_,rfl,d,C,dx,_,_,rfl,D5.ins,T.cl,T.nP,Xc _ _ _ _ _,_,rfl,_,rfl,lp,b,a,ap,as,S,e,O,rfl,⟨D5.pts⟩,B.same s5,hpa,hde,fun H6 t ts s6' St=>?_⟩
    have s6:=s5.trans s6'
    have hg6:H6 g=some (.dT (kT ds)):=s6' _ _ hg5
    refine⟨t,rfl,⟨_,St.lst⟩,Zq (K:=K) (a:=t) (xs:=ts.map V.ref) (fun j σ H'=>∃ v6:Option V,σ=[some (.ref d),some (.ref b),some (.ref g),some (.int (i:Int)),some (.ref c),some (.ref a),v6]∧But g H6 H'∧H' g=some (.dT (kT (ds++(O.good.orb e).take j))))
     ⟨_,rfl,fun x o h _=>h,(by rw[List.take_zero,xM];exact hg6)⟩ (fun j σ H' _ ⟨_,_,kp,_⟩=>?_) ?_ ?_⟩
    ·rcases St.lst with (h | ⟨o,h⟩) | h
     ·exact .inl (.inl (kp _ _ h (q5 h hg6 (by intro z;cases z))))
     ·exact .inl (.inr ⟨o,kp _ _ h (q5 h hg6 (by intro z;cases z))⟩)
     ·exact .inr h
    ·rintro j x σ H7 hx ⟨v6',rfl,kp,hg7⟩
     obtain⟨c7,hc7,rfl⟩:=Zn hx
     have hj:j<(O.good.orb e).length:=by rw[←St.len];exact (List.getElem?_eq_some_iff.1 hc7).1
     have hx7:(O.good.orb e)[j]?=some (O.good.orb e)[j]:=yd hj
     have hp6:=St.at_ j c7 _ hc7 hx7
     have hp7:Pr H7 c7 (O.good.orb e)[j]:=kp _ _ hp6 (q5 hp6 hg6 (by intro z;cases z))
     have nin:(O.good.orb e)[j]∉ds++(O.good.orb e).take j:=fun h=>by
      rcases List.mem_append.1 h with h | h
      ·exact disj _ (yo hj) h
      ·obtain⟨m,hm,em⟩:=List.mem_iff_getElem.1 h
       rw[yB] at hm
       rw[Gj] at em
       have:=(Gw ond).1 em
       lia
     have len:(kT (ds++(O.good.orb e).take j)).length<sizeLine:=by
      have nd2:(ds++(O.good.orb e).take j).Nodup:=by
       rw[Gi]
       refine⟨hnd,ond.sublist (List.take_sublist _ _),fun x hx y hy exy=>?_⟩
       subst exy
       exact disj x (xk hy) hx
      have:=Pl.nodup_len (m:=(Pl.dr S).darts) nd2 (fun x hx=>Pl.Dr.mem_darts.2 (by
       rcases List.mem_append.1 hx with h | h
       ·exact hdd x h
       ·exact odart x (xk h)))
      rw[Pl.Dr.darts_length] at this
      have e2:(Pl.dr S).E.length=S.lines.length:=by show (S.lines.map (Pl.ori S)).length=_;simp
      rw[e2] at this
      have z:=O.ok5.siz.2.1
      unfold kT
      rw[yc]
      exact yF (yE this (Nat.mul_le_mul_left 2 z)) (by decide)
     refine⟨_,rfl,_,rfl,g,_,rfl,z7.t hg7 hp7.key len,?_⟩
     rw[kT_put nin]
     refine⟨_,rfl,fun x o h hne=>by rw[Qq hne];exact kp x o h hne,?_⟩
     rw[Qh,xh,jo hj]
    ·rintro σ H7 ⟨v6',rfl,kp,hg7⟩
     rw[yc,St.len,jZ] at hg7
     refine⟨_,_,_,_,ds++O.good.orb e,rfl,?_,hg7,?_,?_,?_,?_⟩
     ·exact kp.same fg1 s6
     ·rw[Gi]
      exact⟨hnd,ond,fun x hx y hy exy=>by subst exy;exact disj x hy hx⟩
     ·intro x hx
      rcases List.mem_append.1 hx with h | h
      ·exact hdd x h
      ·exact odart x h
     ·intro x
      rw[Up,hmem]
      constructor
      ·rintro (⟨j,hj,hl,h⟩ | h)
       ·exact⟨j,by lia,hl,h⟩
       ·exact⟨i,by lia,hi,by rw[he];exact h⟩
      ·rintro⟨j,hj,hl,h⟩
       by_cases q:j=i
       ·subst q;right;rw[he] at h;exact h
       ·exact Or.inl ⟨j,by lia,hl,h⟩
     ·intro j hj hl k hk
      by_cases q:j=i
      ·subst q
       rw[he]
       intro hin
       exact h1n ((hmem e).2 ⟨k,hk,by lia,hin⟩)
      ·exact hb j (by lia) hl k hk
  ·rintro σ H3 ⟨v3,v4,v5,v6,ds,rfl,s3,hg3,hnd,hdd,hmem,hb⟩
   have e:XO S=none:=by
    unfold XO
    rw[tw2 (fun i hi k hk=>hb i (by rw[yc,D.mrk.len,yc];exact hi) hi k hk)];rfl
   have:=k H3 (s1.trans s3)
   rw[e] at this
   exact this
end
end Gp
set_option Elab.async false
set_option linter.all false
set_option maxRecDepth 100000
namespace Gp
open PySem PySem.Spec PyProof.Rows L2
open Gla (Pt Plan Mark)
structure Bnds(K:z8)(mg:Str→Option Value)(x:Str) (rows:List (List Int)):Prop where
 ex:∃(q:Addr)(as:List Addr),mg x=some (.ref q)∧(∀ H,SqT K H q (as.map V.ref))∧as.length=rows.length∧∀(i:Nat)(a:Addr)(r:List Int),as[i]?=some a→rows[i]?=some r→∀ H,SqT K H a (r.map V.int)
theorem qX{X:Cx}{x:Str}{a:Addr}{pos:Pos} (h:X.mg x=some (.ref a)) (hg:Gl X x:=by rfl) (hd:(x==("__debug__" : Str))=false:=by decide):PE X (.Name x pos) (tC (.ref a)):=Q7 hg h rfl hd
def JH(b:ye)(r:Nat×Nat×Nat)(s:Nat):Bool:=decide (z9 b (s+r.1) 4<r.2.1) || decide (r.2.2<z9 b (s+r.1) 4)
def XQ (l:List (Nat×Nat×Nat)):List (List Int):=l.map fun r=>[(r.1:Int),(r.2.1:Int),(r.2.2:Int)]
def oob(b:ye)(s:Nat) (l:List (Nat×Nat×Nat)):Option Nat:=(l.find? fun r=>JH b r s).map fun r=>s+r.1
abbrev sOob:Stmt:=top 67
abbrev sPP2:Stmt:=top 68
abbrev sWS:Stmt:=top 71
abbrev sWK:Stmt:=top 72
def spOob(K:z8):Sp:=fun vs H Q _=>∃ (a q:Addr) (b:ye) (s:Nat) (i:Int) (as:List Addr) (l:List (Nat×Nat×Nat)),vs=[.ref a,.int i,.ref q]∧i=(s:Int)∧SqL K H a (bl b)∧(∀ H,SqT K H q (as.map V.ref))∧as.length=l.length∧
 (∀(i:Nat)(c:Addr)(r:Nat×Nat×Nat),as[i]?=some c→l[i]?=some r→∀ H,SqT K H c [.int (r.1:Int),.int (r.2.1:Int),.int (r.2.2:Int)])∧∀ H',Qp H H'→Q (Yw (oob b s l)) H'
theorem scOob:Qm ["workshop","start","bounds","bound","number"] ["workshop","start","bounds"] (defScope sOob):=⟨rfl,rfl,rfl,by decide +kernel,rfl,by decide +kernel,by decide +kernel⟩
theorem find_at{α:Type}{l:List α}{p:α→Bool}{i:Nat}(hi:i<l.length)(h:p l[i]=true) (hb:∀ j (hj:j<i),p (l[j]'(by lia))=false):l.find? p=some l[i]:=by
 rw[xx]
 exact⟨h,i,hi,rfl,fun j hj=>by rw[hb j hj];rfl⟩
theorem find_no{α:Type}{l:List α}{p:α→Bool} (h:∀ i (hi:i<l.length),p l[i]=false):l.find? p=none:=by
 rw[y6]
 intro x hx
 obtain⟨i,hi,rfl⟩:=List.mem_iff_getElem.1 hx
 rw[h i hi];simp
section
variable {P:Program} {w:World} {K:z8} {mg:Str→Option Value} {base:Heap} {C:Addr}
theorem ok_oob{f:Addr}{fd:FuncData}(F:Fun K "out_of_bounds" "out_of_bounds" sOob f fd) (N:Has P w K mg base 1 "number_at" ["octets","place","size"] (YY K)):QI P w K mg base CX0 2 f fd ["workshop","start","bounds"] (spOob K):=by
 refine F.ok scOob (fun vs H Q E h=>?_) (fun cdv A outer s H vs Q E hr h=>?_)
 ·obtain⟨a,q,b,s,i,as,l,rfl,_⟩:=h
  rfl
 ·obtain⟨a,q,b,s,i,as,l,rfl,rfl,hS,hq,hlen,hat,k⟩:=h
  refine⟨_,Qb (QQ PassesOwn.never rfl (pi_tup (pv 2)) (Qv (i:=3) scOob.nd rfl (Or.inl rfl))
    (Qb (Qs (i:=4) scOob.nd rfl (Or.inl rfl) (Qt N hr (Qa (pv 0) (Qa (QD QU (pv 1) (Qx QM (pv 3) Qg (fun _ _=>rfl))) (Qa Qg Qc)))))
    (Qe (QH (Yb (Qu ZL (pv 4) (Qx QM (pv 3) Qg (fun _ _=>rfl)) (Qo _)) (Z9 (Qu Ze (pv 4) (Qx QM (pv 3) Qg (fun _ _=>rfl)) (Qo _)))).pt
     (Qe (Qi (QD QU (pv 1) (Qx QM (pv 3) Qg (fun _ _=>rfl))))) Qr))))
   (Qe (Qi Q5)),?_⟩
  refine⟨_,rfl,q,rfl,⟨_,hq H⟩,for_tup (K:=K) (a:=q) (xs:=as.map V.ref) (fun j σ H'=>∃ v3 v4:Option V,σ=[some (.ref a),some (.int (s:Int)),some (.ref q),v3,v4]∧Qp H H'∧∀ m (hm:m<j) (hl:m<l.length),JH b l[m] s=false)
   ⟨none,none,rfl,Qp.refl _,fun m hm=>by lia⟩ (fun i σ H' _ _=>hq H') ?_ ?_⟩
  ·rintro j x σ H1 hx ⟨v3,v4,rfl,s1,hb⟩
   obtain⟨c,hc,rfl⟩:=Zn hx
   have hj:j<l.length:=by rw[←hlen];exact (List.getElem?_eq_some_iff.1 hc).1
   have hr2:=hat j c l[j] hc (yd hj)
   refine⟨_,rfl,_,rfl,_,rfl,c,_,_,_,rfl,rfl,hr2 _,Qj (j:=0) rfl,_,_,rfl,rfl,a,b,s+l[j].1,4,_,_,rfl,(by show (s:Int)+(l[j].1:Int)=_;lia),rfl,s1.seq hS,fun H2 s2'=>?_⟩
   have s2:=s1.trans s2'
   have ret:JH b l[j] s=true→Q (.int ((s:Int)+(l[j].1:Int))) H2:=fun h=>by
    have e:oob b s l=some (s+l[j].1):=by
     unfold oob
     rw[find_at (p:=fun r=>JH b r s) hj h (fun m hm=>hb m hm (by lia))];rfl
    have:=k H2 s2
    rw[e] at this
    have e2:((s+l[j].1:Nat):Int)=(s:Int)+(l[j].1:Int):=by lia
    have this:Q (.int ((s+l[j].1:Nat):Int)) H2:=this
    rw[e2] at this
    exact this
   refine⟨_,rfl,_,rfl,c,_,_,_,rfl,rfl,hr2 _,Qj (j:=1) rfl,_,_,rfl,rfl,_,rfl,Qz (fun h1=>qh ?_) (fun h1=>?_)⟩
   ·have h1:((z9 b (s+l[j].1) 4:Nat):Int)<(l[j].2.1:Int):=of_decide_eq_true h1
    refine⟨_,rfl,_,rfl,c,_,_,_,rfl,rfl,hr2 _,Qj (j:=0) rfl,_,_,rfl,rfl,ret ?_⟩
    unfold JH
    rw[decide_eq_true (show z9 b (s+l[j].1) 4<l[j].2.1 by lia)];rfl
   ·have h1:¬ ((z9 b (s+l[j].1) 4:Nat):Int)<(l[j].2.1:Int):=fun z=>h1 (decide_eq_true z)
    refine⟨_,rfl,_,rfl,c,_,_,_,rfl,rfl,hr2 _,Qj (j:=2) rfl,_,_,rfl,rfl,_,rfl,Qz (fun h2=>?_) (fun h2=>?_)⟩
    ·have h2:(l[j].2.2:Int)<((z9 b (s+l[j].1) 4:Nat):Int):=of_decide_eq_true h2
     refine⟨_,rfl,_,rfl,c,_,_,_,rfl,rfl,hr2 _,Qj (j:=0) rfl,_,_,rfl,rfl,ret ?_⟩
     unfold JH
     rw[decide_eq_true (show l[j].2.2<z9 b (s+l[j].1) 4 by lia),Bool.or_true]
    ·have h2:¬ (l[j].2.2:Int)<((z9 b (s+l[j].1) 4:Nat):Int):=fun z=>h2 (decide_eq_true z)
     refine⟨_,_,rfl,s2,fun m hm hl=>?_⟩
     by_cases e:m=j
     ·subst e
      unfold JH
      rw[decide_eq_false (show ¬ z9 b (s+l[m].1) 4<l[m].2.1 by lia),decide_eq_false (show ¬ l[m].2.2<z9 b (s+l[m].1) 4 by lia)];rfl
     ·exact hb m (by lia) hl
  ·rintro σ H1 ⟨v3,v4,rfl,s1,hb⟩
   have e:oob b s l=none:=by
    unfold oob
    rw[find_no (p:=fun r=>JH b r s) fun m hm=>hb m (by rw[yc,hlen];exact hm) hm];rfl
   have:=k H1 s1
   rw[e] at this
   exact this
end
def cb:List (Nat×Nat×Nat×Nat):=[(4,4,16,1048575),(8,4,16,1048575),(12,2,4,4096),(14,2,4,8192),(16,2,1,2048),(18,2,0,0)]
def JK(b:ye)(r:Nat×Nat×Nat×Nat):Bool:=decide (z9 b r.1 r.2.1<r.2.2.1) || decide (r.2.2.2<z9 b r.1 r.2.1)
def X3(b:ye):Option (Nat×Nat):=
 if b.length<20 then some (1,b.length) else if b.take 4≠Uu then some (1,0) else match cb.find? (JK b) with
  | some r=>some (2,r.1)
  | none=>if b.length≠20+8*z9 b 12 2+4*z9 b 14 2+12*z9 b 16 2 then some (3,20) else none
theorem cbad_within(b:ye)(p w lo hi:Nat):JK b (p,w,lo,hi)=!(yz lo hi (z9 b p w)):=by
 unfold JK yz
 simp only
 rw[yw]
 simp only[y8,decide_eq_true_eq,GW,Bool.and_eq_false_iff,decide_eq_false_iff_not]
 lia
theorem Y8(b:ye):ja b=match X3 b with
  | some f=>.error ⟨f.1,f.2⟩
  | none=>match (jJ b).fault with
   | some e=>.error e
   | none=>.ok (jJ b):=by
 unfold ja X3 cb UC Gla.SMALLEST Gla.LARGEST Gla.POINTS Gla.LINES Gla.MARKS
 by_cases h1:b.length<20
 ·simp only[h1,if_true]
 ·simp only[h1,if_false]
  by_cases h2:b.take 4≠Uu
  ·simp only[h2,if_true,ne_eq,not_false_iff]
  ·simp only[h2,if_false]
   have key:∀ p w lo hi,JK b (p,w,lo,hi)=!(yz lo hi (z9 b p w)):=cbad_within b
   simp only[jQ,key,List.find?_nil]
   cases w1:yz 16 1048575 (z9 b 4 4) <;> simp
   cases w2:yz 16 1048575 (z9 b 8 4) <;> simp
   cases w3:yz 4 4096 (z9 b 12 2) <;> simp
   cases w4:yz 4 8192 (z9 b 14 2) <;> simp
   cases w5:yz 1 2048 (z9 b 16 2) <;> simp
   have w6:yz 0 0 (z9 b 18 2)=decide (z9 b 18 2=0):=by
    unfold yz
    rw[yw];simp
   rw[w6]
   by_cases h6:z9 b 18 2=0
   ·simp[h6]
    by_cases h7:b.length=20+8*z9 b 12 2+4*z9 b 14 2+12*z9 b 16 2
    ·simp[h7]
     cases (jJ b).fault <;> rfl
    ·simp[h7]
   ·simp[h6]
end Gp
set_option Elab.async false
set_option linter.all false
set_option maxRecDepth 100000
namespace Gp
open PySem PySem.Spec PyProof.Rows L2
open Gla (Pt Plan Mark)
def iD(l:List Int):PyData:=.list (l.map PyData.int)
theorem iD_lay:∀ l:List Int,PyData.canLayAll0 (l.map PyData.int)=true
 | []=>rfl
 | x::l=>by rw[yD,PyData.canLayAll0,iD_lay l];rfl
theorem iD_depth:∀ l:List Int,PyData.depthAll (l.map PyData.int)=0
 | []=>rfl
 | x::l=>by rw[yD,PyData.depthAll,iD_depth l];rfl
theorem Ys(l:List Int):SeqAt.shaped (iD l)=true:=by
 unfold iD SeqAt.shaped
 rw[PyData.canLay0,iD_lay,PyData.depth,iD_depth]
 rfl
theorem iD_all:∀ l m:List Int,PyData.eqvAll (l.map PyData.int) (m.map PyData.int)=decide (l=m)
 | [],[]=>rfl
 | [],_::_=>by simp[PyData.eqvAll]
 | _::_,[]=>by simp[PyData.eqvAll]
 | x::l,y::m=>by
  rw[yD,yD,PyData.eqvAll,PyData.eqv,iD_all l m,yw]
  simp
theorem zP(l m:List Int):PyData.eqv (iD l) (iD m)=decide (l=m):=by
 unfold iD
 rw[PyData.eqv];exact iD_all l m
theorem XT(K:z8)(H:Hp):∀ l:List Int,Ji K H (l.map V.int) (l.map PyData.int)
 | []=>.nil
 | x::l=>.cons (.int x) (XT K H l)
def bi(b:ye):List Int:=b.map (fun c=>(c.toNat:Int))
theorem bl_bi(b:ye):bl b=(bi b).map V.int:=by simp[bl,bi]
theorem bi_inj:∀ {a b:ye},bi a=bi b→a=b
 | [],[],_=>rfl
 | [],_::_,h=>by simp[bi] at h
 | _::_,[],h=>by simp[bi] at h
 | x::a,y::b,h=>by
  simp only[bi,yD,List.cons.injEq] at h
  have e1:x.toNat=y.toNat:=by lia
  rw[UInt8.toNat_inj.1 e1,bi_inj (a:=a) (b:=b) h.2]
theorem bl_dp{K:z8}{H:Hp}{a:Addr}{b:ye} (h:SqL K H a (bl b)):Dp K H (.ref a) (iD (bi b)):=by
 rw[bl_bi] at h
 exact .lst h (XT K H _)
abbrev sHC:Stmt:=top 51
abbrev sHW:Stmt:=top 76
theorem scHC:Qm ["octets","bound","number"] ["octets"] (defScope sHC):=⟨rfl,rfl,rfl,by decide +kernel,rfl,by decide +kernel,by decide +kernel⟩
theorem qS:Qm ["workshop","sheets","kinds","glasses","paintings","end"] ["workshop"] (defScope sPP2):=⟨rfl,rfl,rfl,by decide +kernel,rfl,by decide +kernel,by decide +kernel⟩
theorem scWS:Qm ["workshop","places","place"] ["workshop","places"] (defScope sWS):=⟨rfl,rfl,rfl,by decide +kernel,rfl,by decide +kernel,by decide +kernel⟩
theorem scWK:Qm ["workshop","places","place"] ["workshop","places"] (defScope sWK):=⟨rfl,rfl,rfl,by decide +kernel,rfl,by decide +kernel,by decide +kernel⟩
def Jl(K:z8) (f:ye→Option (Nat×Nat)):Sp:=fun vs H Q _=>∃(a:Addr)(b:ye),vs=[.ref a]∧SqL K H a (bl b)∧b.length≤100000∧∀ H' v,Qp H H'→Xx H' v (f b)→Q v H'
structure Sgn(K:z8)(mg:Str→Option Value)(x:Str)(vs:List V):Prop where
 ex:∃ q:Addr,mg x=some (.ref q)∧∀ H,SqT K H q vs
theorem qx:bootBuiltins "list" = some (.type "list"):=by decide +kernel
def qt:List (List Int):=cb.map fun r=>[(r.1:Int),(r.2.1:Int),(r.2.2.1:Int),(r.2.2.2:Int)]
section
variable {P:Program} {w:World} {K:z8} {mg:Str→Option Value} {base:Heap} {C:Addr}
theorem ok_hc{f:Addr}{fd:FuncData}(F:Fun K "head_fault" "head_fault" sHC f fd)(T:ZP K mg C)(U:Txt K mg)(Bd:Bnds K mg "HEAD_BOUNDS_cartoon" qt) (N:Has P w K mg base 1 "number_at" ["octets","place","size"] (YY K))
  (Sg:Sgn K mg "CARTOON_SIGN" [.int 71,.int 76,.int 65,.int 49]) (Rw:Has P w K mg base 2 "row_places" ["octets"] (spRow K)):QI P w K mg base CX0 3 f fd ["octets"] (Jl K X3):=by
 obtain⟨q,as,hmq,hq,hlen,hat⟩:=Bd.ex
 obtain⟨qs,hms,hqs⟩:=Sg.ex
 refine F.ok scHC (fun vs H Q E h=>?_) (fun cdv A outer s H vs Q E hr h=>?_)
 ·obtain⟨a,b,rfl,_⟩:=h
  rfl
 ·obtain⟨a,b,rfl,hS,hbl,k⟩:=h
  refine⟨_,Qb (QH (Qu ZL (QL Qw (by rfl) U.len PySem.boot_len (Qa (pv 0) Qc)) (QS T.g20) (Qo _)) (Qe (Qi (Q4 (Qa Qg (Qa (QL Qw (by rfl) U.len PySem.boot_len (Qa (pv 0) Qc)) Qc))))) Qr)
   (Qb (QH (Qu (op_neD hr.units) (Zo ZQ (pv 0) Yo (Zc Qg)) (qY Je (by rfl) U.lst qx (Qa (qX hms) Qc)) (Qo _)) (Qe (Qi (Q4 (Qa Qg (Qa Qg Qc))))) Qr)
   (Qb (QQ PassesOwn.never rfl (pi_tup (qX hmq)) (Qv (i:=1) scHC.nd rfl (Or.inl rfl))
    (Qb (Qs (i:=2) scHC.nd rfl (Or.inl rfl) (Qt N (hr.mono (by decide)) (Qa (pv 0) (Qa (Qx QM (pv 1) Qg (fun _ _=>rfl)) (Qa (Qx QM (pv 1) Qg (fun _ _=>rfl)) Qc)))))
    (Qe (QH (Yb (Qu ZL (pv 2) (Qx QM (pv 1) Qg (fun _ _=>rfl)) (Qo _)) (Z9 (Qu Ze (pv 2) (Qx QM (pv 1) Qg (fun _ _=>rfl)) (Qo _)))).pt
     (Qe (Qi (Q4 (Qa Qg (Qa (Qx QM (pv 1) Qg (fun _ _=>rfl)) Qc))))) Qr))))
   (Qb (QH (Qu Y3 (QL Qw (by rfl) U.len PySem.boot_len (Qa (pv 0) Qc)) (Qx QM (Qt Rw hr (Qa (pv 0) Qc)) Qg (fun _ _=>rfl)) (Qo _)) (Qe (Qi (Q4 (Qa Qg (Qa (QS T.g20) Qc))))) Qr)
   (Qe (Qi Q5))))),?_⟩
  unfold X3 at k
  refine⟨_,rfl,a,_,rfl,.inl hS,_,_,rfl,rfl,_,rfl,Qz (fun h1=>?_) (fun h1=>?_)⟩
  ·have h1:((bl b).length:Int)<20:=of_decide_eq_true h1
   rw[QJ] at h1
   rw[if_pos (show b.length<20 by lia)] at k
   refine⟨_,rfl,a,_,rfl,.inl hS,(by show 2≤sizeLine;decide),fun t ht=>k _ _ (Ql _ ht) ⟨t,rfl,?_⟩⟩
   show upd H t _ t=_
   rw[Qh,QJ];rfl
  ·have h1:¬ ((bl b).length:Int)<20:=fun z=>h1 (decide_eq_true z)
   rw[QJ] at h1
   rw[if_neg (show ¬ b.length<20 by lia)] at k
   refine⟨_,rfl,_,rfl,a,_,rfl,hS,fun l hl=>⟨qs,_,rfl,.inr (hqs _),fun l2 hl2=>?_⟩⟩
   have ec:Z0 (bl b) none (some ((4:Nat):Int))=bl (b.take 4):=by
    rw[Jc];unfold bl;rw[jW]
   have ec':Z0 (bl b) none (some 4)=bl (b.take 4):=ec
   rw[ec'] at hl2 ⊢
   have nl:l≠l2:=Qn (Qh) hl2
   have hA:SqL K (upd (upd H l (.lst (bl (b.take 4)))) l2 (.lst [.int 71,.int 76,.int 65,.int 49])) l (bl (b.take 4)):=SqL.of (by rw[Qq nl,Qh])
   have hB:SqL K (upd (upd H l (.lst (bl (b.take 4)))) l2 (.lst [.int 71,.int 76,.int 65,.int 49])) l2 (([71,76,65,49]:List Int).map V.int):=SqL.of Qh
   have s0:Qp H (upd (upd H l (.lst (bl (b.take 4)))) l2 (.lst [.int 71,.int 76,.int 65,.int 49])):=(Ql _ hl).trans (Ql _ hl2)
   refine⟨_,_,bl_dp hA,Dp.lst (ds:=([71,76,65,49]:List Int).map PyData.int) hB (XT K _ _),Ys _,Ys [71,76,65,49],_,rfl,Qz (fun h2=>?_) (fun h2=>?_)⟩
   ·have h2:(!PyData.eqv (iD (bi (b.take 4))) (iD [71,76,65,49]))=true:=h2
    rw[zP] at h2
    have h2:¬ bi (b.take 4)=[71,76,65,49]:=by simpa using h2
    have hne:b.take 4≠Uu:=fun e=>h2 (by rw[e];rfl)
    rw[if_pos hne] at k
    exact⟨(by show 2≤sizeLine;decide),fun t ht=>k _ _ (s0.trans (Ql _ ht)) ⟨t,rfl,Qh⟩⟩
   ·have h2:¬ (!PyData.eqv (iD (bi (b.take 4))) (iD [71,76,65,49]))=true:=h2
    rw[zP] at h2
    have h2:bi (b.take 4)=[71,76,65,49]:=by simpa using h2
    have heq:¬ b.take 4≠Uu:=fun e=>e (bi_inj (h2.trans rfl))
    rw[if_neg heq] at k
    generalize upd (upd H l (.lst (bl (b.take 4)))) l2 (.lst [.int 71,.int 76,.int 65,.int 49])=H0 at *
    have cl:cb.length=6:=rfl
    refine⟨q,rfl,⟨_,hq H0⟩,for_tup (K:=K) (a:=q) (xs:=as.map V.ref) (fun j σ H'=>∃ v1 v2:Option V,σ=[some (.ref a),v1,v2]∧Qp H H'∧∀ m (hm:m<j) (hl:m<cb.length),JK b cb[m]=false)
     ⟨none,none,rfl,s0,fun m hm=>by lia⟩ (fun i σ H' _ _=>hq H') ?_ ?_⟩
    ·rintro j x σ H1 hx ⟨v1,v2,rfl,s1,hb⟩
     obtain⟨c,hc,rfl⟩:=Zn hx
     have hj:j<cb.length:=by
      have:=(List.getElem?_eq_some_iff.1 hc).1
      rw[hlen] at this
      simpa [qt] using this
     have hr2:∀ H,SqT K H c [.int (cb[j].1:Int),.int (cb[j].2.1:Int),.int (cb[j].2.2.1:Int),.int (cb[j].2.2.2:Int)]:=fun H=>by
      have:=hat j c [(cb[j].1:Int),(cb[j].2.1:Int),(cb[j].2.2.1:Int),(cb[j].2.2.2:Int)] hc (by unfold qt;rw[yi,yd hj];rfl) H
      exact this
     refine⟨_,rfl,_,rfl,c,_,_,_,rfl,rfl,hr2 _,Qj (j:=0) rfl,_,rfl,c,_,_,_,rfl,rfl,hr2 _,Qj (j:=1) rfl,a,b,cb[j].1,cb[j].2.1,_,_,rfl,rfl,rfl,s1.seq hS,fun H2 s2'=>?_⟩
     have s2:=s1.trans s2'
     have ret:JK b cb[j]=true→∀ t,H2 t=none→Q (.ref t) (upd H2 t (.tup [.int 2,.int (cb[j].1:Int)])):=fun hbad t ht=>by
      rw[find_at (p:=JK b) hj hbad (fun m hm=>hb m hm (by lia))] at k
      exact k _ _ (s2.trans (Ql _ ht)) ⟨t,rfl,Qh⟩
     refine⟨_,rfl,_,rfl,c,_,_,_,rfl,rfl,hr2 _,Qj (j:=2) rfl,_,_,rfl,rfl,_,rfl,Qz (fun h3=>qh ?_) (fun h3=>?_)⟩
     ·have h3:((z9 b cb[j].1 cb[j].2.1:Nat):Int)<(cb[j].2.2.1:Int):=of_decide_eq_true h3
      refine⟨_,rfl,c,_,_,_,rfl,rfl,hr2 _,Qj (j:=0) rfl,(by show 2≤sizeLine;decide),ret ?_⟩
      unfold JK
      rw[decide_eq_true (show z9 b cb[j].1 cb[j].2.1<cb[j].2.2.1 by lia)];rfl
     ·have h3:¬ ((z9 b cb[j].1 cb[j].2.1:Nat):Int)<(cb[j].2.2.1:Int):=fun z=>h3 (decide_eq_true z)
      refine⟨_,rfl,_,rfl,c,_,_,_,rfl,rfl,hr2 _,Qj (j:=3) rfl,_,_,rfl,rfl,_,rfl,Qz (fun h4=>?_) (fun h4=>?_)⟩
      ·have h4:(cb[j].2.2.2:Int)<((z9 b cb[j].1 cb[j].2.1:Nat):Int):=of_decide_eq_true h4
       refine⟨_,rfl,c,_,_,_,rfl,rfl,hr2 _,Qj (j:=0) rfl,(by show 2≤sizeLine;decide),ret ?_⟩
       unfold JK
       rw[decide_eq_true (show cb[j].2.2.2<z9 b cb[j].1 cb[j].2.1 by lia),Bool.or_true]
      ·have h4:¬ (cb[j].2.2.2:Int)<((z9 b cb[j].1 cb[j].2.1:Nat):Int):=fun z=>h4 (decide_eq_true z)
       refine⟨_,_,rfl,s2,fun m hm hl=>?_⟩
       by_cases e:m=j
       ·subst e
        unfold JK
        rw[decide_eq_false (show ¬ z9 b cb[m].1 cb[m].2.1<cb[m].2.2.1 by lia),decide_eq_false (show ¬ cb[m].2.2.2<z9 b cb[m].1 cb[m].2.1 by lia)];rfl
       ·exact hb m (by lia) hl
    ·rintro σ H1 ⟨v1,v2,rfl,s1,hb⟩
     rw[find_no (p:=JK b) fun m hm=>hb m (by rw[yc,hlen];simpa [qt] using hm) hm] at k
     refine⟨_,rfl,a,_,rfl,.inl (s1.seq hS),_,rfl,a,b,rfl,s1.seq hS,fun H2 t s2' ht=>⟨t,_,_,_,rfl,rfl,SqT.of ht,Qj (j:=3) rfl,rfl,_,rfl,?_⟩⟩
     have s2:=s1.trans s2'
     refine Qz (fun h5=>?_) (fun h5=>?_)
     ·have h5:¬ ((bl b).length:Int)=((20+8*z9 b 12 2+4*z9 b 14 2+12*z9 b 16 2:Nat):Int):=by simpa using h5
      rw[QJ] at h5
      have k2:=k
      simp only at k2
      rw[if_pos (show b.length≠20+8*z9 b 12 2+4*z9 b 14 2+12*z9 b 16 2 by lia)] at k2
      exact⟨(by show 2≤sizeLine;decide),fun t ht=>k2 _ _ (s2.trans (Ql _ ht)) ⟨t,rfl,Qh⟩⟩
     ·have h5:((bl b).length:Int)=((20+8*z9 b 12 2+4*z9 b 14 2+12*z9 b 16 2:Nat):Int):=by simpa using h5
      rw[QJ] at h5
      have k2:=k
      simp only at k2
      rw[if_neg (show ¬ b.length≠20+8*z9 b 12 2+4*z9 b 14 2+12*z9 b 16 2 by lia)] at k2
      exact k2 _ _ s2 rfl
end
end Gp
set_option Elab.async false
set_option linter.all false
set_option maxRecDepth 100000
namespace Gp
open PySem PySem.Spec PyProof.Rows L2
open Gla (Pt Plan Mark Sheet)
def plV(b:ye):List V:=[.int ((yb b).1:Int),.int ((yb b).2.1:Int),.int ((yb b).2.2.1:Int),.int ((yb b).2.2.2.1:Int),.int ((yb b).2.2.2.2:Int)]
def qQ(K:z8):Sp:=fun vs H Q _=>∃(a:Addr)(b:ye),vs=[.ref a]∧SqL K H a (bl b)∧∀ H' t,Qp H H'→H' t=some (.tup (plV b))→Q (.ref t) H'
structure qH(K:z8)(mg:Str→Option Value):Prop where
 g80:GI mg "HEAD_BYTES_workshop" 80
 g16:GI mg "SHEET_BYTES" 16
 g8:GI mg "KIND_BYTES" 8
 g64:GI mg "GLASS_BYTES" 64
 g69:GI mg "PAINTING_BYTES" 69
 g64b:GI mg "BANDS_BYTES" 64
 g4:GI mg "MOST_COATS" 4
def shb:List (Nat×Nat×Nat):=[(0,0,65535),(4,1,16777215),(8,1,16777215),(12,0,1)]
def kib:List (Nat×Nat×Nat):=[(0,1,1400),(4,0,9999)]
def sheets(b:ye):List Sheet:=(yj (z9 b 56 4)).map (fun (i:Nat)=>GY b ((yb b).1+16*i))
def kinds(b:ye):List xB:=(yj (z9 b 60 4)).map (fun (i:Nat)=>Uj b ((yb b).2.1+8*i))
def XN(b:ye):Option Nat:=(yH (fun (_:Nat) (s:Sheet)=>!s.ok) (sheets b)).map fun i=>(yb b).1+16*i
def XM(b:ye):Option Nat:=(yH (fun (_:Nat) (k:xB)=>!k.ok) (kinds b)).map fun i=>(yb b).2.1+8*i
theorem Ye(b:ye)(p lo hi s:Nat):JH b (p,lo,hi) s=!(yz lo hi (z9 b (s+p) 4)):=by
 unfold JH yz
 simp only
 rw[yw]
 simp only[y8,decide_eq_true_eq,GW,Bool.and_eq_false_iff,decide_eq_false_iff_not]
 lia
theorem oob_none{b:ye}{s:Nat} {l:List (Nat×Nat×Nat)}:(oob b s l=none)↔l.all (fun r=>!JH b r s)=true:=by
 unfold oob
 rw[Gq,y6,xu]
 constructor
 ·intro h r hr;simpa using h r hr
 ·intro h r hr;simpa using h r hr
theorem sheet_ok(b:ye)(p:Nat):(oob b p shb=none)↔(GY b p).ok=true:=by
 rw[oob_none]
 unfold shb Gla.Sheet.ok GY
 simp only[jV,List.all_nil,Ye,Uh,G1,Nat.add_zero,Gla.SIDE,yz,yM,decide_true,jh]
 exact Iff.rfl
theorem kind_ok(b:ye)(p:Nat):(oob b p kib=none)↔(Uj b p).ok=true:=by
 rw[oob_none]
 unfold kib Gla.Kind.ok Uj
 simp only[jV,List.all_nil,Ye,Uh,G1,Nat.add_zero,Gla.HOTTEST,yz,yM,decide_true,jh]
 exact Iff.rfl
def Yz(K:z8)(f:ye→Option Nat):Sp:=fun vs H Q _=>∃(a t:Addr)(b:ye),vs=[.ref a,.ref t]∧SqL K H a (bl b)∧SqT K H t (plV b)∧b.length=(yb b).2.2.2.2∧b.length≤100000∧∀ H',Qp H H'→Q (Yw (f b)) H'
section
variable {P:Program} {w:World} {K:z8} {mg:Str→Option Value} {base:Heap} {C:Addr}
theorem ok_plc{f:Addr}{fd:FuncData}(F:Fun K "part_places" "part_places" sPP2 f fd)(T:qH K mg) (N:Has P w K mg base 1 "number_at" ["octets","place","size"] (YY K)):QI P w K mg base CX0 2 f fd ["workshop"] (qQ K):=by
 refine F.ok qS (fun vs H Q E h=>?_) (fun cdv A outer s H vs Q E hr h=>?_)
 ·obtain⟨a,b,rfl,_⟩:=h
  rfl
 ·obtain⟨a,b,rfl,hS,k⟩:=h
  refine⟨_,Qb (Qs (i:=1) qS.nd rfl (Or.inl rfl) (QD QU (QS T.g80) (Qt N hr (Qa (pv 0) (Qa Qg (Qa Qg Qc))))))
   (Qb (Qs (i:=2) qS.nd rfl (Or.inl rfl) (QD QU (pv 1) (QD ZF (QS T.g16) (Qt N hr (Qa (pv 0) (Qa Qg (Qa Qg Qc)))))))
   (Qb (Qs (i:=3) qS.nd rfl (Or.inl rfl) (QD QU (pv 2) (QD ZF (QS T.g8) (Qt N hr (Qa (pv 0) (Qa Qg (Qa Qg Qc)))))))
   (Qb (Qs (i:=4) qS.nd rfl (Or.inl rfl) (QD QU (pv 3) (QD ZF (QS T.g64) (Qt N hr (Qa (pv 0) (Qa Qg (Qa Qg Qc)))))))
   (Qb (Qs (i:=5) qS.nd rfl (Or.inl rfl) (QD QU (pv 4) (QD ZF (QS T.g69) (Qt N hr (Qa (pv 0) (Qa Qg (Qa Qg Qc)))))))
   (Qe (Qi (Q4 (Qa (pv 1) (Qa (pv 2) (Qa (pv 3) (Qa (pv 4) (Qa (pv 5) Qc)))))))))))),?_⟩
  refine⟨_,rfl,a,b,4,4,_,_,rfl,rfl,rfl,hS,fun H1 s1=>⟨_,_,rfl,rfl,?_⟩⟩
  refine⟨_,rfl,_,rfl,a,b,56,4,_,_,rfl,rfl,rfl,s1.seq hS,fun H2 s2'=>⟨_,_,rfl,rfl,.inl ⟨by decide,by decide⟩,_,_,rfl,rfl,?_⟩⟩
  have s2:=s1.trans s2'
  refine⟨_,rfl,_,rfl,a,b,60,4,_,_,rfl,rfl,rfl,s2.seq hS,fun H3 s3'=>⟨_,_,rfl,rfl,.inl ⟨by decide,by decide⟩,_,_,rfl,rfl,?_⟩⟩
  have s3:=s2.trans s3'
  refine⟨_,rfl,_,rfl,a,b,64,4,_,_,rfl,rfl,rfl,s3.seq hS,fun H4 s4'=>⟨_,_,rfl,rfl,.inl ⟨by decide,by decide⟩,_,_,rfl,rfl,?_⟩⟩
  have s4:=s3.trans s4'
  refine⟨_,rfl,_,rfl,a,b,68,4,_,_,rfl,rfl,rfl,s4.seq hS,fun H5 s5'=>⟨_,_,rfl,rfl,.inl ⟨by decide,by decide⟩,_,_,rfl,rfl,?_⟩⟩
  have s5:=s4.trans s5'
  refine⟨_,rfl,_,rfl,_,rfl,_,rfl,_,rfl,(by show 5≤sizeLine;decide),fun t ht=>k _ t (s5.trans (Ql _ ht)) ?_⟩
  rw[Qh]
  unfold plV yb Gf
  simp only[jC,jT]
  rfl
end
end Gp
set_option Elab.async false
set_option linter.all false
set_option maxRecDepth 100000
namespace Gp
open PySem PySem.Spec PyProof.Rows L2
open Gla (Pt Plan Mark Sheet)
theorem zE{i:Int}{c n:Nat}(hc:0<c)(hc2:c<1000)(hi:0≤i)(hi2:i<2 ^ 40)(hn:n<2 ^ 20):RgC i (i+(c:Int)*(n:Int)) (c:Int) n:=by
 have hm:(c:Int)*(n:Int)≤1000*2 ^ 20:=by
  have h1:(c:Int)*(n:Int)≤1000*(n:Int):=Gx (by lia) (by lia)
  lia
 have hm0:0≤(c:Int)*(n:Int):=jN (by lia) (by lia)
 have hs:Builtin.Range.rangeSize i (i+(c:Int)*(n:Int)) (c:Int)=(n:Int):=by
  unfold Builtin.Range.rangeSize
  rw[if_pos (by lia)]
  by_cases h:n=0
  ·subst h;simp
  ·have hp:0<(c:Int)*(n:Int):=jX (by lia) (by lia)
   rw[if_pos (by lia)]
   have e:(i+(c:Int)*(n:Int)-i-1)=((c:Int)-1)+(c:Int)*((n:Int)-1):=by rw[xD];lia
   rw[e,Int.add_mul_ediv_left _ _ (by lia),Int.ediv_eq_zero_of_lt (by lia) (by lia)]
   lia
 refine⟨by lia,by lia,?_,hs⟩
 unfold Builtin.Range.small
 rw[hs]
 have hcp:(c:Int) > 0:=by lia
 simp only[Builtin.Range.rangeFitsLong,yk,y8,decide_eq_true_eq,beq_iff_eq,hcp,if_true]
 generalize (c:Int)*(n:Int)=z at *
 refine⟨⟨⟨⟨?_,?_⟩,?_⟩,?_⟩,?_⟩ <;> lia
theorem J5(b:ye):(sheets b).length=z9 b 56 4:=by simp[sheets]
theorem J6(b:ye)(i:Nat) (h:i<(sheets b).length):(sheets b)[i]=GY b ((yb b).1+16*i):=by simp[sheets]
theorem ok_ws{P:Program}{w:World}{K:z8}{mg:Str→Option Value}{base:Heap}{f:Addr}{fd:FuncData}(F:Fun K "wrong_sheet" "wrong_sheet" sWS f fd)(T:qH K mg)(U:Txt K mg) (Bd:Bnds K mg "SHEET_BOUNDS" (XQ shb)) (O:Has P w K mg base 2 "out_of_bounds" ["workshop","start","bounds"] (spOob K)) :
  QI P w K mg base CX0 3 f fd ["workshop","places"] (Yz K XN):=by
 obtain⟨q,as,hmq,hq,hlen,hat⟩:=Bd.ex
 refine F.ok scWS (fun vs H Q E h=>?_) (fun cdv A outer s H vs Q E hr h=>?_)
 ·obtain⟨a,t,b,rfl,_⟩:=h
  rfl
 ·obtain⟨a,t,b,rfl,hS,ht,hbe,hbl,k⟩:=h
  refine⟨_,Qb (QQ PassesOwn.never rfl (Yp rfl U.range (Qa (Qx QM (pv 1) Qg (fun _ _=>rfl)) (Qa (Qx QM (pv 1) Qg (fun _ _=>rfl)) (Qa (QS T.g16) Qc)))) (Qv (i:=2) scWS.nd rfl (Or.inl rfl))
    (Qe (QH (Zg (ZR (Qt O hr (Qa (pv 0) (Qa (pv 2) (Qa (qX hmq) Qc)))))) (Qe (Qi (pv 2))) Qr)))
   (Qe (Qi Q5)),?_⟩
  have bds:(yb b).1+16*z9 b 56 4+8*z9 b 60 4≤b.length:=by
   rw[hbe]
   unfold yb
   simp only
   lia
  have e1:(yb b).2.1=(yb b).1+16*z9 b 56 4:=rfl
  have k0:(yb b).2.1=(yb b).1+16*z9 b 56 4:=rfl
  have rg:RgC (((yb b).1:Nat):Int) (((yb b).2.1:Nat):Int) 16 (z9 b 56 4):=by
   have:=zE (i:=(((yb b).1:Nat):Int)) (c:=16) (n:=z9 b 56 4) (by decide) (by decide) (by lia) (by lia) (by lia)
   rw[e1,jC,jT]
   exact this
  refine⟨_,rfl,t,_,_,_,rfl,rfl,ht,Qj (j:=0) rfl,_,rfl,t,_,_,_,rfl,rfl,ht,Qj (j:=1) rfl,_,_,_,_,rfl,rg,YT (lo:=(((yb b).1:Nat):Int)) (c:=16) (n:=z9 b 56 4) (fun i σ H'=>∃ v2:Option V,σ=[some (.ref a),some (.ref t),v2]∧Qp H H'∧∀ j (hj:j<i) (hl:j<(sheets b).length),(!((sheets b)[j]).ok)=false)
   ⟨none,rfl,Qp.refl _,fun j hj=>by lia⟩ ?_ ?_⟩
  ·rintro i σ H1 hi ⟨v2,rfl,s1,hb⟩
   have hil:i<(sheets b).length:=by rw[J5];exact hi
   have ei:(((yb b).1:Nat):Int)+((i:Nat):Int)*16=(((yb b).1+16*i:Nat):Int):=by lia
   refine⟨_,rfl,_,rfl,a,q,b,(yb b).1+16*i,_,as,shb,rfl,ei,s1.seq hS,hq,(by rw[hlen];rfl),(fun m c r hm hr H=>by
    have:=hat m c [(r.1:Int),(r.2.1:Int),(r.2.2:Int)] hm (by unfold XQ;rw[yi,hr];rfl) H
    exact this),fun H2 s2'=>⟨_,rfl,?_⟩⟩
   have s2:=s1.trans s2'
   have ok:=sheet_ok b ((yb b).1+16*i)
   refine Qz (fun h1=>?_) (fun h1=>?_)
   ·have hne:¬ oob b ((yb b).1+16*i) shb=none:=fun e=>by
     rw[e] at h1
     exact absurd h1 (by simp[Yw])
    have hbad:(!((sheets b)[i]).ok)=true:=by
     rw[J6]
     cases hh:(GY b ((yb b).1+16*i)).ok with
     | false=>rfl
     | true=>exact absurd (ok.2 hh) hne
    have e:XN b=some ((yb b).1+16*i):=by
     unfold XN
     rw[Zl (l:=sheets b) hil hbad (fun j hj=>hb j hj (by lia))];rfl
    have:=k H2 s2
    rw[e] at this
    refine⟨_,rfl,?_⟩
    show Q (.int ((((yb b).1:Nat):Int)+((i:Nat):Int)*16)) H2
    rw[ei]
    exact this
   ·have hno:oob b ((yb b).1+16*i) shb=none:=by
     cases hh:oob b ((yb b).1+16*i) shb with
     | none=>rfl
     | some m=>rw[hh] at h1;exact absurd rfl h1
    refine⟨_,rfl,s2,fun j hj hl=>?_⟩
    by_cases qq:j=i
    ·subst qq
     rw[J6,ok.1 hno];rfl
    ·exact hb j (by lia) hl
  ·rintro σ H1 ⟨v2,rfl,s1,hb⟩
   have e:XN b=none:=by
    unfold XN
    have:yH (fun (_:Nat) (x:Sheet)=>!x.ok) (sheets b)=none:=Pl.firstAt_none.2 fun i hi=>hb i (by rw[J5] at hi;exact hi) hi
    rw[this];rfl
   have:=k H1 s1
   rw[e] at this
   exact this
theorem zb(b:ye):(kinds b).length=z9 b 60 4:=by simp[kinds]
theorem zc(b:ye)(i:Nat) (h:i<(kinds b).length):(kinds b)[i]=Uj b ((yb b).2.1+8*i):=by simp[kinds]
theorem ok_wk{P:Program}{w:World}{K:z8}{mg:Str→Option Value}{base:Heap}{f:Addr}{fd:FuncData}(F:Fun K "wrong_kind" "wrong_kind" sWK f fd)(T:qH K mg)(U:Txt K mg) (Bd:Bnds K mg "KIND_BOUNDS" (XQ kib)) (O:Has P w K mg base 2 "out_of_bounds" ["workshop","start","bounds"] (spOob K)) :
  QI P w K mg base CX0 3 f fd ["workshop","places"] (Yz K XM):=by
 obtain⟨q,as,hmq,hq,hlen,hat⟩:=Bd.ex
 refine F.ok scWK (fun vs H Q E h=>?_) (fun cdv A outer s H vs Q E hr h=>?_)
 ·obtain⟨a,t,b,rfl,_⟩:=h
  rfl
 ·obtain⟨a,t,b,rfl,hS,ht,hbe,hbl,k⟩:=h
  refine⟨_,Qb (QQ PassesOwn.never rfl (Yp rfl U.range (Qa (Qx QM (pv 1) Qg (fun _ _=>rfl)) (Qa (Qx QM (pv 1) Qg (fun _ _=>rfl)) (Qa (QS T.g8) Qc)))) (Qv (i:=2) scWK.nd rfl (Or.inl rfl))
    (Qe (QH (Zg (ZR (Qt O hr (Qa (pv 0) (Qa (pv 2) (Qa (qX hmq) Qc)))))) (Qe (Qi (pv 2))) Qr)))
   (Qe (Qi Q5)),?_⟩
  have bds:(yb b).1+16*z9 b 56 4+8*z9 b 60 4≤b.length:=by
   rw[hbe]
   unfold yb
   simp only
   lia
  have e1:(yb b).2.2.1=(yb b).2.1+8*z9 b 60 4:=rfl
  have k0:(yb b).2.1=(yb b).1+16*z9 b 56 4:=rfl
  have rg:RgC (((yb b).2.1:Nat):Int) (((yb b).2.2.1:Nat):Int) 8 (z9 b 60 4):=by
   have:=zE (i:=(((yb b).2.1:Nat):Int)) (c:=8) (n:=z9 b 60 4) (by decide) (by decide) (by lia) (by lia) (by lia)
   rw[e1,jC,jT]
   exact this
  refine⟨_,rfl,t,_,_,_,rfl,rfl,ht,Qj (j:=1) rfl,_,rfl,t,_,_,_,rfl,rfl,ht,Qj (j:=2) rfl,_,_,_,_,rfl,rg,YT (lo:=(((yb b).2.1:Nat):Int)) (c:=8) (n:=z9 b 60 4) (fun i σ H'=>∃ v2:Option V,σ=[some (.ref a),some (.ref t),v2]∧Qp H H'∧∀ j (hj:j<i) (hl:j<(kinds b).length),(!((kinds b)[j]).ok)=false)
   ⟨none,rfl,Qp.refl _,fun j hj=>by lia⟩ ?_ ?_⟩
  ·rintro i σ H1 hi ⟨v2,rfl,s1,hb⟩
   have hil:i<(kinds b).length:=by rw[zb];exact hi
   have ei:(((yb b).2.1:Nat):Int)+((i:Nat):Int)*8=(((yb b).2.1+8*i:Nat):Int):=by lia
   refine⟨_,rfl,_,rfl,a,q,b,(yb b).2.1+8*i,_,as,kib,rfl,ei,s1.seq hS,hq,(by rw[hlen];rfl),(fun m c r hm hr H=>by
    have:=hat m c [(r.1:Int),(r.2.1:Int),(r.2.2:Int)] hm (by unfold XQ;rw[yi,hr];rfl) H
    exact this),fun H2 s2'=>⟨_,rfl,?_⟩⟩
   have s2:=s1.trans s2'
   have ok:=kind_ok b ((yb b).2.1+8*i)
   refine Qz (fun h1=>?_) (fun h1=>?_)
   ·have hne:¬ oob b ((yb b).2.1+8*i) kib=none:=fun e=>by
     rw[e] at h1
     exact absurd h1 (by simp[Yw])
    have hbad:(!((kinds b)[i]).ok)=true:=by
     rw[zc]
     cases hh:(Uj b ((yb b).2.1+8*i)).ok with
     | false=>rfl
     | true=>exact absurd (ok.2 hh) hne
    have e:XM b=some ((yb b).2.1+8*i):=by
     unfold XM
     rw[Zl (l:=kinds b) hil hbad (fun j hj=>hb j hj (by lia))];rfl
    have:=k H2 s2
    rw[e] at this
    refine⟨_,rfl,?_⟩
    show Q (.int ((((yb b).2.1:Nat):Int)+((i:Nat):Int)*8)) H2
    rw[ei]
    exact this
   ·have hno:oob b ((yb b).2.1+8*i) kib=none:=by
     cases hh:oob b ((yb b).2.1+8*i) kib with
     | none=>rfl
     | some m=>rw[hh] at h1;exact absurd rfl h1
    refine⟨_,rfl,s2,fun j hj hl=>?_⟩
    by_cases qq:j=i
    ·subst qq
     rw[zc,ok.1 hno];rfl
    ·exact hb j (by lia) hl
  ·rintro σ H1 ⟨v2,rfl,s1,hb⟩
   have e:XM b=none:=by
    unfold XM
    have:yH (fun (_:Nat) (x:xB)=>!x.ok) (kinds b)=none:=Pl.firstAt_none.2 fun i hi=>hb i (by rw[zb] at hi;exact hi) hi
    rw[this];rfl
   have:=k H1 s1
   rw[e] at this
   exact this
end Gp
set_option Elab.async false
set_option linter.all false
set_option maxRecDepth 100000
namespace Gp
open PySem PySem.Spec PyProof.Rows L2
theorem num1{b:ye}{p:Nat}(h:p<b.length):z9 b p 1=(b[p]).toNat:=by
 unfold z9
 rw[GR h]
 show (b[p]).toNat+256*0=_
 lia
theorem bl_at{b:ye}{p:Nat}(h:p<b.length):(bl b)[p]?=some (V.int ((z9 b p 1:Nat):Int)):=by
 rw[num1 h]
 unfold bl
 rw[yi,yd h];rfl
def JC(ks:List xB)(k:Nat):Nat:=((ks[k]?).map Gla.Kind.heat).getD 0
def Xp(ks:List xB)(b:ye)(p i:Nat):Bool:=
 if i<z9 b (p+64) 1 then !decide (z9 b (p+65+i) 1<ks.length) || (decide (0<i)&&!decide (JC ks (z9 b (p+65+i) 1)<JC ks (z9 b (p+65+(i-1)) 1))) else z9 b (p+65+i) 1 != 0
theorem badCoat_eq(ks:List xB)(b:ye)(p:Nat):xF ks b p=if yz 1 4 (z9 b (p+64) 1)=false then some (p+64) else ((yj 4).find? (Xp ks b p)).map fun i=>p+65+i:=rfl
abbrev sRC:Stmt:=top 73
abbrev sWC:Stmt:=top 74
theorem scRC:Qm ["workshop","place","coat","heats","kind"] ["workshop","place","coat","heats"] (defScope sRC):=⟨rfl,rfl,rfl,by decide +kernel,rfl,by decide +kernel,by decide +kernel⟩
theorem scWC:Qm ["workshop","place","heats","coat"] ["workshop","place","heats"] (defScope sWC):=⟨rfl,rfl,rfl,by decide +kernel,rfl,by decide +kernel,by decide +kernel⟩
def spRC(K:z8):Sp:=fun vs H Q _=>∃(a h:Addr)(b:ye)(ks:List xB)(p c:Nat)(i j:Int),vs=[.ref a,.int i,.int j,.ref h]∧i=((p+64:Nat):Int)∧j=(c:Int)∧c<4∧SqL K H a (bl b)∧SqL K H h (ni (ks.map Gla.Kind.heat))∧p+69≤b.length∧
 (0<c→c<z9 b (p+64) 1→z9 b (p+65+(c-1)) 1<ks.length)∧Q (.bl (!Xp ks b p c)) H
def spWC(K:z8):Sp:=fun vs H Q _=>∃(a h:Addr)(b:ye)(ks:List xB)(p:Nat)(i:Int),vs=[.ref a,.int i,.ref h]∧i=((p+64:Nat):Int)∧SqL K H a (bl b)∧SqL K H h (ni (ks.map Gla.Kind.heat))∧p+69≤b.length∧
 ∀ H',Qp H H'→Q (Yw (xF ks b p)) H'
theorem heat_at{ks:List xB}{k:Nat}(h:k<ks.length):(ni (ks.map Gla.Kind.heat))[k]?=some (V.int ((JC ks k:Nat):Int)):=by
 unfold ni JC
 rw[yi,yi,yd h];rfl
section
variable {P:Program} {w:World} {K:z8} {mg:Str→Option Value} {base:Heap} {C:Addr}
theorem ok_rc{f:Addr}{fd:FuncData}(F:Fun K "is_right_coat" "is_right_coat" sRC f fd)(U:Txt K mg):QI P w K mg base CX0 1 f fd ["workshop","place","coat","heats"] (spRC K):=by
 refine F.ok scRC (fun vs H Q E h=>?_) (fun cdv A outer s H vs Q E hr h=>?_)
 ·obtain⟨a,h,b,ks,p,c,i,j,rfl,_⟩:=h
  rfl
 ·obtain⟨a,h,b,ks,p,c,i,j,rfl,rfl,rfl,hc4,hS,hh,hp,hpre,k⟩:=h
  refine⟨_,Qb (Qs (i:=4) scRC.nd rfl (Or.inl rfl) (Qx QC (pv 0) (QD QU (QD QU (pv 1) Qg) (pv 2)) (fun _ _=>rfl)))
   (Qb (QH (Qu op_ge (pv 2) (Qx QC (pv 0) (pv 1) (fun _ _=>rfl)) (Qo _)) (Qe (Qi (QO YA (pv 4) Qg (Qo _)))) Qr)
   (Qb (QH (Qu op_ge (pv 4) (QL Qw (by rfl) U.len PySem.boot_len (Qa (pv 3) Qc)) (Qo _)) (Qe (Qi Xl)) Qr)
   (Qe (Qi (pe_or (QO YA (pv 2) Qg (Qo _)) (YN (QO ZL (Qx QC (pv 3) (pv 4) (fun _ _=>rfl)) (Qx QC (pv 3) (Qx QC (pv 0) (QD QU (pv 1) (pv 2)) (fun _ _=>rfl)) (fun _ _=>rfl)) (Qo _)))))))),?_⟩
  have i1:((p+64:Nat):Int)+1+(c:Int)=((p+65+c:Nat):Int):=by lia
  refine⟨_,rfl,_,rfl,_,_,rfl,rfl,_,rfl,_,_,rfl,rfl,a,_,_,_,rfl,rfl,hS,at_of (j:=p+65+c) i1 (bl_at (by lia)),?_⟩
  refine⟨_,rfl,_,rfl,_,rfl,a,_,_,_,rfl,rfl,hS,Qj (j:=p+64) (bl_at (by lia)),_,_,rfl,rfl,_,rfl,Qz (fun h1=>?_) (fun h1=>?_)⟩
  ·have h1:((z9 b (p+64) 1:Nat):Int)≤(c:Int):=of_decide_eq_true h1
   unfold Xp at k
   rw[if_neg (by lia)] at k
   refine⟨_,rfl,rfl,?_⟩
   have e:(!(z9 b (p+65+c) 1 != 0))=decide (V.int ((z9 b (p+65+c) 1:Nat):Int)=V.int 0):=by
    rw[JU,yw];simp
   rw[e] at k
   exact k
  ·have h1:¬ ((z9 b (p+64) 1:Nat):Int)≤(c:Int):=fun z=>h1 (decide_eq_true z)
   unfold Xp at k
   rw[if_pos (by lia)] at k
   have hl:((ni (ks.map Gla.Kind.heat)).length:Int)=ks.length:=by simp[ni]
   refine⟨_,rfl,_,rfl,h,_,rfl,.inl hh,_,_,rfl,rfl,_,rfl,Qz (fun h2=>?_) (fun h2=>?_)⟩
   ·have h2:((ni (ks.map Gla.Kind.heat)).length:Int)≤((z9 b (p+65+c) 1:Nat):Int):=of_decide_eq_true h2
    rw[hl] at h2
    rw[decide_eq_false (show ¬ z9 b (p+65+c) 1<ks.length by lia)] at k
    exact k
   ·have h2:¬ ((ni (ks.map Gla.Kind.heat)).length:Int)≤((z9 b (p+65+c) 1:Nat):Int):=fun z=>h2 (decide_eq_true z)
    rw[hl] at h2
    rw[decide_eq_true (show z9 b (p+65+c) 1<ks.length by lia),Bool.not_true,Ux] at k
    refine⟨_,rfl,rfl,_,rfl,Qz (fun h3=>?_) (fun h3=>?_)⟩
    ·have h3:(c:Int)=0:=by simpa using h3
     rw[decide_eq_false (show ¬ 0<c by lia)] at k
     exact k
    ·have h3:¬ (c:Int)=0:=by simpa using h3
     rw[decide_eq_true (show 0<c by lia),jh,Uh] at k
     have hpr:=hpre (by lia) (by lia)
     have i2:((p+64:Nat):Int)+(c:Int)=((p+65+(c-1):Nat):Int):=by lia
     refine⟨_,rfl,_,rfl,h,_,_,_,rfl,rfl,hh,Qj (heat_at (by lia)),_,rfl,_,rfl,_,rfl,_,rfl,_,_,rfl,rfl,a,_,_,_,rfl,rfl,hS,at_of (j:=p+65+(c-1)) i2 (bl_at (by lia)),h,_,_,_,rfl,rfl,hh,Qj (heat_at hpr),_,_,rfl,rfl,?_⟩
     have e:decide (JC ks (z9 b (p+65+c) 1)<JC ks (z9 b (p+65+(c-1)) 1))=decide (((JC ks (z9 b (p+65+c) 1):Nat):Int)<((JC ks (z9 b (p+65+(c-1)) 1):Nat):Int)):=by
      rw[decide_eq_decide];lia
     rw[e] at k
     exact k
theorem ok_wc{f:Addr}{fd:FuncData}(F:Fun K "wrong_coat" "wrong_coat" sWC f fd)(T:qH K mg)(U:Txt K mg) (R:Has P w K mg base 1 "is_right_coat" ["workshop","place","coat","heats"] (spRC K)):QI P w K mg base CX0 2 f fd ["workshop","place","heats"] (spWC K):=by
 refine F.ok scWC (fun vs H Q E h=>?_) (fun cdv A outer s H vs Q E hr h=>?_)
 ·obtain⟨a,h,b,ks,p,i,rfl,_⟩:=h
  rfl
 ·obtain⟨a,h,b,ks,p,i,rfl,rfl,hS,hh,hp,k⟩:=h
  refine⟨_,Qb (QH (Yb (Qu ZL (Qx QC (pv 0) (pv 1) (fun _ _=>rfl)) Qg (Qo _)) (Z9 (Qu Ze (Qx QC (pv 0) (pv 1) (fun _ _=>rfl)) (QS T.g4) (Qo _)))).pt (Qe (Qi (pv 1))) Qr)
   (Qb (QQ PassesOwn.never rfl (Yq rfl U.range (Qa (QS T.g4) Qc)) (Qv (i:=3) scWC.nd rfl (Or.inl rfl))
    (Qe (QH (YM (Zf (Qt R hr (Qa (pv 0) (Qa (pv 1) (Qa (pv 3) (Qa (pv 2) Qc))))))) (Qe (Qi (QD QU (QD QU (pv 1) Qg) (pv 3)))) Qr)))
   (Qe (Qi Q5))),?_⟩
  rw[badCoat_eq] at k
  have at64:=bl_at (b:=b) (p:=p+64) (by lia)
  refine⟨_,rfl,_,rfl,a,_,_,_,rfl,rfl,hS,Qj (j:=p+64) at64,_,_,rfl,rfl,_,rfl,Qz (fun h1=>qh ?_) (fun h1=>?_)⟩
  ·have h1:((z9 b (p+64) 1:Nat):Int)<1:=of_decide_eq_true h1
   have e:yz 1 4 (z9 b (p+64) 1)=false:=by unfold yz;simp;lia
   rw[if_pos e] at k
   exact⟨_,rfl,k H (Qp.refl _)⟩
  ·have h1:¬ ((z9 b (p+64) 1:Nat):Int)<1:=fun z=>h1 (decide_eq_true z)
   refine⟨_,rfl,_,rfl,a,_,_,_,rfl,rfl,hS,Qj (j:=p+64) at64,_,_,rfl,rfl,_,rfl,Qz (fun h2=>?_) (fun h2=>?_)⟩
   ·have h2:(4:Int)<((z9 b (p+64) 1:Nat):Int):=of_decide_eq_true h2
    have e:yz 1 4 (z9 b (p+64) 1)=false:=by unfold yz;simp;lia
    rw[if_pos e] at k
    exact⟨_,rfl,k H (Qp.refl _)⟩
   ·have h2:¬ (4:Int)<((z9 b (p+64) 1:Nat):Int):=fun z=>h2 (decide_eq_true z)
    have e:¬ yz 1 4 (z9 b (p+64) 1)=false:=by unfold yz;simp;lia
    rw[if_neg e] at k
    refine⟨_,rfl,by decide,by decide,Yt (lo:=0) (n:=(4:Int).toNat) (fun i σ H'=>∃ v3:Option V,σ=[some (.ref a),some (.int ((p+64:Nat):Int)),some (.ref h),v3]∧H'=H∧∀ j,j<i→Xp ks b p j=false)
     ⟨none,rfl,rfl,fun j hj=>by lia⟩ ?_ ?_⟩
    ·rintro i σ H1 hi ⟨v3,rfl,rfl,hb⟩
     have hi:i<4:=hi
     have ei:(0:Int)+(i:Int)=(i:Int):=by lia
     rw[ei]
     refine⟨_,rfl,_,rfl,_,rfl,_,rfl,a,h,b,ks,p,i,_,_,rfl,rfl,rfl,hi,hS,hh,hp,(fun h0 hn=>?_),_,rfl,Qz (fun h3=>?_) (fun h3=>?_)⟩
     ·have:=hb (i-1) (by lia)
      unfold Xp at this
      rw[if_pos (by lia)] at this
      have:=(Bool.or_eq_false_iff.1 this).1
      simpa using this
     ·have h3:Xp ks b p i=true:=by simpa using h3
      rw[Za (n:=4) hi h3 hb] at k
      refine⟨_,rfl,_,_,rfl,rfl,_,rfl,_,_,rfl,rfl,?_⟩
      have:=k H1 (Qp.refl _)
      have e2:((p+64:Nat):Int)+1+(i:Int)=((p+65+i:Nat):Int):=by lia
      show Q (.int (((p+64:Nat):Int)+1+(i:Int))) H1
      rw[e2]
      exact this
     ·have h3:Xp ks b p i=false:=by simpa using h3
      refine⟨_,rfl,rfl,fun j hj=>?_⟩
      by_cases q:j=i
      ·subst q;exact h3
      ·exact hb j (by lia)
    ·rintro σ H1 ⟨v3,rfl,rfl,hb⟩
     rw[Zs (n:=4) (fun i hi=>hb i hi)] at k
     exact k H1 (Qp.refl _)
end
end Gp
set_option Elab.async false
set_option linter.all false
set_option maxRecDepth 100000
namespace Gp
open PySem PySem.Spec PyProof.Rows L2
def wb:List (Nat×Nat×Nat):=[(8,0,1000),(12,1,1000),(16,0,1000),(20,1,1000),(24,0,65535),(28,0,1000),(32,1,1000),(36,1,16777215),(40,0,65535),(44,0,65535),(48,0,65535),(52,1,255),(56,0,1024),(60,0,16),(64,0,256),(68,0,256)]
def YE(b:ye):Option (Nat×Nat):=
 if b.length<80 then some (1,b.length) else if b.take 4≠jL then some (1,0) else match oob b 0 wb with
  | some p=>some (2,p)
  | none=>if b.length≠(yb b).2.2.2.2 then some (3,4) else none
theorem scHW:Qm ["workshop","place"] ["workshop"] (defScope sHW):=⟨rfl,rfl,rfl,by decide +kernel,rfl,by decide +kernel,by decide +kernel⟩
section
variable {P:Program} {w:World} {K:z8} {mg:Str→Option Value} {base:Heap} {C:Addr}
theorem ok_hw{f:Addr}{fd:FuncData}(F:Fun K "head_fault" "head_fault" sHW f fd)(T:qH K mg)(U:Txt K mg) (Bd:Bnds K mg "HEAD_BOUNDS_workshop" (XQ wb)) (O:Has P w K mg base 2 "out_of_bounds" ["workshop","start","bounds"] (spOob K))
  (Sg:Sgn K mg "WORKSHOP_SIGN" [.int 71,.int 76,.int 65,.int 87]) (L:Has P w K mg base 2 "part_places" ["workshop"] (qQ K)):QI P w K mg base CX0 3 f fd ["workshop"] (Jl K YE):=by
 obtain⟨q,as,hmq,hq,hlen,hat⟩:=Bd.ex
 obtain⟨qs,hms,hqs⟩:=Sg.ex
 refine F.ok scHW (fun vs H Q E h=>?_) (fun cdv A outer s H vs Q E hr h=>?_)
 ·obtain⟨a,b,rfl,_⟩:=h
  rfl
 ·obtain⟨a,b,rfl,hS,hbl,k⟩:=h
  refine⟨_,Qb (QH (Qu ZL (QL Qw (by rfl) U.len PySem.boot_len (Qa (pv 0) Qc)) (QS T.g80) (Qo _)) (Qe (Qi (Q4 (Qa Qg (Qa (QL Qw (by rfl) U.len PySem.boot_len (Qa (pv 0) Qc)) Qc))))) Qr)
   (Qb (QH (Qu (op_neD hr.units) (Zo ZQ (pv 0) Yo (Zc Qg)) (qY Je (by rfl) U.lst qx (Qa (qX hms) Qc)) (Qo _)) (Qe (Qi (Q4 (Qa Qg (Qa Qg Qc))))) Qr)
   (Qb (Qs (i:=1) scHW.nd rfl (Or.inl rfl) (Qt O hr (Qa (pv 0) (Qa Qg (Qa (qX hmq) Qc)))))
   (Qb (QH (Zg (ZR (pv 1))) (Qe (Qi (Q4 (Qa Qg (Qa (pv 1) Qc))))) Qr)
   (Qb (QH (Qu Y3 (QL Qw (by rfl) U.len PySem.boot_len (Qa (pv 0) Qc)) (Qx QM (Qt L hr (Qa (pv 0) Qc)) Qg (fun _ _=>rfl)) (Qo _)) (Qe (Qi (Q4 (Qa Qg (Qa Qg Qc))))) Qr)
   (Qe (Qi Q5)))))),?_⟩
  unfold YE at k
  refine⟨_,rfl,a,_,rfl,.inl hS,_,_,rfl,rfl,_,rfl,Qz (fun h1=>?_) (fun h1=>?_)⟩
  ·have h1:((bl b).length:Int)<80:=of_decide_eq_true h1
   rw[QJ] at h1
   rw[if_pos (show b.length<80 by lia)] at k
   refine⟨_,rfl,a,_,rfl,.inl hS,(by show 2≤sizeLine;decide),fun t ht=>k _ _ (Ql _ ht) ⟨t,rfl,?_⟩⟩
   show upd H t _ t=_
   rw[Qh,QJ];rfl
  ·have h1:¬ ((bl b).length:Int)<80:=fun z=>h1 (decide_eq_true z)
   rw[QJ] at h1
   rw[if_neg (show ¬ b.length<80 by lia)] at k
   refine⟨_,rfl,_,rfl,a,_,rfl,hS,fun l hl=>⟨qs,_,rfl,.inr (hqs _),fun l2 hl2=>?_⟩⟩
   have ec:Z0 (bl b) none (some ((4:Nat):Int))=bl (b.take 4):=by
    rw[Jc];unfold bl;rw[jW]
   have ec':Z0 (bl b) none (some 4)=bl (b.take 4):=ec
   rw[ec'] at hl2 ⊢
   have nl:l≠l2:=Qn (Qh) hl2
   have hA:SqL K (upd (upd H l (.lst (bl (b.take 4)))) l2 (.lst [.int 71,.int 76,.int 65,.int 87])) l (bl (b.take 4)):=SqL.of (by rw[Qq nl,Qh])
   have hB:SqL K (upd (upd H l (.lst (bl (b.take 4)))) l2 (.lst [.int 71,.int 76,.int 65,.int 87])) l2 (([71,76,65,87]:List Int).map V.int):=SqL.of Qh
   have s0:Qp H (upd (upd H l (.lst (bl (b.take 4)))) l2 (.lst [.int 71,.int 76,.int 65,.int 87])):=(Ql _ hl).trans (Ql _ hl2)
   refine⟨_,_,bl_dp hA,Dp.lst (ds:=([71,76,65,87]:List Int).map PyData.int) hB (XT K _ _),Ys _,Ys [71,76,65,87],_,rfl,Qz (fun h2=>?_) (fun h2=>?_)⟩
   ·have h2:(!PyData.eqv (iD (bi (b.take 4))) (iD [71,76,65,87]))=true:=h2
    rw[zP] at h2
    have h2:¬ bi (b.take 4)=[71,76,65,87]:=by simpa using h2
    have hne:b.take 4≠jL:=fun e=>h2 (by rw[e];rfl)
    rw[if_pos hne] at k
    exact⟨(by show 2≤sizeLine;decide),fun t ht=>k _ _ (s0.trans (Ql _ ht)) ⟨t,rfl,Qh⟩⟩
   ·have h2:¬ (!PyData.eqv (iD (bi (b.take 4))) (iD [71,76,65,87]))=true:=h2
    rw[zP] at h2
    have h2:bi (b.take 4)=[71,76,65,87]:=by simpa using h2
    have heq:¬ b.take 4≠jL:=fun e=>e (bi_inj (h2.trans rfl))
    rw[if_neg heq] at k
    generalize upd (upd H l (.lst (bl (b.take 4)))) l2 (.lst [.int 71,.int 76,.int 65,.int 87])=H0 at *
    refine⟨_,rfl,a,q,b,0,_,as,wb,rfl,rfl,s0.seq hS,hq,(by rw[hlen];rfl),(fun m c r hm hr H=>by
     have:=hat m c [(r.1:Int),(r.2.1:Int),(r.2.2:Int)] hm (by unfold XQ;rw[yi,hr];rfl) H
     exact this),fun H1 s1'=>?_⟩
    have s1:=s0.trans s1'
    cases ho:oob b 0 wb with
    | some p=>
     rw[ho] at k
     refine⟨_,rfl,_,rfl,Qz (fun h3=>?_) (fun h3=>absurd (by simp[Yw]) h3)⟩
     exact⟨_,rfl,(by show 2≤sizeLine;decide),fun t ht=>k _ _ (s1.trans (Ql _ ht)) ⟨t,rfl,Qh⟩⟩
    | none=>
     rw[ho] at k
     refine⟨_,rfl,_,rfl,Qz (fun h3=>absurd h3 (by simp[Yw])) (fun h3=>?_)⟩
     refine⟨_,rfl,a,_,rfl,.inl (s1.seq hS),_,rfl,a,b,rfl,s1.seq hS,fun H2 t s2' ht=>?_⟩
     have s2:=s1.trans s2'
     refine⟨t,_,_,_,rfl,rfl,SqT.of ht,Qj (j:=4) rfl,rfl,_,rfl,Qz (fun h5=>?_) (fun h5=>?_)⟩
     ·have h5:¬ ((bl b).length:Int)=(((yb b).2.2.2.2:Nat):Int):=by simpa using h5
      rw[QJ] at h5
      have k2:=k
      simp only at k2
      rw[if_pos (show b.length≠(yb b).2.2.2.2 by lia)] at k2
      exact⟨(by show 2≤sizeLine;decide),fun t ht=>k2 _ _ (s2.trans (Ql _ ht)) ⟨t,rfl,Qh⟩⟩
     ·have h5:((bl b).length:Int)=(((yb b).2.2.2.2:Nat):Int):=by simpa using h5
      rw[QJ] at h5
      have k2:=k
      simp only at k2
      rw[if_neg (show ¬ b.length≠(yb b).2.2.2.2 by lia)] at k2
      exact k2 _ _ s2 rfl
end
end Gp
set_option Elab.async false
set_option linter.all false
set_option maxRecDepth 100000
namespace L2
open PySem PySem.Spec PyProof.Rows
theorem lc_rangeC{lo c:Int}{n:Nat}{g:TG}{tt:TT}{te:TE}{vs:List Nat}{σ:St}{H1:Hp}{D:Addr}{Qd:Hp→Prop}(Pv:Nat→Hp→Prop) (h0:Pv 0 (upd H1 D (.lst [])))
  (hs:∀ i H,i<n→Pv i H→g (.int (lo+(i:Nat)*c)) (ZJ σ vs) H fun σ2 H2=>ZJ σ2 vs=ZJ σ vs∧tt σ2 H2 fun b H3=>
   if b=true then te σ2 H3 fun y H4=>∃ acc,H4 D=some (.lst acc)∧acc.length<sizeLine∧Pv (i+1) (upd H4 D (.lst (acc++[y]))) else Pv (i+1) H3) (hd:∀ H,Pv n H→Qd H) :
  ∃ W:Nat→Nat→Hp→Prop,(∃ m,W 0 m (upd H1 D (.lst [])))∧∀ i m H,W i m H→
   ((Itc lo c n).stop i H∧Qd H)∨((Itc lo c n).go i H∧∃ Nx:Hp→Prop,(∀ H',Nx H'→∃ m',m'<m∧W (i+1) m' H')∧∀ x H',(Itc lo c n).yld i H x H'→g x (ZJ σ vs) H' fun σ2 H2=>ZJ σ2 vs=ZJ σ vs∧tt σ2 H2 fun b H3=>
    if b=true then te σ2 H3 fun y H4=>∃ acc,H4 D=some (.lst acc)∧acc.length<sizeLine∧Nx (upd H4 D (.lst (acc++[y]))) else Nx H3):=by
 refine⟨fun i m H=>m=n-i∧i≤n∧Pv i H,⟨n,by simp,yM _,h0⟩,?_⟩
 rintro i m H ⟨rfl,hi,p⟩
 by_cases hlt:i<n
 ·refine .inr ⟨hlt,Pv (i+1),fun H' p'=>⟨n-(i+1),by lia,rfl,hlt,p'⟩,fun x H' y=>?_⟩
  obtain⟨e,y⟩:=y
  subst e y
  exact hs i _ hlt p
 ·have e:i=n:=by lia
  subst e
  exact .inl ⟨yl _,hd H p⟩
end L2
namespace Gp
open PySem PySem.Spec PyProof.Rows L2
abbrev sWPa:Stmt:=top 75
theorem scWPa:Qm ["workshop","places","heats","painting","place"] ["workshop","places"] (defScope sWPa):=⟨rfl,rfl,rfl,by decide +kernel,rfl,by decide +kernel,by decide +kernel⟩
def XJ(b:ye):Option Nat:=(yj (z9 b 68 4)).findSome? fun (i:Nat)=>xF (kinds b) b ((yb b).2.2.2.1+69*i)
theorem ql{n i:Nat}{f:Nat→Option Nat}{x:Nat}(hi:i<n)(h:f i=some x)(hb:∀ j,j<i→f j=none):(yj n).findSome? f=some x:=by
 rw[List.findSome?_eq_some_iff]
 refine⟨yj i,i,(yj n).drop (i+1),?_,h,?_⟩
 ·apply G5
  ·simp;lia
  ·intro m h1 h2
   rcases jP m i with q | q | q
   ·rw[x3 (by simpa using q)];simp
   ·subst q
    rw[xc (by simp)];simp
   ·rw[xc (by simp;lia)]
    simp only[yZ,List.getElem_range]
    rw[List.getElem_cons]
    rw[dif_neg (by lia)]
    simp
    lia
 ·intro j hj
  exact hb j (List.mem_range.1 hj)
theorem qF{n:Nat}{f:Nat→Option Nat}(h:∀ i,i<n→f i=none):(yj n).findSome? f=none:=by
 rw[List.findSome?_eq_none_iff]
 intro i hi
 exact h i (List.mem_range.1 hi)
theorem kinds_heat(b:ye):(kinds b).map Gla.Kind.heat=(yj (z9 b 60 4)).map fun i=>z9 b ((yb b).2.1+8*i) 4:=by
 unfold kinds
 rw[GH];rfl
section
variable {P:Program} {w:World} {K:z8} {mg:Str→Option Value} {base:Heap} {C:Addr}
theorem ok_wpa{f:Addr}{fd:FuncData}(F:Fun K "wrong_painting" "wrong_painting" sWPa f fd)(T:qH K mg)(U:Txt K mg) (N:Has P w K mg base 1 "number_at" ["octets","place","size"] (YY K)) (Wc:Has P w K mg base 2 "wrong_coat" ["workshop","place","heats"] (spWC K)) :
  QI P w K mg base CX0 3 f fd ["workshop","places"] (Yz K XJ):=by
 refine F.ok scWPa (fun vs H Q E h=>?_) (fun cdv A outer s H vs Q E hr h=>?_)
 ·obtain⟨a,t,b,rfl,_⟩:=h
  rfl
 ·obtain⟨a,t,b,rfl,hS,ht,hbe,hbl,k⟩:=h
  refine⟨_,Qb (ps_setLc (i:=2) (own:=[("place",4)]) rfl scWPa.nd rfl rfl (sw_true rfl rfl rfl rfl) (Yp rfl U.range (Qa (Qx QM (pv 1) Qg (fun _ _=>rfl)) (Qa (Qx QM (pv 1) Qg (fun _ _=>rfl)) (Qa (QS T.g8) Qc))))
    (Xf (N:=["workshop","places","heats","painting","place"]) (sc:=defScope sWPa) (by decide +kernel)) (fun _ _ _ _ _=>Qv (i:=4) scWPa.nd rfl (Or.inl rfl)) (fun _ _ _ _ _=>zF) (fun _ _ _ _ _=>Qt N (hr.mono (by decide)) (Qa (pv 0) (Qa (pv 4) (Qa Qg Qc)))))
   (Qb (QQ PassesOwn.never rfl (Yp rfl U.range (Qa (Qx QM (pv 1) Qg (fun _ _=>rfl)) (Qa (Qx QM (pv 1) Qg (fun _ _=>rfl)) (Qa (QS T.g69) Qc)))) (Qv (i:=3) scWPa.nd rfl (Or.inl rfl))
    (Qb (Qs (i:=4) scWPa.nd rfl (Or.inl rfl) (Qt Wc hr (Qa (pv 0) (Qa (QD QU (pv 3) (QS T.g64b)) (Qa (pv 2) Qc)))))
    (Qe (QH (Zg (ZR (pv 4))) (Qe (Qi (pv 4))) Qr))))
   (Qe (Qi Q5))),?_⟩
  have e1:(yb b).2.2.1=(yb b).2.1+8*z9 b 60 4:=rfl
  have e3:(yb b).2.2.2.1=(yb b).2.2.1+64*z9 b 64 4:=rfl
  have e2:(yb b).2.2.2.2=(yb b).2.2.2.1+69*z9 b 68 4:=rfl
  have bds:(yb b).2.1+8*z9 b 60 4≤b.length∧(yb b).2.2.2.1+69*z9 b 68 4=b.length:=by
   lia
  have rg1:RgC (((yb b).2.1:Nat):Int) (((yb b).2.2.1:Nat):Int) 8 (z9 b 60 4):=by
   have:=zE (i:=(((yb b).2.1:Nat):Int)) (c:=8) (n:=z9 b 60 4) (by decide) (by decide) (by lia) (by lia) (by lia)
   rw[e1,jC,jT]
   exact this
  have rg2:RgC (((yb b).2.2.2.1:Nat):Int) (((yb b).2.2.2.2:Nat):Int) 69 (z9 b 68 4):=by
   have:=zE (i:=(((yb b).2.2.2.1:Nat):Int)) (c:=69) (n:=z9 b 68 4) (by decide) (by decide) (by lia) (by lia) (by lia)
   rw[e2,jC,jT]
   exact this
  refine⟨_,rfl,t,_,_,_,rfl,rfl,ht,Qj (j:=1) rfl,_,rfl,t,_,_,_,rfl,rfl,ht,Qj (j:=2) rfl,_,_,_,_,rfl,rg1,fun h hh=>lc_rangeC (lo:=(((yb b).2.1:Nat):Int)) (c:=8) (n:=z9 b 60 4) (fun i H'=>Qp H H'∧H' h=some (.lst (ni ((yj i).map fun i=>z9 b ((yb b).2.1+8*i) 4))))
   ⟨Ql _ hh,Qh⟩ ?_ ?_⟩
  ·rintro i H1 hi ⟨s1,h1⟩
   have ei:(((yb b).2.1:Nat):Int)+((i:Nat):Int)*8=(((yb b).2.1+8*i:Nat):Int):=by lia
   refine⟨rfl,_,rfl,_,rfl,a,b,(yb b).2.1+8*i,4,_,_,rfl,ei,rfl,s1.seq hS,fun H2 s2'=>?_⟩
   have h2:H2 h=some (.lst (ni ((yj i).map fun i=>z9 b ((yb b).2.1+8*i) 4))):=s2' _ _ h1
   refine⟨_,h2,?_,?_,?_⟩
   ·simp[ni]
    exact yu hi (yE (show z9 b 60 4≤100000 by lia) (by decide))
   ·intro c o e
    rw[Qq (Qn e hh)]
    exact s2' _ _ (s1 _ _ e)
   ·rw[Qh,xf]
    simp[ni]
  ·rintro H1 ⟨s1,h1⟩
   rw[←kinds_heat] at h1
   refine⟨_,rfl,t,_,_,_,rfl,rfl,Qp.tup s1 ht,Qj (j:=3) rfl,_,rfl,t,_,_,_,rfl,rfl,Qp.tup s1 ht,Qj (j:=4) rfl,_,_,_,_,rfl,rg2,YT (lo:=(((yb b).2.2.2.1:Nat):Int)) (c:=69) (n:=z9 b 68 4) (fun i σ H'=>∃ v3 v4:Option V,σ=[some (.ref a),some (.ref t),some (.ref h),v3,v4]∧Qp H1 H'∧
     ∀ j,j<i→xF (kinds b) b ((yb b).2.2.2.1+69*j)=none)
    ⟨none,none,rfl,Qp.refl _,fun j hj=>by lia⟩ ?_ ?_⟩
   ·rintro i σ H2 hi ⟨v3,v4,rfl,s2,hb⟩
    have ei:(((yb b).2.2.2.1:Nat):Int)+((i:Nat):Int)*69+64=(((yb b).2.2.2.1+69*i+64:Nat):Int):=by lia
    refine⟨_,rfl,_,rfl,_,_,rfl,rfl,_,rfl,a,h,b,kinds b,(yb b).2.2.2.1+69*i,_,rfl,ei,(s1.trans s2).seq hS,SqL.of (s2 _ _ h1),by lia,fun H3 s3'=>?_⟩
    have s3:=s2.trans s3'
    cases hc:xF (kinds b) b ((yb b).2.2.2.1+69*i) with
    | some x=>
     refine⟨_,rfl,_,rfl,Qz (fun h3=>?_) (fun h3=>absurd (by simp[Yw]) h3)⟩
     refine⟨_,rfl,?_⟩
     have e:XJ b=some x:=by
      unfold XJ
      exact ql hi hc hb
     have:=k H3 (s1.trans s3)
     rw[e] at this
     exact this
    | none=>
     refine⟨_,rfl,_,rfl,Qz (fun h3=>absurd h3 (by simp[Yw])) (fun h3=>?_)⟩
     refine⟨_,_,rfl,s3,fun j hj=>?_⟩
     by_cases qq:j=i
     ·subst qq;exact hc
     ·exact hb j (by lia)
   ·rintro σ H2 ⟨v3,v4,rfl,s2,hb⟩
    have e:XJ b=none:=by
     unfold XJ
     exact qF hb
    have:=k H2 (s1.trans s2)
    rw[e] at this
    exact this
end
end Gp
set_option Elab.async false
set_option linter.all false
set_option maxRecDepth 100000
namespace L2
open PySem PySem.Spec PyProof.Rows
def tFnv(K:z8)(Rm:Nat→Prop)(Ok:Nat→Addr→FuncData→List Str→Sp→Prop)(i:Nat)(t:TA):TE:=fun σ H Q=>∃(f:Addr)(fd:FuncData)(ps:List Str)(k:Nat)(sp:Sp),σ[i]?=some (some (.ref f))∧yY K (.ref f)=true∧Xg K fd ps []∧Ok k f fd ps sp∧Rm k∧t σ H fun vs H1=>sp vs H1 Q E0
theorem pe_fnv{X:Cx}(i:Nat){x:Str}{p pos:Pos}{e:Expr}{es:List Expr}{t:TA} (ha:PA X (e::es) t) (hN:X.N[i]?=some x:=by rfl) (hv:Vis X.env.scope x:=by first | exact Or.inl rfl | exact Or.inr (Or.inl rfl) | exact Or.inr (Or.inr rfl)) (hd:(x==("__debug__" : Str))=false:=by decide)
  (hcd:(x==("__classdict__" : Str))=false:=by decide) (he:starEach (e::es) X.env=(false,eval e X.env)::starEach es X.env:=by rfl) (hpl:(backTo pos (starEach es X.env)).any (·.1)=false:=by rfl) :
  PE X (.Call (.Name x p) (e::es) [] pos) (tFnv X.K (fun k=>ZK k X.A) (fun k f fd ps sp=>QI X.prog X.w X.K X.mg X.base CX0 k f fd ps sp) i t):=by
 intro pins s σ H Q I h
 obtain⟨f,fd,ps,k,sp,h1,hk,hb,F,hr,h⟩:=h
 refine wpAny_Call_Name_kw (thn (zH (pos:=p) hN hv hd hcd pins s σ H (fun v H'=>v=.ref f∧H'=H) I ⟨_,h1,rfl,rfl⟩) fun u s0 ⟨v,H0,I0,r0,ev,eH⟩=>?_)
 subst ev eH
 cases r0
 refine Gc (h₀:=X.base) I0.ok.mod.kin hk (thn (ha pos pins s0 σ _ _ I0 h) fun us s1 ⟨vs,H1,I1,r,q⟩=>⟨I1.kIn,?_⟩) he hpl
 exact zD (dvs:=[]) (ds:=[]) F hr hb .nil Zm I1 r (by rw[xM];exact q)
end L2
set_option Elab.async false
set_option linter.all false
set_option maxRecDepth 100000
namespace Gp
open Gla (Pt Plan Mark)
def X9(S:Plan):Option Nat:=if jE S=false then some 20 else none
def rules:List (Plan→Option Nat):=[XE,Xk,X9,X1,X0,XZ,ZC,Z8,XO,YK]
def Xo(S:Plan):Nat→List (Plan→Option Nat)→Option (Nat×Nat)
 | _,[]=>none
 | n,f::r=>match f S with
  | some p=>some (n,p)
  | none=>Xo S (n+1) r
def Js(S:Plan):Option (Nat×Nat):=Xo S 4 rules
theorem fault_eq(S:Plan):(S.fault).map (fun e=>(e.rule,e.place))=Js S:=by
 unfold Plan.fault Js rules
 simp only[Xo,XE,Xk,X9,X1,X0,XZ,ZC,Z8,XO,YK]
 cases h4:ju (fun (p:Pt)=>decide (p.x≤S.w)&&decide (p.y≤S.h)) Pt.below S.pts with
 | some i=>rfl
 | none=>
  simp only[jD]
  cases h5:ju (fun (l:Nat×Nat)=>decide (l.1<l.2)&&decide (l.2<S.pts.length)) jq S.lines with
  | some i=>rfl
  | none=>
   simp only[jD]
   by_cases h6:jE S=false
   ·simp[h6,UC]
   ·simp only[h6,if_false]
    cases h7:yH (xo S) S.lines with
    | some i=>rfl
    | none=>
     simp only[jD]
     cases h8:(yj S.pts.length).find? (fun (i:Nat)=>decide ((S.near i).length<2)) with
     | some i=>rfl
     | none=>
      simp only[jD]
      cases h9:(yj S.pts.length).find? (fun (i:Nat)=>!((xL S.nears S.pts.length 0 (yC S.pts.length)).getD i false)) with
      | some i=>rfl
      | none=>
       simp only[jD]
       cases h10:(yj S.pts.length).find? (Gs S.nears S.pts.length) with
       | some i=>rfl
       | none=>
        simp only[jD]
        cases h11:ju (Gla.markOk S) Gla.markBelow S.marks with
        | some i=>rfl
        | none=>
         simp only[jD]
         cases h12:Gy S S.outlines 0 [] S.marks with
         | some i=>rfl
         | none=>
          simp only[jD]
          by_cases h13:S.marks.length<S.outlines.length
          ·simp[h13]
          ·simp[h13]
theorem map_none{α β:Type}{f:α→β}{o:Option α}(h:o.map f=none):o=none:=by cases o <;> simp_all
theorem good_of{S:Plan}(hw:16≤S.w∧S.w≤1048575)(hh:16≤S.h∧S.h≤1048575)(h4:XE S=none)(h5:Xk S=none)(h6:X9 S=none)(h7:X1 S=none)(h8:X0 S=none)(h9:XZ S=none)(h10:ZC S=none) :
  Pl.Good S∧∀ v,v<S.pts.length→2≤(S.near v).length:=by
 have F:Pl.Fine S:=Pl.fine_of hw.2 hh.2 (map_none h4) (map_none h5) (map_none h7)
 have hf:jE S=true:=by
  unfold X9 at h6
  cases e:jE S with
  | true=>rfl
  | false=>rw[e] at h6;simp at h6
 have deg:∀ v,v<S.pts.length→2≤(S.near v).length:=by
  have:=map_none h8
  rw[y6] at this
  intro v hv
  have:=this v (List.mem_range.2 hv)
  simpa using this
 have c2:∀ v,v<S.pts.length→Gs S.nears S.pts.length v=false:=by
  have:=map_none h10
  rw[y6] at this
  intro v hv
  have:=this v (List.mem_range.2 hv)
  simpa using this
 have A:=Pl.frame_of hf
 obtain⟨i,hi,pi⟩:=A.c00
 obtain⟨j,hj,pj⟩:=A.cw0
 have hij:i≠j:=by intro e;subst e;rw[pi] at pj;simp at pj;lia
 refine⟨⟨F,F.conn (map_none h9),fun v hv=>F.conn2 hv (by lia) (c2 v hv),fun v hv=>?_,by lia,by lia,hf⟩,deg⟩
 have:=deg v hv
 match hn:S.near v,this with
 | a::_,_=>exact⟨a,F.near_iff.1 (by rw[hn];simp)⟩
 | [],this=>simp at this
end Gp
set_option Elab.async false
set_option linter.all false
set_option maxRecDepth 100000
namespace PySem
open Sem (wp)
section
variable {prog:Program} {w:World} {A:Around} {E:Value→Shared→Prop} {s:Shared}
theorem objInitK{T newId:String}{self:Value}{av:List Value} {kv:List (Str×Value)} (hl:typeLookup (.type T) "__init__" = pure (some (.builtin "object.__init__"))) (hm:Bind.madeBy (.type T)=pure (some newId)) (hne:(some newId != some "object.__new__")=true) :
  Meets (Builtin.«object.__init__» ⟨self::av,kv⟩) (fun _ R s=>s.TypeIs self T∧R (.ok (.ret .none)) s):=by
 refine Meets.of_wp fun prog w A R s ⟨hT,hq⟩=>?_
 match av,kv with
 | [],[]=>exact wpAny_pure ⟨_,rfl,hq⟩
 | a::av,kv=>
  repeat (any_goals (first | assumption | wp_step))
  exact⟨_,rfl,hq⟩
 | [],k::kv=>
  repeat (any_goals (first | assumption | wp_step))
  exact⟨_,rfl,hq⟩
theorem callTypeK{T newId:String}{Bn:Builtin}{av:List Value} {kv:List (Str×Value)} {S:Spec} {Q:Value→Shared→Prop} (tc:TypeCalled T newId "object.__init__")
  (notobj:(some newId != some "object.__new__")=true) (c1:checkTypeCall T ⟨av,kv⟩=pure ()) (c2:checkBuiltinCall newId ⟨.type T::av,kv⟩=pure ())
  (c3:∀ o,argsOk "object.__init__" ⟨o::av,kv⟩) (en:entryFor table newId=some Bn) (mt:Meets (Bn ⟨.type T::av,kv⟩) S)
  (hq:S A.in1 (wants (fun o s1=>s1.TypeIs o T∧Q o s1) E) s):wpAny (model prog w) A (call (.type T) av kv) Q E s:=by
 obtain⟨c,tl,em⟩:=tc.mro
 have m1:=tc.made
 have m2:=tc.sub
 refine wpAny_call (codeAny_of_tree ?_)
 show wpAny _ _ (callAny (.type T) _) _ _ _
 refine wpAny_pure ⟨Code.quiet_builtin _ (by decide +kernel),codeAny_builtin F.entry_type_call ?_⟩
 rw[Around.under_plain (weight_type_call_type T av kv) (units_type_call_type T av kv)]
 have n1:=tc.notType
 have n2:=tc.canCreate
 repeat (any_goals (first | assumption | wp_step))
 refine codeAny_mono (codeAny_call_builtin tc.plain en (wpAny_of_eq c2 (mt prog w A.in1 _ s hq))) fun res s1 hres=>?_
 match res,hres with
 | .error e,hres=>exact hres
 | .ok (.ret o),hres=>
  obtain⟨hT,hQ⟩:=hres
  have l1:=tc.init.lookup
  have l2:=tc.init.bind o
  repeat (any_goals (first | assumption | wp_step))
  refine codeAny_mono (codeAny_call_builtin tc.init.plain F.entry_object_init (tc.init.check _ _ _ _ _ _ _ _ hT (c3 o) ((objInitK (av:=av) (kv:=kv) l1 tc.made notobj) prog w A.in1 (wants (fun r s2=>r=.none∧Q o s2) E) s1 ?hi))) fun res2 s2 hres2=>?_
  case hi=>exact⟨hT,rfl,hQ⟩
  match res2,hres2 with
  | .error e,hres2=>exact hres2
  | .ok (.ret r),hres2=>
   obtain⟨rfl,hq2⟩:=hres2
   repeat (any_goals (first | assumption | wp_step))
  | .ok .next,hres2=>exact hres2.elim
  | .ok .brk,hres2=>exact hres2.elim
  | .ok .cont,hres2=>exact hres2.elim
 | .ok .next,hres=>exact hres.elim
 | .ok .brk,hres=>exact hres.elim
 | .ok .cont,hres=>exact hres.elim
end
open AutoSeq1 (wpAny_loadPart')
set_option maxHeartbeats 2000000 in
theorem enumNewK(l:Addr)(its:Array Value)(n:Nat)(dd:Option Addr) (sl:Array (Option Value)) (k:Int) (tk:Tok) (fit:Builtin.SmallTypes.fitsIndex k=true) :
  Meets (Builtin.«enumerate.__new__» ⟨[.type "enumerate",.ref l],[("start",.int k tk)]⟩) (fun _ R s=>s.heap.get? l=some { cls:=.type "list",dict:=dd,data:=.seq its n,slots:=sl }∧
   R (.ok (.ret (.ref ((s.heap.push { cls:=.type "list_iterator",data:=.fields #[.ref l,.int 0 0] }).objs.size))))
    { s with heap:=(s.heap.push { cls:=.type "list_iterator",data:=.fields #[.ref l,.int 0 0] }).push { cls:=.type "enumerate",data:=.fields #[.none,.bool false,.ref s.heap.objs.size,rawInt k,.none,.none] } }):=by
 refine .of_wp fun prog w A R s q=>?_
 obtain⟨hp,g,d,tks,os⟩:=s
 obtain⟨gl,q⟩:=q
 have es:=sub_enumerate
 have gL:Heap.IsList (Shared.heap ⟨hp,g,d,tks,os⟩) l its:=⟨_,gl,rfl,n,rfl⟩
 wp_walk using wpAny_loadPart' gl
 refine wpAny_stack_any fun stk=>wpAny_pure ?_
 split
 ·rename_i cc _ _ _ _ _
  cases (cc==Value.type "enumerate")
  ·wp_walk using wpAny_loadPart' gl,wpAny_pyIter_list gL
   exact⟨_,rfl,q⟩
  ·wp_walk using wpAny_loadPart' gl,wpAny_pyIter_list gL
   exact⟨_,rfl,q⟩
 ·wp_walk using wpAny_loadPart' gl,wpAny_pyIter_list gL
  exact⟨_,rfl,q⟩
end PySem
set_option Elab.async false
set_option linter.all false
set_option maxRecDepth 100000
namespace PySem
theorem Draws.shift{prog:Program}{w:World}{A:Around}{it:Addr}{fp:List Addr}{n:Nat}{P:Nat→Value→Prop}{St:Nat→Heap→Prop}(D:Draws prog w A it fp n P St)(c:Nat) :
  Draws prog w A it fp (n+c) (fun i x=>c≤i∧P (i-c) x) (fun i h=>c≤i∧St (i-c) h) where
 live:=fun i h st=>D.live _ h st.2
 frame:=fun i h h' st k=>⟨st.1,D.frame _ h h' st.2 k⟩
 item:=fun i s Q E hi st hQ=>D.item (i-c) s Q E (by have:=st.1;lia) st.2 fun x h' tk p st' sb=>hQ x h' tk ⟨st.1,p⟩ ⟨by have:=st.1;lia,by rw[show i+1-c=i-c+1 by have:=st.1;lia];exact st'⟩ sb
 done:=fun s Q E st hE=>D.done s Q E (by have:=st.2;rw[Gb] at this;exact this) hE
end PySem
namespace L2
open PySem PySem.Spec PyProof.Rows
def Itek(K:z8)(a:Addr)(c:Nat):It:=
 ⟨fun i H=>∃(xs:List V)(x:V),SqL K H a xs∧xs[i]?=some x,fun i H v H'=>∃ T x,v=.ref T∧H T=none∧H'=upd H T (.tup [.int ((i+c:Nat):Int),x])∧∀ xs,SqL K H a xs→xs[i]?=some x,fun i H=>∃ xs:List V,SqL K H a xs∧xs.length≤i⟩
theorem turn_enumK{P : Program}{w : World}{K : z8}{elts : List Expr}{kk : Nat}{tpos : Pos}(a e it : Addr)(c : Nat)(hai : a ≠ it)(hae : a ≠ e) :
    qI P w K (.Tuple elts kk tpos) (Itek K a c) [e, it] e (fun i h => (∃ old, IsEnum h e it ((i + c : Nat) : Int) old) ∧ h.IsListIter it a i ∧ e ≠ it) where
  mem := by simp
  obj := fun i h st b hb => by
    obtain ⟨⟨old, he⟩, ⟨o, ho, hc, hd⟩, _⟩ := st
    have e' : b = e ∨ b = it := by simpa using hb
    rcases e' with z | z
    · rw [z]; exact ⟨_, he, fun v q => nomatch q⟩
    · rw [z]; exact ⟨o, ho, fun v q => by rw [hd] at q; cases q⟩
  keep := fun i h h' st k => let ⟨⟨old, he⟩, hi, hne⟩ := st; ⟨⟨old, k e (by simp) _ he⟩, hi.at fun o q => k it (by simp) o q, hne⟩
  item := by
    intro X hP hw hK hc i pins s σ H E I hf st hg
    subst hP hw hK
    obtain ⟨⟨old, he⟩, hit, hne⟩ := st
    obtain ⟨xs, x, hq, hx⟩ := hg
    obtain ⟨its, rv, p, hz⟩ := I.list hq
    obtain ⟨u, hu, ru⟩ := rv.get hx
    have hel : e < s.heap.objs.size := Heap.lt_size he
    have hil : it < s.heap.objs.size := by obtain ⟨_, q, _⟩ := hit; exact Heap.lt_size q
    have D := (Draws.list (prog := X.prog) (w := X.w) (A := X.A.in1) (I.ok.hd hc) it a hai its.toArray).shift c
    have hst : c ≤ i + c ∧ (s.heap.IsListIter it a (i + c - c) ∧ s.heap.IsList a its.toArray) := ⟨by lia, by rw [Gb]; exact hit, p.isList⟩
    have hil2 : i < its.length := by rw [← rv.length]; exact (List.getElem?_eq_some_iff.1 hx).1
    refine wpAny_pyNext_enum_itemD D (i := i + c) he hst (by rw [yn]; lia) hne (by simp only [Uw, List.not_mem_nil, or_false, not_or]; exact ⟨hne, fun z => hae z.symm⟩) fun y h' tk hy ho hst' hT hsz hk => ?_
    have hyu : y = u := by
      have h1 := hy.2
      rw [Gb] at h1
      rw [List.getElem?_toArray] at h1
      exact Option.some.inj (h1.symm.trans hu)
    subst hyu
    refine ⟨_, rfl, wpAny_letOwnedTupleGo_enum (s := { s with heap := h', toks := tk + 1 }) ho fun h'' he' sb => ?_⟩
    have hT2 := (sb.2 s.heap.objs.size (ji hel)).trans hT
    have new : Q3 X.prog X.w (upd H s.heap.objs.size (.tup [.int ((i + c : Nat) : Int), x])) h'' s.heap.objs.size (.tup [.int ((i + c : Nat) : Int), x]) :=
      ⟨by show 2 ≤ sizeLine; decide, [.int ((i + c : Nat) : Int) tk, y], .cons ⟨_, rfl⟩ (.cons ru .nil), ⟨_, hT2, rfl, _, rfl⟩⟩
    have I1 : Inv X pins σ (upd H s.heap.objs.size (.tup [.int ((i + c : Nat) : Int), x])) { s with heap := h'', toks := tk + 1 } :=
      I.turnedNew (ch := [e, it]) (fun b ob hb q => (sb.2 b (fun z => hb (by simp [z]))).trans (hk b ob (fun z => hb (by simp [z])) (fun z => hb (by simp [z])) q)) hf (yl _) new
    have hit' : h'.IsListIter it a (i + 1) := by
      have := hst'.2.1
      rw [show i + c + 1 - c = i + 1 by lia] at this
      exact this
    refine ⟨.ref s.heap.objs.size, _, I1, rfl, ⟨_, x, rfl, I.hok.fresh (yl _), rfl, fun ys hy => by rw [I.list_inj hy hq]; exact hx⟩, ⟨⟨y, ?_⟩, hit'.at fun o q => (sb.2 it (Ne.symm hne)).trans q, hne⟩, fun b hb => ?_⟩
    · have e1 : ((i + 1 + c : Nat) : Int) = ((i + c : Nat) : Int) + 1 := by lia
      rw [e1]; exact he'
    · have hb' : b < s.heap.objs.size := by
        have e' : b = e ∨ b = it := by simpa using hb
        rcases e' with z | z
        · rw [z]; exact hel
        · rw [z]; exact hil
      rw [Qq (yr hb')]
      exact (hf b hb).1
  done := by
    intro X hP hw hK hc i pins s σ H E I hf st hg
    subst hP hw hK
    obtain ⟨⟨old, he⟩, hit, hne⟩ := st
    obtain ⟨xs, hq, hx⟩ := hg
    obtain ⟨its, rv, p, hz⟩ := I.list hq
    obtain ⟨f0, f1, f2, f3, f4, f5⟩ := hf it (by simp)
    have hl := rv.length
    have hno : its.toArray[i]? = none := by simp; lia
    have D : Draws X.prog X.w X.A.in1 it [it, a] i (fun _ _ => False) (fun j h => j = i ∧ h.IsListIter it a i ∧ h.IsList a its.toArray) :=
      { live := fun _ _ st => let ⟨o, ho, _⟩ := st.2.1; ⟨o, ho⟩
        frame := fun _ _ _ st hk => ⟨st.1, st.2.1.at fun o z => hk it (by simp) o z, st.2.2.at fun o z => hk a (by simp) o z⟩
        item := fun j s Q E hj st _ => absurd st.1 (by lia)
        done := fun s Q E st hE => wpAny_nextOf_list_end (I.ok.hd hc) st.2.1 st.2.2 hno hE }
    exact wpAny_pyNext_enum_endD D he ⟨rfl, hit, p.isList⟩ fun h' eb => ⟨rfl, I.turned (t' := s.toks) (fun b o hb q => eb b o hb q) f0 f1 f3 f4 f5⟩
  self := fun A i s Q E st h => let ⟨⟨_, he⟩, _⟩ := st; wpAny_pyIter_enum he h
theorem zg{K:z8}{a:Addr}{c:Nat}{xs:List V}{p q:Nat}{tb:TS}{D:Jx}{σ:St}{H:Hp}(Pv:Nat→St→Hp→Prop)(h0:Pv 0 σ H)(hl:∀ i σ H,i≤xs.length→Pv i σ H→SqL K H a xs)
  (hs:∀ i x σ H H',xs[i]?=some x→Pv i σ H→Qp H H'→tb { D with nx:=Pv (i+1),ct:=Pv (i+1),bk:=D.nx } ((σ.set p (some (.int ((i+c:Nat):Int)))).set q (some x)) H') (hd:∀ σ H,Pv xs.length σ H→D.nx σ H) :
  ∃ W:Nat→Nat→St→Hp→Prop,(∃ m,W 0 m σ H)∧∀ i m σ H,W i m σ H→
   ((Itek K a c).stop i H∧D.nx σ H)∨((Itek K a c).go i H∧∃ N:St→Hp→Prop,(∀ σ' H',N σ' H'→∃ m',m'<m∧W (i+1) m' σ' H')∧∀ x H',(Itek K a c).yld i H x H'→zR K 2 (ZT (Zp p) (ZT (Zp q) zS)) x σ H' fun σ2 H2=>tb { D with nx:=N,ct:=N,bk:=D.nx } σ2 H2):=by
 refine⟨fun i m σ H=>m=xs.length-i∧i≤xs.length∧Pv i σ H,⟨xs.length,by simp,yM _,h0⟩,?_⟩
 rintro i m σ H ⟨rfl,hi,pv⟩
 have q':=hl i σ H hi pv
 by_cases hlt:i<xs.length
 ·refine .inr ⟨⟨xs,xs[i],q',by simp[hlt]⟩,Pv (i+1),fun σ' H' p'=>⟨xs.length-(i+1),by lia,rfl,hlt,p'⟩,fun x H' y=>?_⟩
  obtain⟨T,z,rfl,hT,rfl,y⟩:=y
  refine⟨T,_,rfl,SqT.of Qh,rfl,_,_,rfl,_,_,rfl,rfl,?_⟩
  exact hs i z σ H _ (y xs q') pv fun b o e=>by rw[Qq (Qn e hT)];exact e
 ·have e:i=xs.length:=by lia
  subst e
  exact .inl ⟨⟨xs,q',yl _⟩,hd σ H pv⟩
end L2
set_option Elab.async false
set_option linter.all false
set_option maxRecDepth 100000
namespace PySem
open PySem.F
theorem tck_enum(a:Value)(v:Value):checkTypeCall "enumerate" ⟨[a],[("start",v)]⟩=pure ():=by kernel_rfl
theorem nck_enum(a:Value)(v:Value):checkBuiltinCall "enumerate.__new__" ⟨[.type "enumerate",a],[("start",v)]⟩=pure ():=by kernel_rfl
theorem ock_enum(o a:Value)(v:Value):argsOk "object.__init__" ⟨[o,a],[("start",v)]⟩:=by kernel_rfl
theorem call_enumK{prog:Program}{w:World}{A:Around}{E:Value→Shared→Prop}{s:Shared}{l:Addr}{items:Array Value}{Q:Value→Shared→Prop}{k:Int}{tk:Tok}(fit:Builtin.SmallTypes.fitsIndex k=true)(hL:s.heap.IsList l items)
  (h:∀ h',IsEnum h' (s.heap.objs.size+1) s.heap.objs.size k .none→h'.IsListIter s.heap.objs.size l 0→(∀ b o,s.heap.get? b=some o→h'.get? b=some o)→Q (.ref (s.heap.objs.size+1)) { s with heap:=h' }) :
  wpAny (model prog w) A (call (.type "enumerate") [.ref l] [("start",.int k tk)]) Q E s:=by
 obtain⟨⟨c,dct,dt,sl⟩,hl,e1,n,e2⟩:=hL
 replace e1:c=.type "list" := e1
 replace e2:dt=.seq items n:=e2
 subst e1 e2
 refine callTypeK F.called_enumerate (by decide) (tck_enum _ _) (nck_enum _ _) (fun o=>ock_enum o _ _) F.entry_enumerate_new (enumNewK l items n dct sl k tk fit) ⟨hl,?_⟩
 show _∧_
 generalize hg:s.heap.push { cls:=.type "list_iterator",data:=.fields #[.ref l,.int 0 0] }=g
 have hz:g.objs.size=s.heap.objs.size+1:=by rw[←hg];exact Heap.size_push ..
 have hgl:g.get? s.heap.objs.size=some { cls:=.type "list_iterator",data:=.fields #[.ref l,.int 0 0] }:=by rw[←hg];exact Heap.get?_push_size _ rfl
 have hgk:∀ b o,s.heap.get? b=some o→g.get? b=some o:=fun b o x=>by rw[←hg];exact Heap.get?_push_of_some _ x
 have he:IsEnum (g.push { cls:=.type "enumerate",data:=.fields #[.none,.bool false,.ref s.heap.objs.size,rawInt k,.none,.none] }) (s.heap.objs.size+1) s.heap.objs.size k .none:=by
  have q:=Heap.get?_push_size g (o:={ cls:=.type "enumerate",data:=.fields #[.none,.bool false,.ref s.heap.objs.size,rawInt k,.none,.none] }) rfl
  rw[hz] at q;exact q
 rw[hz]
 exact⟨⟨_,he,rfl⟩,h _ he ⟨_,Heap.get?_push_of_some _ hgl,rfl,rfl⟩ fun b o x=>Heap.get?_push_of_some _ (hgk b o x)⟩
theorem callWithTyK{M:Model}{A:Around}{E:Value→Shared→Prop}{s:Shared}{pos:Pos}{T:String} {args:List (Bool×Sem Value)} {kws:List (Option Str×Sem Value)} {Q:Value→Shared→Prop}
  (pl:(args.any (·.1) || kws.any (·.1.isNone))=false) (h:wpAny M A (evalArgs (.type T) true args kws) (fun a s1=>wpAny M A (call (.type T) a.pos a.kw) Q E s1) E s):wpAny M A (callWith pos (.type T) [] args kws) Q E s:=by
 unfold callWith
 refine wpAny_bind (wpAny_holding (wpAny_mono h (fun a s1 h1=>wpAny_bind (wpAny_standAt ?_)) fun _ _ z=>z))
 simp only[pl]
 refine wpAny_bind (wpAny_pure ?_)
 exact wpAny_bind (wpAny_mono h1 (fun r s2 hr=>wpAny_bind (wpAny_holding (wpAny_point (wpAny_pure hr)))) fun _ _ z=>z)
end PySem
namespace L2
open PySem PySem.Spec PyProof.Rows
def iEnumK(K:z8)(ta tk:TA):TI:=fun σ H R=>ta σ H fun vs H1=>tk σ H1 fun zs H2=>∃(a:Addr)(c:Nat)(xs:List V),vs=[.ref a]∧zs=[.int (c:Int)]∧c<65536∧SqL K H2 a xs∧R (Itek K a c) H2
theorem pi_enumK{X:Cx}{e ek:Expr}{ta tk:TA}{p pos tpos kpos:Pos}{elts:List Expr}{kk:Nat}(hg:Gl X "enumerate")(hm:X.mg "enumerate" = none)(ha:PA X [e] ta)(hk:PK X [⟨some "start",ek,kpos⟩] tk) (hs:starEach [e] X.env=[(false,eval e X.env)]:=by rfl) :
  PI X (.Tuple elts kk tpos) (.Call (.Name "enumerate" p) [e] [⟨some "start",ek,kpos⟩] pos) (iEnumK X.K ta tk):=by
 intro pins s σ H R I h
 refine wpAny_Call_Name_kw (Xv I hg hm boot_enumerate ?_)
 refine callWithTyK (by rw[hs];rfl) (evalArgs_kw2 (by rfl) (thn (ha pos pins s σ H _ I h) fun us s1 ⟨vs,H1,I1,r1,q1⟩=>?_) hs)
 refine thn (hk pos pins s1 σ H1 _ I1 q1) fun ws s2 ⟨zs,H2,I2,r2,q2⟩=>?_
 obtain⟨a,c,xs,ex,ez,hc,hq,q⟩:=q2
 subst ex ez
 cases r1 with
 | cons r rr=>
  cases rr
  cases r
  cases r2 with
  | cons r' rr=>
   cases rr
   obtain⟨t,rfl⟩:=r'
   obtain⟨its,rv,p',hz⟩:=I2.list hq
   have la:a<s2.heap.objs.size:=p'.lt
   have fit:Builtin.SmallTypes.fitsIndex (c:Int)=true:=by
    unfold Builtin.SmallTypes.fitsIndex
    simp <;> lia
   refine call_enumK fit p'.isList fun h' he hit hk=>wpAny_pyIter_enum he ?_
   have I3:Inv X pins σ H2 { s2 with heap:=h' }:=I2.kept (t':=s2.toks) hk
   refine⟨s2.heap.objs.size+1,[s2.heap.objs.size+1,s2.heap.objs.size],_,_,H2,rfl,I3,turn_enumK a (s2.heap.objs.size+1) s2.heap.objs.size c (yr la) (yr (xm la)),⟨⟨.none,by rw[Nat.zero_add];exact he⟩,hit,G9 _⟩,fun b hb=>?_,q⟩
   have e':b=s2.heap.objs.size+1∨b=s2.heap.objs.size:=by simpa using hb
   have hle:s2.heap.objs.size≤b:=by
    rcases e' with z | z
    ·rw[z];exact xA _ _
    ·rw[z];exact yl _
   exact I2.fpOk hle (I2.hok.fresh hle)
end L2
set_option Elab.async false
set_option linter.all false
set_option maxRecDepth 100000
namespace Gp
open PySem PySem.Spec PyProof.Rows L2
open Gla (Plan)
structure OkH(S:Plan):Prop where
 w:16≤S.w∧S.w≤1048575
 h:16≤S.h∧S.h≤1048575
 siz:XV S
 pts:4≤S.pts.length
 smm:∀ m∈S.marks,Sm m.at_
theorem okH_of{b:ye}(h:X3 b=none):OkH (jJ b):=by
 unfold X3 at h
 split at h
 ·cases h
 ·split at h
  ·cases h
  ·split at h
   ·cases h
   ·rename_i hf
    rw[y6] at hf
    have g:∀ r∈cb,r.2.2.1≤z9 b r.1 r.2.1∧z9 b r.1 r.2.1≤r.2.2.2:=by
     intro r hr
     have:=hf r hr
     unfold JK at this
     simp only[y8,decide_eq_true_eq,not_or,Nat.not_lt] at this
     exact this
    have g1:=g (4,4,16,1048575) (by simp[cb])
    have g2:=g (8,4,16,1048575) (by simp[cb])
    have g3:=g (12,2,4,4096) (by simp[cb])
    have g4:=g (14,2,4,8192) (by simp[cb])
    have g5:=g (16,2,1,2048) (by simp[cb])
    simp only at g1 g2 g3 g4 g5
    refine⟨g1,g2,⟨?_,?_,?_⟩,?_,?_⟩
    ·show ((yj _).map _).length≤_
     rw[yc,yZ];lia
    ·show ((yj _).map _).length≤_
     rw[yc,yZ];lia
    ·show ((yj _).map _).length≤_
     rw[yc,yZ];lia
    ·show 4≤((yj _).map _).length
     rw[yc,yZ];lia
    ·intro m hm
     obtain⟨i,_,rfl⟩:=List.mem_map.1 hm
     exact⟨num4 _ _,num4 _ _⟩
def spDf(K:z8)(C:Addr):Sp:=fun vs H Q _=>∃(d:Addr)(S:Plan)(dx lp ll lm:Addr)(ap al am:List Addr),vs=[.ref d]∧Dw K C H d S dx lp ll lm ap al am∧OkH S∧∀ H' v,Qp H H'→Xx H' v (Js S)→Q v H'
def ZO(b:ye):Option (Nat×Nat):=match X3 b with
 | some x=>some x
 | none=>Js (jJ b)
def spPF(K:z8) (f:ye→Option (Nat×Nat)):Sp:=fun vs H Q _=>∃(a t:Addr)(b:ye),vs=[.ref a,.ref t]∧SqL K H a (bl b)∧SqT K H t (plV b)∧YE b=none∧b.length≤100000∧∀ H' v,Qp H H'→Xx H' v (f b)→Q v H'
def orW (f:ye→Option (Nat×Nat)) (b:ye):Option (Nat×Nat):=match YE b with
 | some x=>some x
 | none=>f b
abbrev sCF:Stmt:=top 54
abbrev sWF2:Stmt:=top 79
theorem scCF:Qm ["octets","fault"] ["octets"] (defScope sCF):=⟨rfl,rfl,rfl,by decide +kernel,rfl,by decide +kernel,by decide +kernel⟩
theorem scWF2:Qm ["workshop","fault"] ["workshop"] (defScope sWF2):=⟨rfl,rfl,rfl,by decide +kernel,rfl,by decide +kernel,by decide +kernel⟩
section
variable {P:Program} {w:World} {K:z8} {mg:Str→Option Value} {base:Heap} {C:Addr}
theorem ok_cf{f:Addr}{fd:FuncData}(F:Fun K "cartoon_fault" "cartoon_fault" sCF f fd) (Hc:Has P w K mg base 3 "head_fault_cartoon" ["octets"] (Jl K X3)) (Dr:Has P w K mg base 3 "drawing_of" ["octets"] (spDrw K C))
  (Df:Has P w K mg base 6 "drawing_fault" ["drawing"] (spDf K C)):QI P w K mg base CX0 7 f fd ["octets"] (Jl K ZO):=by
 refine F.ok scCF (fun vs H Q E h=>?_) (fun cdv A outer s H vs Q E hr h=>?_)
 ·obtain⟨a,b,rfl,_⟩:=h
  rfl
 ·obtain⟨a,b,rfl,hS,hl,k⟩:=h
  refine⟨_,Qb (Qs (i:=1) scCF.nd rfl (Or.inl rfl) (Qt Hc (hr.mono (by decide)) (Qa (pv 0) Qc)))
   (Qb (QH (Zg (ZR (pv 1))) (Qe (Qi (pv 1))) Qr)
   (Qe (Qi (Qt Df (hr.mono (by decide)) (Qa (Qt Dr (hr.mono (by decide)) (Qa (pv 0) Qc)) Qc))))),?_⟩
  refine⟨_,rfl,a,b,rfl,hS,hl,fun H1 v s1 hb=>?_⟩
  cases e:X3 b with
  | some x=>
   rw[e] at hb
   obtain⟨q,rfl,hq⟩:=hb
   refine⟨_,rfl,_,rfl,Qz (fun h3=>?_) (fun h3=>absurd (by simp) h3)⟩
   refine⟨_,rfl,k H1 _ s1 ?_⟩
   unfold ZO
   rw[e]
   exact⟨q,rfl,hq⟩
  | none=>
   rw[e] at hb
   have hv:v=.non:=hb
   subst hv
   refine⟨_,rfl,_,rfl,Qz (fun h3=>absurd h3 (by simp)) (fun h3=>?_)⟩
   refine⟨_,rfl,a,b,rfl,s1.seq hS,fun H2 d dx lp ll lm ap al am s2 D=>?_⟩
   refine⟨d,_,dx,lp,ll,lm,ap,al,am,rfl,D,okH_of e,fun H3 v s3 hb=>k H3 v ((s1.trans s2).trans s3) ?_⟩
   unfold ZO
   rw[e]
   exact hb
theorem ok_wf2{f:Addr}{fd:FuncData} {g:ye→Option (Nat×Nat)} (F:Fun K "workshop_fault" "workshop_fault" sWF2 f fd) (Hw:Has P w K mg base 3 "head_fault_workshop" ["workshop"] (Jl K YE)) (Pp:Has P w K mg base 2 "part_places" ["workshop"] (qQ K))
  (Pf:Has P w K mg base 8 "parts_fault" ["workshop","places"] (spPF K g)):QI P w K mg base CX0 9 f fd ["workshop"] (Jl K (orW g)):=by
 refine F.ok scWF2 (fun vs H Q E h=>?_) (fun cdv A outer s H vs Q E hr h=>?_)
 ·obtain⟨a,b,rfl,_⟩:=h
  rfl
 ·obtain⟨a,b,rfl,hS,hl,k⟩:=h
  refine⟨_,Qb (Qs (i:=1) scWF2.nd rfl (Or.inl rfl) (Qt Hw (hr.mono (by decide)) (Qa (pv 0) Qc)))
   (Qb (QH (Zg (ZR (pv 1))) (Qe (Qi (pv 1))) Qr)
   (Qe (Qi (Qt Pf (hr.mono (by decide)) (Qa (pv 0) (Qa (Qt Pp (hr.mono (by decide)) (Qa (pv 0) Qc)) Qc)))))),?_⟩
  refine⟨_,rfl,a,b,rfl,hS,hl,fun H1 v s1 hb=>?_⟩
  cases e:YE b with
  | some x=>
   rw[e] at hb
   obtain⟨q,rfl,hq⟩:=hb
   refine⟨_,rfl,_,rfl,Qz (fun h3=>?_) (fun h3=>absurd (by simp) h3)⟩
   refine⟨_,rfl,k H1 _ s1 ?_⟩
   unfold orW
   rw[e]
   exact⟨q,rfl,hq⟩
  | none=>
   rw[e] at hb
   have hv:v=.non:=hb
   subst hv
   refine⟨_,rfl,_,rfl,Qz (fun h3=>absurd h3 (by simp)) (fun h3=>?_)⟩
   refine⟨_,rfl,_,rfl,a,b,rfl,s1.seq hS,fun H2 t s2 ht=>?_⟩
   refine⟨a,t,b,rfl,(s1.trans s2).seq hS,SqT.of ht,e,hl,fun H3 v s3 hb=>k H3 v ((s1.trans s2).trans s3) ?_⟩
   unfold orW
   rw[e]
   exact hb
end
end Gp
set_option Elab.async false
set_option linter.all false
set_option maxRecDepth 100000
namespace Gp
open PySem PySem.Spec PyProof.Rows L2
open Gla (Pt Plan Mark)
theorem Ja{S:Plan}{p:Nat}:∀ {l:List (Plan→Option Nat)} {n i:Nat} {f:Plan→Option Nat},l[i]?=some f→f S=some p→(∀(j:Nat)(g:Plan→Option Nat),j<i→l[j]?=some g→g S=none)→Xo S n l=some (n+i,p)
 | [],_,_,_,h,_,_=>by simp at h
 | g::l,n,0,f,h,hf,_=>by
  have e:g=f:=by simpa using h
  subst e
  simp[Xo,hf]
 | g::l,n,i+1,f,h,hf,hb=>by
  have hg:=hb 0 g (by lia) rfl
  have:=Ja (n:=n+1) (l:=l) (i:=i) (f:=f) (by simpa using h) hf (fun j g' hj hj'=>hb (j+1) g' (by lia) (by simpa using hj'))
  simp only[Xo,hg,this]
  rw[show n+1+i=n+(i+1) by lia]
theorem Jb{S:Plan}:∀ {l:List (Plan→Option Nat)} {n:Nat},(∀(j:Nat)(g:Plan→Option Nat),l[j]?=some g→g S=none)→Xo S n l=none
 | [],_,_=>rfl
 | g::l,n,hb=>by
  have hg:=hb 0 g rfl
  simp only[Xo,hg]
  exact Jb fun j g' hj=>hb (j+1) g' (by simpa using hj)
theorem ok5_of{S:Plan}(O:OkH S)(h4:XE S=none)(h5:Xk S=none):Ok5 S:=by
 obtain⟨a4,b4⟩:=Pl.firstBad_none (map_none h4)
 obtain⟨a5,b5⟩:=Pl.firstBad_none (map_none h5)
 refine⟨fun l hl=>by simpa using a5 l hl,O.siz,Pl.sorted_of Pl.below_trans b4,fun p hp=>?_,O.smm⟩
 have q:p.x≤S.w∧p.y≤S.h:=by simpa using a4 p hp
 have:=O.w
 have:=O.h
 exact⟨by lia,by lia⟩
theorem lines_nodup{S:Plan}(h5:Xk S=none):S.lines.Nodup:=by
 obtain⟨_,b5⟩:=Pl.firstBad_none (map_none h5)
 have st:=Pl.sorted_of Pl.lineBelow_trans b5
 rw[List.nodup_iff_pairwise_ne,j9]
 intro i j hi hj hij e
 have q:=st i j hij hj
 rw[e] at q
 unfold jq at q
 simp at q
theorem ok10_of{S:Plan}(O:OkH S)(h4:XE S=none)(h5:Xk S=none)(h6:X9 S=none)(h7:X1 S=none)(h8:X0 S=none)(h9:XZ S=none)(h10:ZC S=none):Ok10 S:=
 have g:=good_of O.w O.h h4 h5 h6 h7 h8 h9 h10
 ⟨g.1,g.2,(ok5_of O h4 h5).sm,ok5_of O h4 h5⟩
theorem clear_of{S:Plan}(h:Z8 S=none):∀ m∈S.marks,j3 S m.at_=true:=by
 obtain⟨a,_⟩:=Pl.firstBad_none (map_none h)
 exact fun m hm=>a m hm
def Chk(P:Program)(w:World)(K:z8)(mg:Str→Option Value)(base:Heap)(C:Addr)(S:Plan)(f:Addr)(pre:Prop)(r:Plan→Option Nat):Prop:=
 ∃(fd:FuncData)(k:Nat)(ok:Plan→Prop),k≤5∧yY K (.ref f)=true∧Xg K fd ["drawing"] []∧QI P w K mg base CX0 k f fd ["drawing"] (Zv K C ok r)∧(pre→ok S)
abbrev sDF:Stmt:=top 53
theorem scDF:Qm ["drawing","checks","rule","check","place"] ["drawing"] (defScope sDF):=⟨rfl,rfl,rfl,by decide +kernel,rfl,by decide +kernel,by decide +kernel⟩
section
variable {P:Program} {w:World} {K:z8} {mg:Str→Option Value} {base:Heap} {C:Addr}
theorem ok_df{f:Addr}{fd:FuncData}(F:Fun K "drawing_fault" "drawing_fault" sDF f fd)(U:Txt K mg) (c4:Has P w K mg base 2 "wrong_point" ["drawing"] (Zv K C (fun _=>True) XE)) (c5:Has P w K mg base 3 "wrong_line" ["drawing"] (Zv K C (fun _=>True) Xk))
  (c6:Has P w K mg base 5 "open_frame" ["drawing"] (Zv K C (fun S=>OkH S∧Ok5 S∧S.lines.Nodup) X9)) (c7:Has P w K mg base 5 "entangled_line" ["drawing"] (Zv K C Ok5 X1)) (c8:Has P w K mg base 2 "loose_point" ["drawing"] (Zv K C (fun S=>Z3 S∧XV S) X0))
  (c9:Has P w K mg base 2 "unreached_point" ["drawing"] (Zv K C Ok8 XZ)) (c10:Has P w K mg base 2 "parting_point" ["drawing"] (Zv K C Ok8 ZC)) (c11:Has P w K mg base 4 "wrong_mark" ["drawing"] (Zv K C Ok5 Z8))
  (c12:Has P w K mg base 5 "crowding_mark" ["drawing"] (Zv K C (fun S=>Ok10 S∧∀ m∈S.marks,j3 S m.at_=true) XO)) (c13:Has P w K mg base 5 "unmarked_pane" ["drawing"] (Zv K C (fun S=>Pl.Good S) YK)) :
  QI P w K mg base CX0 6 f fd ["drawing"] (spDf K C):=by
 obtain⟨f4,fd4,m4,k4,b4,F4⟩:=c4.ex
 obtain⟨f5,fd5,m5,k5,b5,F5⟩:=c5.ex
 obtain⟨f6,fd6,m6,k6,b6,F6⟩:=c6.ex
 obtain⟨f7,fd7,m7,k7,b7,F7⟩:=c7.ex
 obtain⟨f8,fd8,m8,k8,b8,F8⟩:=c8.ex
 obtain⟨f9,fd9,m9,k9,b9,F9⟩:=c9.ex
 obtain⟨f10,fd10,m10,k10,b10,F10⟩:=c10.ex
 obtain⟨f11,fd11,m11,k11,b11,F11⟩:=c11.ex
 obtain⟨f12,fd12,m12,k12,b12,F12⟩:=c12.ex
 obtain⟨f13,fd13,m13,k13,b13,F13⟩:=c13.ex
 refine F.ok scDF (fun vs H Q E h=>?_) (fun cdv A outer s H vs Q E hr h=>?_)
 ·obtain⟨d,S,dx,lp,ll,lm,ap,al,am,rfl,_⟩:=h
  rfl
 ·obtain⟨d,S,dx,lp,ll,lm,ap,al,am,rfl,D,O,k⟩:=h
  refine⟨_,Qb (Qs (i:=1) scDF.nd rfl (Or.inl rfl) (ZD (Qa (Q7 rfl m4 (v:=.ref f4) rfl) (Qa (Q7 rfl m5 (v:=.ref f5) rfl) (Qa (Q7 rfl m6 (v:=.ref f6) rfl) (Qa (Q7 rfl m7 (v:=.ref f7) rfl) (Qa (Q7 rfl m8 (v:=.ref f8) rfl)
    (Qa (Q7 rfl m9 (v:=.ref f9) rfl) (Qa (Q7 rfl m10 (v:=.ref f10) rfl) (Qa (Q7 rfl m11 (v:=.ref f11) rfl) (Qa (Q7 rfl m12 (v:=.ref f12) rfl) (Qa (Q7 rfl m13 (v:=.ref f13) rfl) Qc))))))))))))
   (Qb (QQ PassesOwn.never rfl (pi_enumK rfl U.enum (Qa (pv 1) Qc) (pk_cons Qg pk_nil)) (ZM (n:=2) rfl (QK (Qv (i:=2) scDF.nd rfl (Or.inl rfl)) (QK (Qv (i:=3) scDF.nd rfl (Or.inl rfl)) Zj)))
    (Qb (Qs (i:=4) scDF.nd rfl (Or.inl rfl) (pe_fnv 3 (Qa (pv 0) Qc)))
    (Qe (QH (Zg (ZR (pv 4))) (Qe (Qi (Q4 (Qa (pv 2) (Qa (pv 4) Qc))))) Qr))))
   (Qe (Qi Q5))),?_⟩
  have hchk:∀(i:Nat)(x:V),[V.ref f4,.ref f5,.ref f6,.ref f7,.ref f8,.ref f9,.ref f10,.ref f11,.ref f12,.ref f13][i]?=some x→(∀ j g,j<i→rules[j]?=some g→g S=none)→
    ∃ g r,x=.ref g∧rules[i]?=some r∧Chk P w K mg base C S g True r:=by
   intro i x hx hb
   have e4:0<i→XE S=none:=fun q=>hb 0 _ q rfl
   have e5:1<i→Xk S=none:=fun q=>hb 1 _ q rfl
   have e6:2<i→X9 S=none:=fun q=>hb 2 _ q rfl
   have e7:3<i→X1 S=none:=fun q=>hb 3 _ q rfl
   have e8:4<i→X0 S=none:=fun q=>hb 4 _ q rfl
   have e9:5<i→XZ S=none:=fun q=>hb 5 _ q rfl
   have e10:6<i→ZC S=none:=fun q=>hb 6 _ q rfl
   have e11:7<i→Z8 S=none:=fun q=>hb 7 _ q rfl
   have o5:1<i→Ok5 S:=fun q=>ok5_of O (e4 (by lia)) (e5 q)
   have o10:6<i→Ok10 S:=fun q=>ok10_of O (e4 (by lia)) (e5 (by lia)) (e6 (by lia)) (e7 (by lia)) (e8 (by lia)) (e9 (by lia)) (e10 q)
   have hp:=O.pts
   match i,hx with
   | 0,hx=>exact⟨f4,_,(Option.some.inj hx).symm,rfl,fd4,2,_,by decide,k4,b4,F4,fun _=>trivial⟩
   | 1,hx=>exact⟨f5,_,(Option.some.inj hx).symm,rfl,fd5,3,_,by decide,k5,b5,F5,fun _=>trivial⟩
   | 2,hx=>exact⟨f6,_,(Option.some.inj hx).symm,rfl,fd6,5,_,by decide,k6,b6,F6,fun _=>⟨O,o5 (by decide),lines_nodup (e5 (by decide))⟩⟩
   | 3,hx=>exact⟨f7,_,(Option.some.inj hx).symm,rfl,fd7,5,_,by decide,k7,b7,F7,fun _=>o5 (by decide)⟩
   | 4,hx=>exact⟨f8,_,(Option.some.inj hx).symm,rfl,fd8,2,_,by decide,k8,b8,F8,fun _=>⟨(o5 (by decide)).lin,O.siz⟩⟩
   | 5,hx=>exact⟨f9,_,(Option.some.inj hx).symm,rfl,fd9,2,_,by decide,k9,b9,F9,fun _=>⟨(o5 (by decide)).lin,O.siz,by lia⟩⟩
   | 6,hx=>exact⟨f10,_,(Option.some.inj hx).symm,rfl,fd10,2,_,by decide,k10,b10,F10,fun _=>⟨(o5 (by decide)).lin,O.siz,by lia⟩⟩
   | 7,hx=>exact⟨f11,_,(Option.some.inj hx).symm,rfl,fd11,4,_,by decide,k11,b11,F11,fun _=>o5 (by decide)⟩
   | 8,hx=>exact⟨f12,_,(Option.some.inj hx).symm,rfl,fd12,5,_,by decide,k12,b12,F12,fun _=>⟨o10 (by decide),clear_of (e11 (by decide))⟩⟩
   | 9,hx=>exact⟨f13,_,(Option.some.inj hx).symm,rfl,fd13,5,_,by decide,k13,b13,F13,fun _=>(o10 (by decide)).good⟩
   | n+10,hx=>simp at hx
  refine⟨(by show 10≤sizeLine;decide),fun l hl=>⟨_,rfl,l,4,_,rfl,rfl,by decide,SqL.of Qh,zg (K:=K) (a:=l) (c:=4) (xs:=_) (fun i σ H'=>∃ v2 v3 v4:Option V,σ=[some (.ref d),some (.ref l),v2,v3,v4]∧Qp H H'∧H' l=some (.lst [V.ref f4,.ref f5,.ref f6,.ref f7,.ref f8,.ref f9,.ref f10,.ref f11,.ref f12,.ref f13])∧∀(j:Nat)(g:Plan→Option Nat),j<i→rules[j]?=some g→g S=none)
   ⟨none,none,none,rfl,Ql _ hl,Qh,fun j g hj=>by lia⟩ (fun i σ H' _ ⟨_,_,_,_,_,h1,_⟩=>SqL.of h1) ?_ ?_⟩⟩
  ·rintro i x σ H1 H2 hx ⟨v2,v3,v4,rfl,s1,h1,hb⟩ s2'
   obtain⟨g,r,rfl,hr',fd',k',ok,hk',hki,hbi,Fi,hok⟩:=hchk i x hx hb
   have s2:=s1.trans s2'
   refine⟨g,fd',["drawing"],k',_,rfl,hki,hbi,Fi,hr.mono (by lia),_,rfl,d,S,dx,lp,ll,lm,ap,al,am,rfl,D.same s2,hok trivial,fun H3 s3'=>?_⟩
   have s3:=s2.trans s3'
   cases hc:r S with
   | some p=>
    refine⟨_,rfl,_,rfl,Qz (fun h3=>?_) (fun h3=>absurd (by simp[Yw]) h3)⟩
    refine⟨_,rfl,_,rfl,(by show 2≤sizeLine;decide),fun q hq=>k _ _ (s3.trans (Ql _ hq)) ?_⟩
    have e:Js S=some (4+i,p):=Ja hr' hc hb
    rw[e]
    refine⟨q,rfl,?_⟩
    rw[Gn 4 i]
    exact Qh
   | none=>
    refine⟨_,rfl,_,rfl,Qz (fun h3=>absurd h3 (by simp[Yw])) (fun h3=>?_)⟩
    refine⟨_,_,_,rfl,s3,s3' _ _ (s2' _ _ h1),fun j g' hj hg=>?_⟩
    by_cases qq:j=i
    ·subst qq
     rw[hr'] at hg
     cases hg
     exact hc
    ·exact hb j g' (by lia) hg
  ·rintro σ H1 ⟨v2,v3,v4,rfl,s1,h1,hb⟩
   have e:Js S=none:=Jb fun j g hg=>hb j g (by
    have:=(List.getElem?_eq_some_iff.1 hg).1
    exact this) hg
   refine k _ _ s1 ?_
   rw[e]
   rfl
end
end Gp
set_option Elab.async false
set_option linter.all false
set_option maxRecDepth 100000
namespace Gp
open PySem PySem.Spec PyProof.Rows L2
open Gla (Pt Plan Mark)
def ZW(b:ye):Nat→List (ye→Option Nat)→Option (Nat×Nat)
 | _,[]=>none
 | n,f::r=>match f b with
  | some p=>some (n,p)
  | none=>ZW b (n+1) r
theorem JD{b:ye}{p:Nat}:∀ {l:List (ye→Option Nat)} {n i:Nat} {f:ye→Option Nat},l[i]?=some f→f b=some p→(∀(j:Nat)(g:ye→Option Nat),j<i→l[j]?=some g→g b=none)→ZW b n l=some (n+i,p)
 | [],_,_,_,h,_,_=>by simp at h
 | g::l,n,0,f,h,hf,_=>by
  have e:g=f:=by simpa using h
  subst e
  simp[ZW,hf]
 | g::l,n,i+1,f,h,hf,hb=>by
  have hg:=hb 0 g (by lia) rfl
  have:=JD (n:=n+1) (l:=l) (i:=i) (f:=f) (by simpa using h) hf (fun j g' hj hj'=>hb (j+1) g' (by lia) (by simpa using hj'))
  simp only[ZW,hg,this]
  rw[show n+1+i=n+(i+1) by lia]
theorem JE{b:ye}:∀ {l:List (ye→Option Nat)} {n:Nat},(∀(j:Nat)(g:ye→Option Nat),l[j]?=some g→g b=none)→ZW b n l=none
 | [],_,_=>rfl
 | g::l,n,hb=>by
  have hg:=hb 0 g rfl
  simp only[ZW,hg]
  exact JE fun j g' hj=>hb (j+1) g' (by simpa using hj)
def X8:List (ye→Option Nat):=[XN,XM,XJ]
def QG(b:ye):ye:=(b.drop 80).take ((yb b).1-80)
def ZE(b:ye):Option (Nat×Nat):=match ZO (QG b) with
 | some f=>some (4,80+f.2)
 | none=>ZW b 5 X8
theorem headW_len{b:ye}(h:YE b=none):b.length=(yb b).2.2.2.2:=by
 unfold YE at h
 split at h
 ·cases h
 ·split at h
  ·cases h
  ·split at h
   ·cases h
   ·split at h
    ·cases h
    ·rename_i q
     simpa using q
theorem cut_cartoon(b:ye):Z0 (bl b) (some 80) (some (((yb b).1:Nat):Int))=bl (QG b):=by
 have:=qp (xs:=bl b) (p:=80) (q:=(yb b).1)
 rw[show ((80:Nat):Int)=80 from rfl] at this
 rw[this]
 unfold QG bl
 rw[jW,xO]
def spCW(K:z8):Sp:=fun vs H Q _=>∃(a:Addr)(b:ye),vs=[.ref a]∧SqL K H a (bl b)∧∀ H' l,Qp H H'→H' l=some (.lst (bl (QG b)))→Q (.ref l) H'
abbrev sCW:Stmt:=top 69
theorem scCW:Qm ["workshop"] ["workshop"] (defScope sCW):=⟨rfl,rfl,rfl,by decide +kernel,rfl,by decide +kernel,by decide +kernel⟩
abbrev sPaF:Stmt:=top 78
theorem scPaF:Qm ["workshop","places","fault","rule","check","place"] ["workshop","places"] (defScope sPaF):=⟨rfl,rfl,rfl,by decide +kernel,rfl,by decide +kernel,by decide +kernel⟩
section
variable {P:Program} {w:World} {K:z8} {mg:Str→Option Value} {base:Heap} {C:Addr}
theorem ok_cw{f:Addr}{fd:FuncData}(F:Fun K "cartoon_within" "cartoon_within" sCW f fd)(T:qH K mg) (Pp:Has P w K mg base 2 "part_places" ["workshop"] (qQ K)):QI P w K mg base CX0 3 f fd ["workshop"] (spCW K):=by
 refine F.ok scCW (fun vs H Q E h=>?_) (fun cdv A outer s H vs Q E hr h=>?_)
 ·obtain⟨a,b,rfl,_⟩:=h
  rfl
 ·obtain⟨a,b,rfl,hS,k⟩:=h
  refine⟨_,Qe (Qi (Zo ZQ (pv 0) (Zc (QS T.g80)) (Zc (Qx QM (Qt Pp hr (Qa (pv 0) Qc)) Qg (fun _ _=>rfl))))),?_⟩
  refine⟨_,rfl,_,rfl,_,rfl,a,b,rfl,hS,fun H1 t s1 ht=>⟨t,_,_,_,rfl,rfl,SqT.of ht,Qj (j:=0) rfl,_,rfl,a,_,rfl,s1.seq hS,fun l hl=>?_⟩⟩
  rw[cut_cartoon]
  exact k _ _ (s1.trans (Ql _ hl)) Qh
theorem ok_paf{f:Addr}{fd:FuncData}(F:Fun K "parts_fault" "parts_fault" sPaF f fd)(T:qH K mg)(U:Txt K mg) (Cw:Has P w K mg base 3 "cartoon_within" ["workshop"] (spCW K)) (Cf:Has P w K mg base 7 "cartoon_fault" ["octets"] (Jl K ZO)) (c5:Has P w K mg base 3 "wrong_sheet" ["workshop","places"] (Yz K XN))
  (c6:Has P w K mg base 3 "wrong_kind" ["workshop","places"] (Yz K XM)) (c7:Has P w K mg base 3 "wrong_painting" ["workshop","places"] (Yz K XJ)) :
  QI P w K mg base CX0 8 f fd ["workshop","places"] (spPF K ZE):=by
 obtain⟨f5,fd5,m5,k5,b5,F5⟩:=c5.ex
 obtain⟨f6,fd6,m6,k6,b6,F6⟩:=c6.ex
 obtain⟨f7,fd7,m7,k7,b7,F7⟩:=c7.ex
 refine F.ok scPaF (fun vs H Q E h=>?_) (fun cdv A outer s H vs Q E hr h=>?_)
 ·obtain⟨a,t,b,rfl,_⟩:=h
  rfl
 ·obtain⟨a,t,b,rfl,hS,ht,hw,hbl,k⟩:=h
  refine⟨_,Qb (Qs (i:=2) scPaF.nd rfl (Or.inl rfl) (Qt Cf hr (Qa (Qt Cw (hr.mono (by decide)) (Qa (pv 0) Qc)) Qc)))
   (Qb (QH (Zg (ZR (pv 2))) (Qe (Qi (Q4 (Qa Qg (Qa (QD QU (QS T.g80) (Qx QM (pv 2) Qg (fun _ _=>rfl))) Qc))))) Qr)
   (Qb (QQ PassesOwn.never rfl (pi_enumK rfl U.enum (Qa (ZD (Qa (Q7 rfl m5 (v:=.ref f5) rfl) (Qa (Q7 rfl m6 (v:=.ref f6) rfl) (Qa (Q7 rfl m7 (v:=.ref f7) rfl) Qc)))) Qc) (pk_cons Qg pk_nil))
     (ZM (n:=2) rfl (QK (Qv (i:=3) scPaF.nd rfl (Or.inl rfl)) (QK (Qv (i:=4) scPaF.nd rfl (Or.inl rfl)) Zj)))
    (Qb (Qs (i:=5) scPaF.nd rfl (Or.inl rfl) (pe_fnv 4 (Qa (pv 0) (Qa (pv 1) Qc))))
    (Qe (QH (Zg (ZR (pv 5))) (Qe (Qi (Q4 (Qa (pv 3) (Qa (pv 5) Qc))))) Qr))))
   (Qe (Qi Q5)))),?_⟩
  have hlen:=headW_len hw
  have hcl:(QG b).length≤100000:=by
   unfold QG
   rw[yB,yG]
   lia
  refine⟨_,rfl,a,b,rfl,hS,fun H0 l s0 hl=>?_⟩
  refine⟨l,QG b,rfl,SqL.of hl,hcl,fun H1 v s1' hb=>?_⟩
  have s1:=s0.trans s1'
  cases e:ZO (QG b) with
  | some x=>
   rw[e] at hb
   obtain⟨q,rfl,hq⟩:=hb
   refine⟨_,rfl,_,rfl,Qz (fun h3=>?_) (fun h3=>absurd (by simp) h3)⟩
   refine⟨_,rfl,q,_,_,_,rfl,rfl,SqT.of hq,Qj (j:=1) rfl,_,_,rfl,rfl,(by show 2≤sizeLine;decide),fun z hz=>k _ _ (s1.trans (Ql _ hz)) ?_⟩
   unfold ZE
   rw[e]
   exact⟨z,rfl,Qh⟩
  | none=>
   rw[e] at hb
   have hv:v=.non:=hb
   subst hv
   refine⟨_,rfl,_,rfl,Qz (fun h3=>absurd h3 (by simp)) (fun h3=>?_)⟩
   have epw:ZE b=ZW b 5 X8:=by unfold ZE;rw[e]
   rw[epw] at k
   have hchk:∀(i:Nat)(x:V),[V.ref f5,.ref f6,.ref f7][i]?=some x→∃ g r fd',x=.ref g∧X8[i]?=some r∧yY K (.ref g)=true∧Xg K fd' ["workshop","places"] []∧QI P w K mg base CX0 3 g fd' ["workshop","places"] (Yz K r):=by
    intro i x hx
    match i,hx with
    | 0,hx=>exact⟨f5,_,fd5,(Option.some.inj hx).symm,rfl,k5,b5,F5⟩
    | 1,hx=>exact⟨f6,_,fd6,(Option.some.inj hx).symm,rfl,k6,b6,F6⟩
    | 2,hx=>exact⟨f7,_,fd7,(Option.some.inj hx).symm,rfl,k7,b7,F7⟩
    | n+3,hx=>simp at hx
   refine⟨(by show 3≤sizeLine;decide),fun l2 hl2=>⟨l2,5,_,rfl,rfl,by decide,SqL.of Qh,zg (K:=K) (a:=l2) (c:=5) (xs:=_) (fun i σ H'=>∃ v3 v4 v5:Option V,σ=[some (.ref a),some (.ref t),some .non,v3,v4,v5]∧Qp H H'∧H' l2=some (.lst [V.ref f5,.ref f6,.ref f7])∧∀(j:Nat)(g:ye→Option Nat),j<i→X8[j]?=some g→g b=none)
    ⟨none,none,none,rfl,s1.trans (Ql _ hl2),Qh,fun j g hj=>by lia⟩ (fun i σ H' _ ⟨_,_,_,_,_,h1,_⟩=>SqL.of h1) ?_ ?_⟩⟩
   ·rintro i x σ H2 H3 hx ⟨v3,v4,v5,rfl,s2,h1,hb⟩ s3'
    obtain⟨g,r,fd',rfl,hr',hki,hbi,Fi⟩:=hchk i x hx
    have s3:=s2.trans s3'
    refine⟨g,fd',["workshop","places"],3,_,rfl,hki,hbi,Fi,hr.mono (by decide),_,rfl,_,rfl,a,t,b,rfl,s3.seq hS,Qp.tup s3 ht,hlen,hbl,fun H4 s4'=>?_⟩
    have s4:=s3.trans s4'
    cases hc:r b with
    | some p=>
     refine⟨_,rfl,_,rfl,Qz (fun h3=>?_) (fun h3=>absurd (by simp[Yw]) h3)⟩
     refine⟨_,rfl,_,rfl,(by show 2≤sizeLine;decide),fun q hq=>k _ _ (s4.trans (Ql _ hq)) ?_⟩
     have e2:ZW b 5 X8=some (5+i,p):=JD hr' hc hb
     rw[e2]
     refine⟨q,rfl,?_⟩
     rw[Gn 5 i]
     exact Qh
    | none=>
     refine⟨_,rfl,_,rfl,Qz (fun h3=>absurd h3 (by simp[Yw])) (fun h3=>?_)⟩
     refine⟨_,_,_,rfl,s4,s4' _ _ (s3' _ _ h1),fun j g' hj hg=>?_⟩
     by_cases qq:j=i
     ·subst qq
      rw[hr'] at hg
      cases hg
      exact hc
     ·exact hb j g' (by lia) hg
   ·rintro σ H2 ⟨v3,v4,v5,rfl,s2,h1,hb⟩
    have e2:ZW b 5 X8=none:=JE fun j g hg=>hb j g (by
     have:=(List.getElem?_eq_some_iff.1 hg).1
     exact this) hg
    refine k _ _ s2 ?_
    rw[e2]
    rfl
end
end Gp
set_option Elab.async false
set_option linter.all false
set_option maxRecDepth 100000
namespace Gp
open PySem PySem.Spec PyProof.Rows L2
open Gla (Pt Plan Mark)
theorem oob_bounds(b:ye):(yH (fun (i:Nat) (x:Nat×Nat)=>!Gla.within x.1 x.2 (z9 b (8+4*i) 4)) UA).map (fun i=>8+4*i)=oob b 0 wb:=by
 unfold yH UA oob wb
 have key:∀ p lo hi,JH b (p,lo,hi) 0=!(yz lo hi (z9 b p 4)):=fun p lo hi=>by rw[Ye,Nat.zero_add]
 simp only[List.zipIdx_cons,List.zipIdx_nil,jQ,List.find?_nil,key]
 cases w1:yz 0 1000 (z9 b 8 4) <;> simp[w1]
 cases w2:yz 1 1000 (z9 b 12 4) <;> simp[w2]
 cases w3:yz 0 1000 (z9 b 16 4) <;> simp[w3]
 cases w4:yz 1 1000 (z9 b 20 4) <;> simp[w4]
 cases w5:yz 0 65535 (z9 b 24 4) <;> simp[w5]
 cases w6:yz 0 1000 (z9 b 28 4) <;> simp[w6]
 cases w7:yz 1 1000 (z9 b 32 4) <;> simp[w7]
 cases w8:yz 1 16777215 (z9 b 36 4) <;> simp[w8]
 cases w9:yz 0 65535 (z9 b 40 4) <;> simp[w9]
 cases w10:yz 0 65535 (z9 b 44 4) <;> simp[w10]
 cases w11:yz 0 65535 (z9 b 48 4) <;> simp[w11]
 cases w12:yz 1 255 (z9 b 52 4) <;> simp[w12]
 cases w13:yz 0 1024 (z9 b 56 4) <;> simp[w13]
 cases w14:yz 0 16 (z9 b 60 4) <;> simp[w14]
 cases w15:yz 0 256 (z9 b 64 4) <;> simp[w15]
 cases w16:yz 0 256 (z9 b 68 4) <;> simp[w16]
def ruleOf:Except Gla.Fault xT→Option (Nat×Nat)
 | .error e=>some (e.rule,e.place)
 | .ok _=>none
theorem YU(b:ye):(b.drop Gf).take (z9 b 4 4)=QG b:=by
 unfold QG
 have e:(yb b).1-80=z9 b 4 4:=by
  show 80+z9 b 4 4-80=_
  lia
 rw[e];rfl
def tailS(b:ye)(S:Plan):Except Gla.Fault xT:=match yH (fun (_:Nat) (s:Uv)=>!s.ok) (jr b S).sheets with
 | some i=>.error ⟨5,(yb b).1+16*i⟩
 | none=>match yH (fun (_:Nat) (k:xB)=>!k.ok) (jr b S).kinds with
  | some i=>.error ⟨6,(yb b).2.1+8*i⟩
  | none=>match (yj (z9 b 68 4)).findSome? fun (i:Nat)=>xF (jr b S).kinds b ((yb b).2.2.2.1+69*i) with
   | some p=>.error ⟨7,p⟩
   | none=>.ok (jr b S)
theorem tailS_eq(b:ye)(S:Plan):ruleOf (tailS b S)=ZW b 5 X8:=by
 have e5:XN b=(yH (fun (_:Nat) (s:Uv)=>!s.ok) (jr b S).sheets).map fun i=>(yb b).1+16*i:=rfl
 have e6:XM b=(yH (fun (_:Nat) (k:xB)=>!k.ok) (jr b S).kinds).map fun i=>(yb b).2.1+8*i:=rfl
 have e7:XJ b=(yj (z9 b 68 4)).findSome? fun (i:Nat)=>xF (jr b S).kinds b ((yb b).2.2.2.1+69*i):=rfl
 unfold tailS
 simp only[X8,ZW]
 rw[e5,e6,e7]
 generalize yH (fun (_:Nat) (s:Uv)=>!s.ok) (jr b S).sheets=o5
 generalize yH (fun (_:Nat) (k:xB)=>!k.ok) (jr b S).kinds=o6
 generalize ((yj (z9 b 68 4)).findSome? fun (i:Nat)=>xF (jr b S).kinds b ((yb b).2.2.2.1+69*i))=o7
 cases o5 <;> cases o6 <;> cases o7 <;> rfl
theorem planS_eq(b:ye):ruleOf (match ja (QG b) with
  | .error e=>.error ⟨4,Gf+e.place⟩
  | .ok S=>tailS b S)=ZE b:=by
 unfold ZE ZO
 rw[Y8,←fault_eq]
 have ht:=tailS_eq b (jJ (QG b))
 generalize X3 (QG b)=o
 generalize (jJ (QG b)).fault=o2
 cases o with
 | some f=>rfl
 | none=>cases o2 with
  | some e=>rfl
  | none=>exact ht
theorem shop_eq(b:ye):GA b=if b.length<Gf then .error ⟨1,b.length⟩ else if b.take 4≠jL then .error ⟨1,0⟩
  else match yH (fun (i:Nat) (x:Nat×Nat)=>!Gla.within x.1 x.2 (z9 b (8+4*i) 4)) UA with
  | some i=>.error ⟨2,8+4*i⟩
  | none=>if b.length≠(yb b).2.2.2.2 then .error ⟨3,4⟩ else match ja ((b.drop Gf).take (z9 b 4 4)) with
   | .error e=>.error ⟨4,Gf+e.place⟩
   | .ok S=>tailS b S:=rfl
theorem zN(b:ye):ruleOf (GA b)=orW ZE b:=by
 rw[shop_eq,YU]
 have hbd:=oob_bounds b
 have hp:=planS_eq b
 unfold orW YE
 rw[←hbd]
 generalize yH (fun (i:Nat) (x:Nat×Nat)=>!Gla.within x.1 x.2 (z9 b (8+4*i) 4)) UA=o
 generalize (match ja (QG b) with
  | .error e=>.error ⟨4,Gf+e.place⟩
  | .ok S=>tailS b S:Except Gla.Fault xT)=pl at hp
 generalize ZE b=pw at hp
 by_cases h1:b.length<80
 ·rw[if_pos (show b.length<Gf from h1),if_pos h1];rfl
 ·rw[if_neg (show ¬ b.length<Gf from h1),if_neg h1]
  by_cases h2:b.take 4≠jL
  ·rw[if_pos h2,if_pos h2];rfl
  ·rw[if_neg h2,if_neg h2]
   cases o with
   | some i=>rfl
   | none=>
    rw[jD]
    dsimp only
    by_cases h3:b.length≠(yb b).2.2.2.2
    ·rw[if_pos h3,if_pos h3];rfl
    ·rw[if_neg h3,if_neg h3]
     exact hp
end Gp
set_option Elab.async false
set_option linter.all false
set_option maxRecDepth 100000
namespace Gp
open PySem PySem.Spec PyProof.Rows L2
def ansV:Option (Nat×Nat)→List V
 | none=>[.int 0]
 | some x=>[.int (-5),.int (x.1:Int),.int (x.2:Int)]
def spJ(K:z8) (g:ye→Option (Nat×Nat)):Sp:=fun vs H Q _=>∃(a:Addr)(b:ye),vs=[.ref a]∧SqL K H a (bl b)∧b.length≤100000∧∀ H' l,Qp H H'→H' l=some (.lst (ansV (g b)))→Q (.ref l) H'
def spRf(K:z8):Sp:=fun vs H Q _=>∃(q:Addr)(x:Nat×Nat)(m:Nat),vs=[.ref q,.int (m:Int)]∧H q=some (.tup [.int (x.1:Int),.int (x.2:Int)])∧∀ H' l,Qp H H'→H' l=some (.lst [.int (-5),.int ((x.1+m:Nat):Int),.int (x.2:Int)])→Q (.ref l) H'
abbrev sRf:Stmt:=top 86
theorem scRf:Qm ["fault","more"] ["fault","more"] (defScope sRf):=⟨rfl,rfl,rfl,by decide +kernel,rfl,by decide +kernel,by decide +kernel⟩
abbrev sJ:Stmt:=top 87
theorem scJ:Qm ["workshop","fault"] ["workshop"] (defScope sJ):=⟨rfl,rfl,rfl,by decide +kernel,rfl,by decide +kernel,by decide +kernel⟩
structure TxtJ(mg:Str→Option Value):Prop where
 gM:GI mg "MOST_WORKSHOP_BYTES" 1048576
 g6:GI mg "TOO_LONG" (-6)
section
variable {P:Program} {w:World} {K:z8} {mg:Str→Option Value} {base:Heap} {C:Addr}
theorem ok_rf{f:Addr}{fd:FuncData}(F:Fun K "refusal" "refusal" sRf f fd) (g5:GI mg "BROKEN_RULE" (-5)):QI P w K mg base CX0 1 f fd ["fault","more"] (spRf K):=by
 refine F.ok scRf (fun vs H Q E h=>?_) (fun cdv A outer s H vs Q E hr h=>?_)
 ·obtain⟨q,x,m,rfl,_⟩:=h
  rfl
 ·obtain⟨q,x,m,rfl,hq,k⟩:=h
  refine⟨_,Qe (Qi (ZD (Qa (QS g5) (Qa (QD QU (Qx QM (pv 0) Qg (fun _ _=>rfl)) (pv 1)) (Qa (Qx QM (pv 0) Qg (fun _ _=>rfl)) Qc))))),?_⟩
  exact⟨_,rfl,q,_,_,_,rfl,rfl,SqT.of hq,Qj (j:=0) rfl,_,rfl,_,_,rfl,rfl,_,rfl,q,_,_,_,rfl,rfl,SqT.of hq,Qj (j:=1) rfl,(by show 3≤sizeLine;decide),fun z hz=>k _ _ (Ql _ hz) (by rw[Qh];rfl)⟩
theorem ok_j{f:Addr}{fd:FuncData} {g:ye→Option (Nat×Nat)} (F:Fun K "judge" "judge" sJ f fd) (T:TxtJ mg) (U:Txt K mg) (Rf:Has P w K mg base 1 "refusal" ["fault","more"] (spRf K)) (Wf:Has P w K mg base 9 "workshop_fault" ["workshop"] (Jl K g)):QI P w K mg base CX0 10 f fd ["workshop"] (spJ K g):=by
 refine F.ok scJ (fun vs H Q E h=>?_) (fun cdv A outer s H vs Q E hr h=>?_)
 ·obtain⟨a,b,rfl,_⟩:=h
  rfl
 ·obtain⟨a,b,rfl,hS,hbl,k⟩:=h
  refine⟨_,Qb (QH (Qu Ze (QL Qw (by rfl) U.len PySem.boot_len (Qa (pv 0) Qc)) (QS T.gM) (Qo _)) (Qe (Qi (ZD (Qa (QS T.g6) Qc)))) Qr)
   (Qb (Qs (i:=1) scJ.nd rfl (Or.inl rfl) (Qt Wf hr (Qa (pv 0) Qc)))
   (Qb (QH (Zg (pc_isN (pv 1))) (Qe (Qi (ZD (Qa Qg Qc)))) Qr)
   (Qe (Qi (Qt Rf (hr.mono (by decide)) (Qa (pv 1) (Qa Qg Qc))))))),?_⟩
  refine⟨_,rfl,a,_,rfl,.inl hS,_,_,rfl,rfl,_,rfl,Qz (fun h1=>?_) (fun h1=>?_)⟩
  ·exfalso
   have h1:(1048576:Int)<((bl b).length:Int):=of_decide_eq_true h1
   rw[QJ] at h1
   lia
  ·refine⟨_,rfl,a,b,rfl,hS,hbl,fun H1 v s1 hb=>?_⟩
   cases e:g b with
   | some x=>
    rw[e] at hb k
    obtain⟨q,rfl,hq⟩:=hb
    refine⟨_,rfl,_,rfl,Qz (fun h3=>absurd h3 (by simp)) (fun h3=>?_)⟩
    exact⟨_,rfl,q,x,0,rfl,hq,fun H2 z s2 hz=>k _ _ (s1.trans s2) hz⟩
   | none=>
    rw[e] at hb k
    have hv:v=.non:=hb
    subst hv
    refine⟨_,rfl,_,rfl,Qz (fun h3=>?_) (fun h3=>absurd (by simp) h3)⟩
    exact⟨(by show 1≤sizeLine;decide),fun z hz=>k _ _ (s1.trans (Ql _ hz)) Qh⟩
end
end Gp
set_option Elab.async false
set_option linter.all false
set_option maxRecDepth 100000
namespace L2
open PySem PySem.Spec PyProof.Rows
theorem for_zip{K:z8}{a b:Addr}{xs ys:List V}{p q n:Nat}{tb:TS}{D:Jx}{σ:St}{H:Hp}(Pv:Nat→St→Hp→Prop)(hn:n=min xs.length ys.length)(h0:Pv 0 σ H)(hl:∀ i σ H,i≤n→Pv i σ H→SqL K H a xs∧SqL K H b ys)
  (hs:∀ i x y σ H H',xs[i]?=some x→ys[i]?=some y→Pv i σ H→Qp H H'→tb { D with nx:=Pv (i+1),ct:=Pv (i+1),bk:=D.nx } ((σ.set p (some x)).set q (some y)) H') (hd:∀ σ H,Pv n σ H→D.nx σ H) :
  ∃ W:Nat→Nat→St→Hp→Prop,(∃ m,W 0 m σ H)∧∀ i m σ H,W i m σ H→
   ((Itz K a b).stop i H∧D.nx σ H)∨((Itz K a b).go i H∧∃ N:St→Hp→Prop,(∀ σ' H',N σ' H'→∃ m',m'<m∧W (i+1) m' σ' H')∧∀ x H',(Itz K a b).yld i H x H'→zR K 2 (ZT (Zp p) (ZT (Zp q) zS)) x σ H' fun σ2 H2=>tb { D with nx:=N,ct:=N,bk:=D.nx } σ2 H2):=by
 refine⟨fun i m σ H=>m=n-i∧i≤n∧Pv i σ H,⟨n,by simp,yM _,h0⟩,?_⟩
 rintro i m σ H ⟨rfl,hi,pv⟩
 obtain⟨q1,q2⟩:=hl i σ H hi pv
 by_cases hlt:i<n
 ·have l1:i<xs.length:=by lia
  have l2:i<ys.length:=by lia
  refine .inr ⟨⟨xs,ys,xs[i],ys[i],q1,q2,by simp[l1],by simp[l2]⟩,Pv (i+1),fun σ' H' p'=>⟨n-(i+1),by lia,rfl,hlt,p'⟩,fun x H' y=>?_⟩
  obtain⟨T,z1,z2,rfl,hT,rfl,y1,y2⟩:=y
  refine⟨T,_,rfl,SqT.of Qh,rfl,_,_,rfl,_,_,rfl,rfl,?_⟩
  exact hs i z1 z2 σ H _ (y1 xs q1) (y2 ys q2) pv fun c o e=>by rw[Qq (Qn e hT)];exact e
 ·have e:i=n:=by lia
  subst e
  exact .inl ⟨⟨xs,ys,q1,q2,by lia⟩,hd σ H pv⟩
end L2
set_option Elab.async false
set_option linter.all false
set_option maxRecDepth 100000
namespace L2
open PySem PySem.Spec PyProof.Rows
noncomputable def eqR (h:Heap) (d:PyData) (u:Value):Bool:=@decide (∃ e as,Reads h u e as∧e.canLay0=true∧PyData.eqv e d=true) (Gg _)
theorem eqR_of{h:Heap}{d e:PyData}{u:Value}{as:List Addr}(r:Reads h u e as)(l:e.canLay0=true):eqR h d u=PyData.eqv e d:=by
 unfold eqR
 cases q:PyData.eqv e d with
 | true=>exact @decide_eq_true _ (Gg _) ⟨e,as,r,l,q⟩
 | false=>
  refine @decide_eq_false _ (Gg _) ?_
  rintro⟨e',as',r',l',q'⟩
  have:=SeqAt.Reads.unique e e' u as as' l r r'
  subst this
  rw[q] at q'
  cases q'
theorem eqR_all{A:Around}{s:Shared}{d:PyData}{v:Value}{bs:List Addr}(rv:Reads s.heap v d bs)(ld:d.canLay0=true)(hu:A.units+d.depth<cLine):∀(ds:List PyData)(us:List Value)(as:List Addr),ReadsAll s.heap us ds as→PyData.canLayAll0 ds=true→
  (∀ u∈us,SeqAt.EqAt A s u v (eqR s.heap d u))∧us.any (eqR s.heap d)=ds.any fun e=>PyData.eqv e d
 | [],us,_,h,_=>by
  cases h
  exact⟨fun u hm=>(by cases hm),rfl⟩
 | e::ds,us,_,h,l=>by
  cases h with
  | cons r rs=>
   have l':e.canLay0=true∧PyData.canLayAll0 ds=true:=by simpa [PyData.canLayAll0] using l
   obtain⟨i1,i2⟩:=eqR_all rv ld hu ds _ _ rs l'.2
   have q:=eqR_of (d:=d) r l'.1
   refine⟨fun u hu'=>?_,?_⟩
   ·rcases List.mem_cons.mp hu' with rfl | hu'
    ·rw[q]
     exact SeqAt.eqAt_reads e d A s _ _ _ _ r rv l'.1 ld (by have:=Nat.min_le_right e.depth d.depth;lia)
    ·exact i1 u hu'
   ·rw[xr,xr,q,i2]
def rNotInD(K:z8):R2:=fun x y H Q=>∃ p xs d ds,y=.ref p∧SqL K H p xs∧Dp K H x d∧Ji K H xs ds∧d.canLay0=true∧d.depth≤8∧PyData.canLayAll0 ds=true∧Q (.bl (!(ds.any fun e=>PyData.eqv e d))) H
theorem op_notInD{X:Cx}(hu:X.A.units+64<cLine):OpR X (compareOp .NotIn) (rNotInD X.K):=by
 intro pins s σ H x y v u Q I rx ry h
 obtain⟨p,xs,d,ds,rfl,hq,hd,hds,ld,dd,lds,q⟩:=h
 cases ry
 obtain⟨its,r,pl,hz⟩:=I.list hq
 obtain⟨as,r1⟩:=Dp.reads I d x v hd rx
 obtain⟨bs,r2⟩:=Dp.readsAll I ds xs its hds r
 obtain⟨e1,e2⟩:=eqR_all (A:=X.A.in1) r1 ld (by show X.A.units+1+d.depth<cLine;lia) ds its bs r2 lds
 refine SeqAt.notIn_listAt (eqR s.heap d) pl.isList (fun w hw=>e1 w (by simpa using hw)) ⟨.bl _,H,I,rfl,?_⟩
 rw[show its.toArray.any (eqR s.heap d)=its.any (eqR s.heap d) by simp,e2]
 exact q
end L2
namespace Gp
open PySem PySem.Spec PyProof.Rows L2
open Gla (Pt Plan)
def tD(p:Nat×Nat):PyData:=.tuple [.int (p.1:Int),.int (p.2:Int)]
theorem tD_eqv(p q:Nat×Nat):PyData.eqv (tD p) (tD q)=decide (p=q):=by
 unfold tD
 rw[PyData.eqv,PyData.eqvAll,PyData.eqvAll,PyData.eqvAll,PyData.eqv,PyData.eqv,yw]
 obtain⟨a,b⟩:=p
 obtain⟨c,d⟩:=q
 simp
 lia
theorem tD_lay(p:Nat×Nat):(tD p).canLay0=true:=by
 unfold tD;simp[PyData.canLay0,PyData.canLayAll0]
theorem tD_depth(p:Nat×Nat):(tD p).depth≤8:=by
 unfold tD;simp[PyData.depth,PyData.depthAll]
theorem qM:∀ ps:List (Nat×Nat),PyData.canLayAll0 (ps.map tD)=true
 | []=>rfl
 | p::ps=>by rw[yD,PyData.canLayAll0,tD_lay,qM ps];rfl
theorem tD_dp{K:z8}{H:Hp}{a:Addr}{p:Nat×Nat} (h:H a=some (.tup [.int (p.1:Int),.int (p.2:Int)])):Dp K H (.ref a) (tD p):=
 .tup (SqT.of h) (.cons (.int _) (.cons (.int _) .nil))
theorem tD_dpAll{K:z8}{H:Hp}:∀ (as:List Addr) (ps:List (Nat×Nat)),as.length=ps.length→(∀(i:Nat)(a:Addr)(p:Nat×Nat),as[i]?=some a→ps[i]?=some p→H a=some (.tup [.int (p.1:Int),.int (p.2:Int)]))→Ji K H (as.map V.ref) (ps.map tD)
 | [],[],_,_=>.nil
 | [],_::_,h,_=>by simp at h
 | _::_,[],h,_=>by simp at h
 | a::as,p::ps,h,k=>.cons (tD_dp (k 0 a p rfl rfl)) (tD_dpAll as ps (by simpa using h) fun i a p h1 h2=>k (i+1) a p (by simpa using h1) (by simpa using h2))
def Z2(S:Plan):List (Nat×Nat):=[(0,0),(S.w,0),(0,S.h),(S.w,S.h)]
def Y5(S:Plan)(c:Nat×Nat):Bool:=!((S.pts.map xy).any fun p=>decide (p=c))
abbrev sLC:Stmt:=top 24
def spLC(K:z8)(C:Addr):Sp:=fun vs H Q _=>∃(d:Addr)(S:Plan)(dx lp ll lm:Addr)(ap al am:List Addr),vs=[.ref d]∧Dw K C H d S dx lp ll lm ap al am∧∀ H',Qp H H'→Q (.bl ((Z2 S).any (Y5 S))) H'
theorem scLC:Qm ["drawing","corners","corner"] ["drawing"] (defScope sLC):=⟨rfl,rfl,rfl,by decide +kernel,rfl,by decide +kernel,by decide +kernel⟩
theorem boot_any1:bootBuiltins "any" = some (.builtin "any"):=by decide +kernel
section
variable {P:Program} {w:World} {K:z8} {mg:Str→Option Value} {base:Heap} {C:Addr}
theorem ok_lc{f:Addr}{fd:FuncData}(F:Fun K "lacks_corner" "lacks_corner" sLC f fd)(T:ZP K mg C)(U:Txt K mg):QI P w K mg base CX0 4 f fd ["drawing"] (spLC K C):=by
 refine F.ok scLC (fun vs H Q E h=>?_) (fun cdv A outer s H vs Q E hr h=>?_)
 ·obtain⟨d,S,dx,lp,ll,lm,ap,al,am,rfl,_⟩:=h
  rfl
 ·obtain⟨d,S,dx,lp,ll,lm,ap,al,am,rfl,D,k⟩:=h
  refine⟨_,Qb (Qs (i:=1) scLC.nd rfl (Or.inl rfl) (ZD (Qa (Q4 (Qa Qg (Qa Qg Qc))) (Qa (Q4 (Qa (QB (pv 0) rfl) (Qa Qg Qc))) (Qa (Q4 (Qa Qg (Qa (QB (pv 0) rfl) Qc))) (Qa (Q4 (Qa (QB (pv 0) rfl) (Qa (QB (pv 0) rfl) Qc))) Qc))))))
   (Qe (Qi (QL (cr_any rfl) (by rfl) U.any boot_any1 (Qa (pe_lc (own:=[("corner",2)]) (te:=tOp (rNotInD K) (Zt 2) (tFld K (Zt 0) "points")) rfl scLC.nd (Q6 (pv 1)) (Xf (N:=["drawing","corners","corner"]) (sc:=defScope sLC) (by decide +kernel)) (fun _ _ _ _ _=>Qv (i:=2) scLC.nd rfl (Or.inl rfl)) (fun _ _ _ _ _=>zF)
    (fun _ _ _ _ _=>by exact QO (op_notInD hr.units) (pv 2) (QB (pv 0) rfl) (by with_unfolding_all rfl))) Qc)))),?_⟩
  refine⟨(by show 2≤sizeLine;decide),fun t1 ht1=>?_⟩
  have s1:=Ql (.tup [.int 0,.int 0]) ht1
  generalize e1:upd H t1 (.tup [.int 0,.int 0])=H1 at s1 ⊢
  have g1:H1 t1=some (.tup [.int 0,.int 0]):=by rw[←e1];exact Qh
  refine⟨_,rfl,d,C,dx,_,_,rfl,(D.same s1).ins,T.cl,T.nW,df_w _ _ _ _ _,(by show 2≤sizeLine;decide),fun t2 ht2=>?_⟩
  have s2':=Ql (.tup [.int (S.w:Int),.int 0]) ht2
  have s2:=s1.trans s2'
  generalize e2:upd H1 t2 (.tup [.int (S.w:Int),.int 0])=H2 at s2 s2' ⊢
  have g2:H2 t2=some (.tup [.int (S.w:Int),.int 0]):=by rw[←e2];exact Qh
  refine⟨_,rfl,d,C,dx,_,_,rfl,(D.same s2).ins,T.cl,T.nH,df_h _ _ _ _ _,(by show 2≤sizeLine;decide),fun t3 ht3=>?_⟩
  have s3':=Ql (.tup [.int 0,.int (S.h:Int)]) ht3
  have s3:=s2.trans s3'
  generalize e3:upd H2 t3 (.tup [.int 0,.int (S.h:Int)])=H3 at s3 s3' ⊢
  have g3:H3 t3=some (.tup [.int 0,.int (S.h:Int)]):=by rw[←e3];exact Qh
  refine⟨_,rfl,d,C,dx,_,_,rfl,(D.same s3).ins,T.cl,T.nW,df_w _ _ _ _ _,_,rfl,d,C,dx,_,_,rfl,(D.same s3).ins,T.cl,T.nH,df_h _ _ _ _ _,(by show 2≤sizeLine;decide),fun t4 ht4=>?_⟩
  have s4':=Ql (.tup [.int (S.w:Int),.int (S.h:Int)]) ht4
  have s4:=s3.trans s4'
  generalize e4:upd H3 t4 (.tup [.int (S.w:Int),.int (S.h:Int)])=H4 at s4 s4' ⊢
  have g4:H4 t4=some (.tup [.int (S.w:Int),.int (S.h:Int)]):=by rw[←e4];exact Qh
  refine⟨(by show 4≤sizeLine;decide),fun l hl=>?_⟩
  have s5':=Ql (.lst [V.ref t1,.ref t2,.ref t3,.ref t4]) hl
  have s5:=s4.trans s5'
  generalize e5:upd H4 l (.lst [V.ref t1,.ref t2,.ref t3,.ref t4])=H5 at s5 s5' ⊢
  have g5:H5 l=some (.lst [V.ref t1,.ref t2,.ref t3,.ref t4]):=by rw[←e5];exact Qh
  have a1:H5 t1=some (.tup [.int 0,.int 0]):=s5' _ _ (s4' _ _ (s3' _ _ (s2' _ _ g1)))
  have a2:H5 t2=some (.tup [.int (S.w:Int),.int 0]):=s5' _ _ (s4' _ _ (s3' _ _ g2))
  have a3:H5 t3=some (.tup [.int 0,.int (S.h:Int)]):=s5' _ _ (s4' _ _ g3)
  have a4:H5 t4=some (.tup [.int (S.w:Int),.int (S.h:Int)]):=s5' _ _ g4
  have hat:∀(i:Nat)(x:V),[V.ref t1,.ref t2,.ref t3,.ref t4][i]?=some x→∃(a:Addr)(c:Nat×Nat),x=.ref a∧(Z2 S)[i]?=some c∧H5 a=some (.tup [.int (c.1:Int),.int (c.2:Int)]):=by
   intro i x hx
   match i,hx with
   | 0,hx=>exact⟨t1,_,(Option.some.inj hx).symm,rfl,a1⟩
   | 1,hx=>exact⟨t2,_,(Option.some.inj hx).symm,rfl,a2⟩
   | 2,hx=>exact⟨t3,_,(Option.some.inj hx).symm,rfl,a3⟩
   | 3,hx=>exact⟨t4,_,(Option.some.inj hx).symm,rfl,a4⟩
   | n+4,hx=>simp at hx
  refine⟨_,rfl,l,rfl,⟨_,SqL.of g5⟩,fun r hr0=>zK (K:=K) (a:=l) (xs:=[V.ref t1,.ref t2,.ref t3,.ref t4]) (fun i H'=>Qp H5 H'∧H' r=some (.lst (((Z2 S).take i).map fun c=>V.bl (Y5 S c))))
   ⟨Ql _ hr0,Qh⟩ (fun i H' _ ⟨s6,_⟩=>SqL.of (s6 _ _ g5)) ?_ ?_⟩
  ·rintro i x H6 hx ⟨s6,h6⟩
   obtain⟨a,c,rfl,hc,ha⟩:=hat i x hx
   have D6:=D.same (s5.trans s6)
   refine⟨rfl,_,rfl,_,rfl,d,C,dx,_,_,rfl,D6.ins,T.cl,T.nP,Xc _ _ _ _ _,lp,_,tD c,_,rfl,D6.pts.lst,tD_dp (s6 _ _ ha),tD_dpAll _ _ D6.pts.len D6.pts.at_,tD_lay _,tD_depth _,qM _,?_⟩
   refine⟨_,h6,?_,?_,?_⟩
   ·have:((Z2 S).take i).length≤4:=by rw[yB];show min i 4≤4;lia
    rw[yc]
    exact yF this (by decide)
   ·intro b o e
    rw[Qq (Qn e hr0)]
    exact s6 _ _ e
   ·rw[Qh,List.take_succ,hc,jS]
    have:(!((S.pts.map xy).map tD).any fun e=>PyData.eqv e (tD c))=Y5 S c:=by
     unfold Y5
     rw[Gh]
     congr 2
     funext p
     exact tD_eqv p c
    rw[this]
    rfl
  ·rintro H6 ⟨s6,h6⟩
   refine⟨r,(Z2 S).map (Y5 S),rfl,SqL.of (by rw[h6];simp[Z2]),?_⟩
   have:=k H6 (s5.trans s6)
   rw[Gh]
   exact this
end
end Gp
set_option Elab.async false
set_option linter.all false
set_option maxRecDepth 100000
namespace PySem
open PySem.F
abbrev Xw(h:Heap)(e j:Addr)(i:Int)(kept:Value)(a:Addr)(f:Bool):Prop:=
 h.get? e=some { cls:=.type "enumerate",dict:=none,data:=.fields #[rawInt a,.bool f,.ref j,rawInt i,.none,kept],slots:=#[] }
section
variable {prog:Program} {w:World} {A:Around} {E:Value→Shared→Prop} {s:Shared}
theorem alive_at{a:Addr}{o:Obj}{Q:Option Obj→Shared→Prop}(x:s.heap.get? a=some o) (q:Q (some o) s):wpAny (model prog w) A (loadIfAlive a) Q E s:=by
 have q':Q (s.heap.get? a) s:=by rw[x];exact q
 exact fun _ _ _=>q'
theorem enHeld_next{e j l a:Addr}{f:Bool}{i:Nat}{its:Array Value}{x kept:Value}{oa:Obj}{Q:Option Value→Shared→Prop}(xe:Xw s.heap e j i kept a f)(xa:s.heap.get? a=some oa)(nae:a≠e)(naj:a≠j)
  (xj:s.heap.IsListIter j l i) (xl:s.heap.IsList l its) (xi:its[i]?=some x) (nej:e≠j)
  (q:∀ h',Xw h' e j ((i:Int)+1) kept a true→h'.IsListIter j l (i+1)→h'.get? s.heap.objs.size=some { cls:=.type "tuple",data:=.seq #[.int i s.toks,x] }→h'.objs.size=s.heap.objs.size+1→
   (∀ b o,b≠e→b≠j→s.heap.get? b=some o→h'.get? b=some o)→Q (some (.ref s.heap.objs.size)) { s with heap:=h',toks:=s.toks+1 }) :
  wpAny (model prog w) A (pyNext (.ref e)) Q E s:=by
 obtain⟨p0,gn,dw,tn,om⟩:=s
 have ty:Shared.TypeIs ⟨p0,gn,dw,tn,om⟩ (.ref e) "enumerate" := ⟨_,xe,rfl⟩
 unfold pyNext
 refine wpAny_bind (wpAny_attempt (wpAny_callSpecial?_slot (name:=Str.ofString "__next__") ty slot_enumerate_next (wpAny_call_entry slot_enumerate_next ty entry_enumerate_next ?_ (args_enumerate_next_1 _))))
 show wpAny _ _ (field (.ref e) 2 >>= _) _ _ (Shared.mk p0 gn dw tn om)
 refine wpAny_bind (wpAny_field xe rfl (x:=.ref j) rfl ?_)
 refine wpAny_bind (wpAny_nextOf_list_item xj xl xi fun p1 y1 z1=>?_)
 replace z1:Heap.SameBut j p0 p1:=z1
 have w1:Xw p1 e j i kept a f:=(z1.2 e nej).trans xe
 show wpAny _ _ (field (.ref e) 3 >>= _) _ _ (Shared.mk p1 gn dw tn om)
 refine wpAny_bind (wpAny_field w1 rfl (x:=rawInt i) rfl ?_)
 show wpAny _ _ (field (.ref e) 4 >>= _) _ _ (Shared.mk p1 gn dw tn om)
 refine wpAny_bind (wpAny_field w1 rfl (x:=.none) rfl ?_)
 show wpAny _ _ (mkInt i >>= _) _ _ (Shared.mk p1 gn dw tn om)
 refine wpAny_bind (wpAny_mkInt ?_)
 show wpAny _ _ (setField (.ref e) 3 (rawInt ((i:Int)+1)) >>= _) _ _ (Shared.mk p1 gn dw (tn+1) om)
 refine wpAny_bind (wpAny_setField_rec w1 (by simp) fun p2 w2 z2=>?_)
 replace z2:Heap.SameBut e p1 p2:=z2
 replace w2:Xw p2 e j ((i:Int)+1) kept a f:=w2
 show wpAny _ _ (setField (.ref e) 4 .none >>= _) _ _ (Shared.mk p2 gn dw (tn+1) om)
 refine wpAny_bind (wpAny_setField_rec w2 (by simp) fun p3 w3 z3=>?_)
 replace z3:Heap.SameBut e p2 p3:=z3
 replace w3:Xw p3 e j ((i:Int)+1) kept a f:=w3
 show wpAny _ _ (newTuple [.int i tn,x] >>= _) _ _ (Shared.mk p3 gn dw (tn+1) om)
 refine wpAny_bind (wpAny_newTuple ?_)
 have w4:Xw (p3.push { cls:=.type "tuple",data:=.seq #[.int i tn,x] }) e j ((i:Int)+1) kept a f:=Heap.get?_push_of_some _ w3
 generalize eg:p3.push { cls:=.type "tuple",data:=.seq #[.int i tn,x] }=p4 at w4
 have sz:p3.objs.size=p0.objs.size:=by rw[z3.1,z2.1,z1.1]
 have el:e<p0.objs.size:=Heap.lt_size xe
 have t4:p4.get? p0.objs.size=some { cls:=.type "tuple",data:=.seq #[.int i tn,x] }:=by rw[←eg,←sz];exact Heap.get?_push_size _ rfl
 have n4:p4.objs.size=p0.objs.size+1:=by rw[←eg,Heap.size_push,sz]
 have k4:∀ b o,b≠e→b≠j→p0.get? b=some o→p4.get? b=some o:=fun b o be bj hb=>by
  rw[←eg];exact Heap.get?_push_of_some _ (z3.extBut b o be (z2.extBut b o be (z1.extBut b o bj hb)))
 have y4:p4.IsListIter j l (i+1):=by
  rw[←eg];obtain⟨o,ho,r⟩:=(y1.extBut z2.extBut nej.symm).extBut z3.extBut nej.symm;exact⟨o,Heap.get?_push_of_some _ ho,r⟩
 show wpAny _ _ (Builtin.SmallTypes.ownedTupleIsFree (.ref e) >>= _) _ _ (Shared.mk p4 gn dw (tn+1) om)
 rw[sz]
 clear eg w3 z3 w2 z2 w1 z1 y1 sz
 have a4:p4.get? a=some oa:=k4 a oa nae naj xa
 refine wpAny_bind ?_
 unfold Builtin.SmallTypes.ownedTupleIsFree
 refine wpAny_bind (wpAny_field w4 rfl (x:=rawInt a) rfl ?_)
 show wpAny _ _ (loadIfAlive ((a:Int).toNat) >>= _) _ _ (Shared.mk p4 gn dw (tn+1) om)
 rw[xP]
 refine wpAny_bind (alive_at a4 ?_)
 simp only[Option.isNone_some,jI,if_false]
 refine wpAny_bind (wpAny_field w4 rfl (x:=.bool f) rfl ?_)
 have fin:∀ p5:Heap,Xw p5 e j ((i:Int)+1) kept a true→Heap.SameBut e p4 p5→Q (some (.ref p0.objs.size)) (Shared.mk p5 gn dw (tn+1) om):=fun p5 w5 z5=>
  q p5 w5 (y4.extBut z5.extBut nej.symm) (z5.extBut _ _ (ji el) t4) (by show p5.objs.size=p0.objs.size+1;rw[z5.1,n4]) fun b o be bj hb=>z5.extBut b o be (k4 b o be bj hb)
 cases f with
 | true=>
  rw[if_neg (show ¬ ((Value.bool true != Value.bool true)=true) from yJ)]
  refine wpAny_pure ?_
  simp only[jI,if_false]
  exact wpAny_pure ⟨_,rfl,wpAny_pure (fin p4 w4 (Heap.SameBut.refl _ _))⟩
 | false=>
  rw[if_pos (show (Value.bool false != Value.bool true)=true from rfl)]
  refine wpAny_bind (wpAny_setField_rec w4 (by simp) fun p5 w5 z5=>?_)
  replace z5:Heap.SameBut e p4 p5:=z5
  replace w5:Xw p5 e j ((i:Int)+1) kept a true:=w5
  refine wpAny_pure ?_
  simp only[jI,if_false]
  exact wpAny_pure ⟨_,rfl,wpAny_pure (fin p5 w5 z5)⟩
theorem enHeld_end{e j l a:Addr}{f:Bool}{i:Nat}{its:Array Value}{kept:Value}{Q:Option Value→Shared→Prop}(hh:A.handled=none)(xe:Xw s.heap e j i kept a f)(xj:s.heap.IsListIter j l i)(xl:s.heap.IsList l its)(xi:its[i]?=none)
  (q:∀ h',Heap.ExtBut j s.heap h'→Q none { s with heap:=h' }):wpAny (model prog w) A (pyNext (.ref e)) Q E s:=by
 have ty:s.TypeIs (.ref e) "enumerate" := ⟨_,xe,rfl⟩
 unfold pyNext
 refine wpAny_bind (wpAny_attempt (wpAny_callSpecial?_slot (name:=Str.ofString "__next__") ty slot_enumerate_next (wpAny_call_entry slot_enumerate_next ty entry_enumerate_next ?_ (args_enumerate_next_1 _))))
 show wpAny _ _ (field (.ref e) 2 >>= _) _ _ s
 refine wpAny_bind (wpAny_field xe rfl (x:=.ref j) rfl ?_)
 refine wpAny_bind (wpAny_nextOf_list_end hh xj xl xi fun p1 y z1 z2=>?_)
 obtain⟨o,ho,hc⟩:=z2
 exact wpAny_bind (wpAny_isInstance (T := "StopIteration") (b:=true) ⟨o,ho,hc⟩ isSubtype_stop (wpAny_pure (q _ z1)))
def qA(h:Heap)(e j S:Addr)(i:Nat):Prop:=(i=0∧∃ old,IsEnum h e j 0 old)∨∃ kept a f oa,Xw h e j i kept a f∧h.get? a=some oa∧a≠e∧a≠j∧a≠S
theorem qA.keep{h h':Heap}{e j S:Addr}{i:Nat}(x:qA h e j S i)(k:∀ b o,b≠S→h.get? b=some o→h'.get? b=some o)(n:e≠S):qA h' e j S i:=by
 rcases x with ⟨z,old,y⟩ | ⟨kept,a,f,oa,y,ya,n1,n2,n3⟩
 ·exact .inl ⟨z,old,k _ _ n y⟩
 ·exact .inr ⟨kept,a,f,oa,k _ _ n y,k _ _ n3 ya,n1,n2,n3⟩
structure JY(its:Array Value)(lo:Addr)(h:Heap)(as:List Addr):Prop where
 rise:as.Pairwise (· < ·)
 above:∀ a∈as,lo<a
 at_:∀(m:Nat)(a:Addr),as[m]?=some a→∃ t x,its[m]?=some x∧h.get? a=some { cls:=.type "tuple",data:=.seq #[.int m t,x] }
end
section
variable {prog:Program} {w:World} {A:Around} {s:Shared} {R:Result→Shared→Prop} {its:Array Value}
theorem enList_loop{S e j l:Addr}(hh:A.handled=none)(n1:e≠S)(n2:j≠S)(n3:e≠j)(n4:l≠S)(n5:l≠e)(n6:l≠j)(lo:Addr)(l1:e≤lo)(l2:j≤lo)(l3:S≤lo)(sz:its.size≤sizeLine)(res:Value){h0:Heap}
  (hR:∀ h' tk acc c as,(∀ b o,b≠S→b≠e→b≠j→h0.get? b=some o→h'.get? b=some o)→h'.get? S=some { cls:=.type "list",dict:=none,data:=.seq acc c,slots:=#[] }→as.length=its.size→JY its lo h' as→
   acc.toList=as.map Value.ref→R (.ok (.ret res)) { s with heap:=h',toks:=tk }) :
  ∀(k i:Nat)(h:Heap)(tk c:Nat)(acc:Array Value)(as:List Addr),its.size-i=k→i≤its.size→qA h e j S i→h.IsListIter j l i→h.IsList l its→(∀ b o,b≠S→b≠e→b≠j→h0.get? b=some o→h.get? b=some o)→
   h.get? S=some { cls:=.type "list",dict:=none,data:=.seq acc c,slots:=#[] }→acc.toList=as.map Value.ref→as.length=i→JY its lo h as→lo<h.objs.size→
   codeAny (model prog w) A (.builtin "list.extend.loop" ⟨[.ref S,.ref e,res],[]⟩) R { s with heap:=h,toks:=tk }:=by
 intro k
 induction k with
 | zero=>
  intro i h tk c acc as hk hi st sj sl keep hS ea el G gl
  have ie:i=its.size:=by lia
  refine codeAny_builtin entry_extend_loop ?_
  rw[Around.under_plainId plain_extend_loop _]
  show wpAny _ A.in1 (pyNext (.ref e) >>= _) _ _ _
  have fin:∀ h',Heap.ExtBut j h h'→R (.ok (.ret res)) { s with heap:=h',toks:=tk }:=fun h' z=>by
   refine hR h' tk acc c as (fun b o b1 b2 b3 x=>z b o b3 (keep b o b1 b2 b3 x)) (z S _ n2.symm hS) (by lia) ⟨G.rise,G.above,fun m a hm=>?_⟩ ea
   obtain⟨t,x,x1,x2⟩:=G.at_ m a hm
   exact⟨t,x,x1,z a _ (ji (yF l2 (G.above a (yO hm)))) x2⟩
  have none:its[i]?=none:=Array.getElem?_eq_none (by lia)
  rcases st with ⟨z,old,y⟩ | ⟨kept,a,f,oa,y,ya,_⟩
  ·subst z
   exact wpAny_bind (wpAny_pyNext_enum_end (s:={ s with heap:=h,toks:=tk }) (A:=A.in1) hh y sj sl none fun h' z=>wpAny_pure (fin h' z))
  ·exact wpAny_bind (enHeld_end (s:={ s with heap:=h,toks:=tk }) (A:=A.in1) hh y sj sl none fun h' z=>wpAny_pure (fin h' z))
 | succ k ih=>
  intro i h tk c acc as hk hi st sj sl keep hS ea el G gl
  have lt:i<its.size:=by lia
  have xi:its[i]?=some its[i]:=jF lt
  have sa:acc.size=i:=by rw[←GF,ea,yc,el]
  have eS:S<h.objs.size:=Heap.lt_size hS
  have le:e<h.objs.size:=yF l1 gl
  have lj:j<h.objs.size:=yF l2 gl
  refine codeAny_builtin entry_extend_loop ?_
  rw[Around.under_plainId plain_extend_loop _]
  show wpAny _ A.in1 (pyNext (.ref e) >>= _) _ _ _
  have go:∀ h',qA h' e j S (i+1)→h'.IsListIter j l (i+1)→h'.get? h.objs.size=some { cls:=.type "tuple",data:=.seq #[.int i tk,its[i]] }→(∀ b o,b≠e→b≠j→h.get? b=some o→h'.get? b=some o)→
    wpAny (model prog w) A.in1 (updateSeq S (·.push (Value.ref h.objs.size)) >>= fun _=>again (.builtin "list.extend.loop" ⟨[.ref S,.ref e,res],[]⟩))
     (fun fin s'=>match fin with | .done f=>R (.ok f) s' | .again c'=>c'.quiet=true∧codeAny (model prog w) A c' R s') (fun x s'=>R (.error x) s') { s with heap:=h',toks:=tk+1 }:=by
   intro h' st' sj' ht kp
   have hS':=kp S _ n1.symm n2.symm hS
   have up:∀ b o,b≠S→h'.get? b=some o→(h'.update S (Obj.mapSeq (·.push (Value.ref h.objs.size)))).get? b=some o:=fun b o nb x=>(Heap.get?_update_other _ _ nb.symm).trans x
   refine wpAny_bind ?_
   refine wpAny_updateSeq hS' rfl (wpAny_pure ⟨plainId_quiet plain_extend_loop _,ih (i+1) _ (tk+1) _ (acc.push (Value.ref h.objs.size)) (as++[h.objs.size]) (by lia) lt (st'.keep up n1) (sj'.at fun o x=>up j o n2 x) (sl.at fun o x=>up l o n4 (kp l o n5 n6 x))
    (fun b o b1 b2 b3 x=>up b o b1 (kp b o b2 b3 (keep b o b1 b2 b3 x))) (Heap.get?_update_self _ hS' rfl) (by rw[Array.toList_push,ea,jS];rfl) (by rw[yt,el];rfl) ⟨?_,?_,?_⟩ ?_⟩) (by rw[sa];lia) (by show (acc.push (Value.ref h.objs.size)).size≤sizeLine+1;rw[Array.size_push,sa];lia)
   ·refine List.pairwise_append.mpr ⟨G.rise,List.pairwise_singleton _ _,fun a ha b hb=>?_⟩
    rw[List.mem_singleton.mp hb]
    obtain⟨m,hm⟩:=List.mem_iff_getElem?.mp ha
    obtain⟨_,_,_,x⟩:=G.at_ m a hm
    exact Heap.lt_size x
   ·intro a ha
    rcases List.mem_append.mp ha with ha | ha
    ·exact G.above a ha
    ·rw[List.mem_singleton.mp ha];exact gl
   ·intro m b hm
    rcases jP m as.length with z | z | z
    ·rw[j8 z] at hm
     obtain⟨t,x,x1,x2⟩:=G.at_ m b hm
     have hb:=G.above b (yO hm)
     exact⟨t,x,x1,up b _ (ji (yF l3 hb)) (kp b _ (ji (yF l1 hb)) (ji (yF l2 hb)) x2)⟩
    ·subst z
     have hb:h.objs.size=b:=by simpa using hm
     subst hb
     exact⟨tk,its[i],by rw[el];exact xi,up _ _ (ji eS) (by rw[el];exact ht)⟩
    ·have no:(as++[h.objs.size])[m]?=none:=jH (by rw[yt,jG];lia)
     rw[no] at hm;cases hm
   ·have x:(h'.update S (Obj.mapSeq (·.push (Value.ref h.objs.size)))).get? h.objs.size=_:=up _ _ (ji eS) ht
    exact GK gl (Heap.lt_size x)
  rcases st with ⟨z,old,y⟩ | ⟨kept,a,f,oa,y,ya,m1,m2,m3⟩
  ·subst z
   refine wpAny_bind (wpAny_pyNext_enum_item (s:={ s with heap:=h,toks:=tk }) y sj sl xi n3 fun h' y1 y2 y3 y4 y5=>?_)
   exact go h' (.inr ⟨_,_,false,_,y1,y3,ji le,ji lj,ji eS⟩) y2 y3 y5
  ·refine wpAny_bind (enHeld_next (s:={ s with heap:=h,toks:=tk }) y ya m1 m2 sj sl xi n3 fun h' y1 y2 y3 y4 y5=>?_)
   exact go h' (.inr ⟨kept,a,true,oa,y1,y5 a oa m1 m2 ya,m1,m2,m3⟩) y2 y3 y5
end
theorem enum_no_len:typeLookup (.type "enumerate") "__len__" = pure none:=by rw[typeLookup_type,builtinLookup_eq_fast];kernel_rfl
theorem zV:typeLookup (.type "enumerate") "__length_hint__" = pure none:=by rw[typeLookup_type,builtinLookup_eq_fast];kernel_rfl
section
variable {prog:Program} {w:World} {A:Around} {E:Value→Shared→Prop} {s:Shared} {its:Array Value}
theorem qG{R:Result→Shared→Prop}{S e j l:Addr}{old:Value}(hh:A.handled=none)(xe:IsEnum s.heap e j 0 old)(xj:s.heap.IsListIter j l 0)(xl:s.heap.IsList l its)(n1:e≠S)(n2:j≠S)(n3:e≠j)(n4:l≠S)(n5:l≠e)(n6:l≠j)(lo:Addr)(l1:e≤lo)(l2:j≤lo)(l3:S≤lo)(l4:lo<s.heap.objs.size)
  (res:Value) (c0:Nat) (hS:s.heap.get? S=some { cls:=.type "list",data:=.seq #[] c0 }) (sz:its.size≤sizeLine)
  (hR:∀ h' tk acc c as,(∀ b o,b≠S→b≠e→b≠j→s.heap.get? b=some o→h'.get? b=some o)→h'.get? S=some { cls:=.type "list",dict:=none,data:=.seq acc c,slots:=#[] }→as.length=its.size→JY its lo h' as→
   acc.toList=as.map Value.ref→R (.ok (.ret res)) { s with heap:=h',toks:=tk }) :
  wpAny (model prog w) A.in1 (Builtin.List.listExtendWith (.ref S) (.ref e) res)
   (fun fin s'=>match fin with | .done f=>R (.ok f) s' | .again c'=>c'.quiet=true∧codeAny (model prog w) A c' R s') (fun x s'=>R (.error x) s') s:=by
 have ty:s.TypeIs (.ref e) "enumerate" := ⟨_,xe,rfl⟩
 have key:∀(h:Heap)(c₁ tk:Nat),(∀ b o,b≠S→s.heap.get? b=some o→h.get? b=some o)→h.get? S=some { cls:=.type "list",data:=.seq #[] c₁ }→lo<h.objs.size→codeAny (model prog w) A (.builtin "list.extend.loop" ⟨[.ref S,.ref e,res],[]⟩) R { s with heap:=h,toks:=tk }:=by
  intro h c₁ tk hk hS₁ hlo
  exact enList_loop (s:=s) (h0:=s.heap) hh n1 n2 n3 n4 n5 n6 lo l1 l2 l3 sz res hR its.size 0 h tk c₁ #[] [] (Uf _) (yM _) (.inl ⟨rfl,old,hk _ _ n1 xe⟩) (xj.at fun o x=>hk j o n2 x) (xl.at fun o x=>hk l o n4 x) (fun b o b1 _ _ x=>hk b o b1 x) hS₁ rfl rfl
   ⟨List.Pairwise.nil,(fun _ ha=>nomatch ha),(fun m a hm=>by simp at hm)⟩ hlo
 unfold Builtin.List.listExtendWith
 refine wpAny_bind (wpAny_typeOf ty ?_)
 have r1:Builtin.List.listSameRef (.ref S) (.ref e)=false:=by simp[Builtin.List.listSameRef,n1.symm]
 have r2:(Value.type "enumerate" == Value.type "list")=false:=by decide
 have r3:(Value.type "enumerate" == Value.type "tuple")=false:=by decide
 simp only[r1,r2,r3,Bool.or_false,jI,if_false]
 refine wpAny_bind (wpAny_pyIter_enum xe ?_)
 refine wpAny_bind (wpAny_holding ?_)
 unfold Builtin.List.listLengthHint
 refine wpAny_bind (wpAny_specialOf ty enum_no_len ?_)
 show wpAny _ A.in1 (specialOf (Value.ref e) (Str.ofString "__length_hint__") >>= _) _ _ _
 refine wpAny_bind (wpAny_specialOf ty zV ?_)
 refine wpAny_pure ?_
 show wpAny _ A.in1 (rule "list.extend.makes-room" >>= fun _=>Builtin.List.listTouch (.ref S) >>= fun _=>again (.builtin "list.extend.loop" ⟨[.ref S,.ref e,res],[]⟩)) _ _ _
 refine wpAny_bind (wpAny_rule ?_)
 refine wpAny_bind ?_
 show wpAny _ A.in1 (updateSeq S (·.push .none) >>= fun _=>updateSeq S (·.pop)) _ _ s
 refine wpAny_bind (wpAny_updateSeq hS rfl ?_)
 have g2:=Heap.get?_update_self (Obj.mapSeq (·.push Value.none)) hS rfl
 refine wpAny_updateSeq (hz:=by seq_fits) g2 rfl ?_
 have g3:=Heap.get?_update_self (Obj.mapSeq (·.pop)) g2 rfl
 refine wpAny_pure ⟨plainId_quiet plain_extend_loop _,key _ _ _ (fun b o nb x=>?_) g3 ?_⟩
 ·exact (Heap.get?_update_other _ _ nb.symm).trans ((Heap.get?_update_other _ _ nb.symm).trans x)
 ·obtain⟨oe,hoe⟩:∃ o,s.heap.get? e=some o:=⟨_,xe⟩
  simpa [Heap.size_update] using l4
theorem enList_call{e j l:Addr}{old:Value}{Q:Value→Shared→Prop}(hh:A.handled=none)(xe:IsEnum s.heap e j 0 old)(xj:s.heap.IsListIter j l 0)(xl:s.heap.IsList l its)(n3:e≠j)(n5:l≠e)(n6:l≠j)(sz:its.size≤sizeLine)
  (hQ:∀ h' tk acc c as,(∀ b o,b≠e→b≠j→s.heap.get? b=some o→h'.get? b=some o)→h'.get? s.heap.objs.size=some { cls:=.type "list",dict:=none,data:=.seq acc c,slots:=#[] }→as.length=its.size→JY its s.heap.objs.size h' as→
   acc.toList=as.map Value.ref→Q (.ref s.heap.objs.size) { s with heap:=h',toks:=tk }) :
  wpAny (model prog w) A (call (.type "list") [.ref e]) Q E s:=by
 have le:e<s.heap.objs.size:=Heap.lt_size xe
 have lj:j<s.heap.objs.size:=by obtain⟨_,x,_⟩:=xj;exact Heap.lt_size x
 have ll:l<s.heap.objs.size:=by obtain⟨_,x,_⟩:=xl;exact Heap.lt_size x
 refine callType_codes (Q₁:=fun z s₁=>z=.ref s.heap.objs.size∧s₁={ s with heap:=s.heap.push { cls:=.type "list",data:=.seq #[] } }) called_list (typeCall_list_1 _) entry_list_init (code_list_new _ ⟨rfl,rfl⟩) fun z s₁ h₁=>?_
 obtain⟨rfl,rfl⟩:=h₁
 generalize eS:s.heap.objs.size=S at *
 have g1:(s.heap.push { cls:=.type "list",data:=.seq #[] }).get? S=some { cls:=.type "list",data:=.seq #[] }:=by rw[←eS];exact Heap.get?_push_size _ rfl
 have up:∀ b o,s.heap.get? b=some o→(s.heap.push { cls:=.type "list",data:=.seq #[] }).get? b=some o:=fun b o x=>Heap.get?_push_of_some _ x
 have zs:(s.heap.push { cls:=.type "list",data:=.seq #[] }).objs.size=S+1:=by rw[Heap.size_push,eS]
 generalize s.heap.push { cls:=.type "list",data:=.seq #[] }=hp at *
 refine⟨⟨_,g1,rfl⟩,args_list_init_2 _ _,?_⟩
 show wpAny _ A.in1.in1 (do let was ← Builtin.List.listItems (.ref S);Builtin.List.listUpdate (.ref S) (fun _=>#[]);letGo was.toList.reverse;Builtin.List.listExtendWith (.ref S) (.ref e) .none) _ _ _
 refine wpAny_bind ?_
 unfold Builtin.List.listItems
 refine wpAny_bind (wpAny_seqItems g1 rfl (wpAny_pure ?_))
 show wpAny _ A.in1.in1 (updateSeq S (fun _=>#[]) >>= fun _=>letGo (#[]:Array Value).toList.reverse >>= fun _=>Builtin.List.listExtendWith (.ref S) (.ref e) .none) _ _ _
 refine wpAny_bind (wpAny_updateSeq g1 rfl ?_)
 have g2:=Heap.get?_update_self (Obj.mapSeq (fun _=>(#[]:Array Value))) g1 rfl
 have k2:∀ b o,b≠S→hp.get? b=some o→(hp.update S (Obj.mapSeq (fun _=>(#[]:Array Value)))).get? b=some o:=fun b o nb x=>(Heap.get?_update_other _ _ nb.symm).trans x
 refine wpAny_bind (wpAny_letGo ?_)
 refine qG (A:=A.in1) hh (k2 _ _ (yr le) (up _ _ xe)) (xj.at fun o x=>k2 _ _ (yr lj) (up _ _ x)) (xl.at fun o x=>k2 _ _ (yr ll) (up _ _ x)) (yr le) (yr lj) n3 (yr ll) n5 n6 S (Gk le) (Gk lj) (yl _) ?_ .none _ g2 sz ?_
 ·simp[Heap.size_update,zs]
 ·intro h' tk acc c as kp hS' hl G ha
  exact⟨rfl,hQ h' tk acc c as (fun b o b1 b2 x=>kp b o (yr (eS▸Heap.lt_size x)) b1 b2 (k2 _ _ (yr (eS▸Heap.lt_size x)) (up _ _ x))) hS' hl G ha⟩
end
end PySem
set_option Elab.async false
set_option linter.all false
set_option maxRecDepth 100000
namespace L2
open PySem PySem.Spec PyProof.Rows
theorem Inv.grow{X:Cx} {pins:List (Addr×Obj)} {σ:St} {H H':Hp} {s:Shared} {h':Heap} {t':Nat} (I:Inv X pins σ H s) (k:∀ b u,s.heap.get? b=some u→h'.get? b=some u) (same:∀ b,b<s.heap.objs.size→H' b=H b)
  (new:∀ b o,s.heap.objs.size≤b→H' b=some o→Q3 X.prog X.w H' h' b o):Inv X pins σ H' { s with heap:=h',toks:=t' }:=by
 have fr:∀ b,s.heap.objs.size≤b→H b=none:=fun b hb=>I.hok.fresh hb
 have old:∀ b o,H b=some o→H' b=some o:=fun b o e=>by
  rcases xH b s.heap.objs.size with z | z
  ·rw[same b z];exact e
  ·rw[fr b z] at e;cases e
 refine I.un ⟨fun b u q _ _ _=>k b u q,fun b u q _ _ _=>⟨u.slots,k b u q⟩,fun b u q n _=>?_,fun b u q _=>⟨u,k b u q⟩,fun b xs q=>old b _ q,fun b u xs q=>old b _ q,fun b ps q=>⟨#[],by rw[old b _ q];simp⟩⟩ fun b o e=>?_
 ·rw[same b (Heap.lt_size q)];exact n
 ·rcases xH b s.heap.objs.size with z | z
  ·rw[same b z] at e
   exact (I.hok b o e).stay (fun c v _ q=>k c v q) (fun c q=>old c _ q) fun c xs q=>old c _ q
  ·exact new b o z e
def qD(H:Hp)(l:Addr)(as:List Addr)(xs:List V):Hp:=fun b=>if b=l then some (.lst (as.map V.ref)) else if b∈as then some (.tup [.int ((as.idxOf b:Nat):Int),(xs[as.idxOf b]?).getD .non]) else H b
def tLE(K:z8)(ta:TA):TE:=fun σ H Q=>ta σ H fun vs H1=>∃(a:Addr)(xs:List V),vs=[.ref a]∧SqL K H1 a xs∧∀(l:Addr)(as:List Addr)(H2:Hp),Qp H1 H2→H1 l=none→H2 l=some (.lst (as.map V.ref))→as.length=xs.length→
 (∀(i:Nat)(c:Addr)(x:V),as[i]?=some c→xs[i]?=some x→H2 c=some (.tup [.int (i:Int),x]))→Q (.ref l) H2
theorem Jk:∀ as:List Addr,QF (as.map V.ref) (as.map Value.ref)
 | []=>.nil
 | a::as=>.cons rfl (Jk as)
theorem idx_at{as:List Addr}(nd:as.Nodup){i:Nat}{a:Addr}(h:as[i]?=some a):as.idxOf a=i:=by
 obtain⟨hi,e⟩:=List.getElem?_eq_some_iff.1 h
 rw[←e]
 exact nd.idxOf_getElem i hi
theorem boot_list2:bootBuiltins "list" = some (.type "list"):=by decide +kernel
theorem pe_listEnum{X:Cx}{e:Expr}{ta:TA}{p p' pos pos':Pos}(hc:X.calm=true)(hgl:Gl X "list")(hml:X.mg "list" = none)(hge:Gl X "enumerate")(hme:X.mg "enumerate" = none)(ha:PA X [e] ta) (hs:starEach [e] X.env=[(false,eval e X.env)]:=by rfl)
  (hs2:starEach [.Call (.Name "enumerate" p') [e] [] pos'] X.env=[(false,eval (.Call (.Name "enumerate" p') [e] [] pos') X.env)]:=by rfl):PE X (.Call (.Name "list" p) [.Call (.Name "enumerate" p') [e] [] pos'] [] pos) (tLE X.K ta):=by
 intro pins s σ H Q I h
 refine wpAny_Call_Name_kw (Xv I hgl hml boot_list2 ?_)
 refine callWith_type1 ?_ (by exact hs2) rfl
 rw[hs2]
 refine Calls.spliced_cons ?_
 refine Call_ (Xv I hge hme boot_enumerate (callWith_type1 (thn (ha pos' pins s σ H _ I h) fun us s1 ⟨vs,H1,I1,r1,q1⟩=>?_) hs rfl))
 obtain⟨a,xs,ex,hq,q⟩:=q1
 subst ex
 cases r1 with
 | cons r rr=>
  cases rr
  cases r
  obtain⟨its,rv,pl,hz⟩:=I1.list hq
  have la:a<s1.heap.objs.size:=pl.lt
  have hl:=rv.length
  refine call_enumerate_list pl.isList fun h' he hit hsz hk=>?_
  refine Calls.spliced_nil ?_
  refine enList_call (s:={ s1 with heap:=h' }) (I.ok.hd hc) he hit (pl.isList.at fun o x=>hk _ _ x) (G9 _) (yr (xm la)) (yr la) (by simp only[yn];lia) fun h2 tk acc c as kp hS hlen G hacc=>?_
  dsimp only at kp hS hlen G hacc ⊢
  have nd:as.Nodup:=G.rise.imp fun z=>yr z
  have lS:s1.heap.objs.size<h'.objs.size:=by rw[hsz];lia
  have hi:∀ a∈as,s1.heap.objs.size<a:=fun a m=>GK lS (G.above a m)
  have nS:h'.objs.size∉as:=fun m=>jx _ (G.above _ m)
  have nl:as.length=xs.length:=by rw[hlen,yn,hl]
  have at_:∀(i:Nat)(c:Addr)(x:V),as[i]?=some c→xs[i]?=some x→qD H1 h'.objs.size as xs c=some (.tup [.int (i:Int),x]):=fun i c x hc hx=>by
   have m:c∈as:=yO hc
   unfold qD
   rw[if_neg (fun z:c=h'.objs.size=>nS (z▸m)),if_pos m,idx_at nd hc,hx]
   rfl
  refine⟨.ref _,qD H1 h'.objs.size as xs,?_,rfl,q h'.objs.size as _ ?_ (I1.hok.fresh (Gk lS)) ?_ nl at_⟩
  ·have G2:=I1.grow (H':=qD H1 h'.objs.size as xs) (h':=h2) (t':=tk) (fun b u e=>?_) (fun b hb=>?_) (fun b o hb e=>?_)
   ·exact G2
   ·have:=Heap.lt_size e
    exact kp b u (yr (xm this)) (yr this) (hk _ _ e)
   ·unfold qD
    rw[if_neg (yr (GK hb lS)),if_neg (fun m=>Nat.lt_asymm hb (hi b m))]
   ·by_cases z:b=h'.objs.size
    ·subst z
     have e2:qD H1 h'.objs.size as xs h'.objs.size=some (.lst (as.map V.ref)):=by unfold qD;rw[if_pos rfl]
     rw[e2] at e
     cases e
     refine⟨by rw[yc];lia,as.map Value.ref,c,Jk as,?_⟩
     rw[hS,←hacc]
    ·by_cases m:b∈as
     ·obtain⟨i,hi2⟩:=List.mem_iff_getElem?.mp m
      obtain⟨t,v,hv,hg⟩:=G.at_ i b hi2
      have li:i<xs.length:=by rw[←nl];exact (List.getElem?_eq_some_iff.1 hi2).1
      have ex:xs[i]?=some xs[i]:=yd li
      rw[at_ i b _ hi2 ex] at e
      cases e
      obtain⟨u,hu,ru⟩:=rv.get ex
      have:v=u:=by
       have:its.toArray[i]?=its[i]?:=by simp
       rw[this,hu] at hv
       exact (Option.some.inj hv).symm
      subst this
      exact⟨by show 2≤sizeLine;decide,[.int i t,v],.cons ⟨t,rfl⟩ (.cons ru .nil),⟨_,hg,rfl,_,rfl⟩⟩
     ·unfold qD at e
      rw[if_neg z,if_neg m,I1.hok.fresh hb] at e
      cases e
  ·intro b o e
   have lb:b<s1.heap.objs.size:=by
    rcases xH b s1.heap.objs.size with z | z
    ·exact z
    ·rw[I1.hok.fresh z] at e;cases e
   unfold qD
   rw[if_neg (yr (GK lb lS)),if_neg (fun m=>Nat.lt_asymm lb (hi b m))]
   exact e
  ·unfold qD;rw[if_pos rfl]
end L2
set_option Elab.async false
set_option linter.all false
set_option maxRecDepth 100000
namespace Gp
open PySem PySem.Spec PyProof.Rows L2
open Gla (Pt Plan)
def JJ(S:Plan)(on:Pt→Bool)(n:Nat):List Nat:=(yj n).filter fun i=>on (S.pt i)
theorem edge_all(S:Plan)(on:Pt→Bool):JJ S on S.pts.length=yK S on:=rfl
theorem zi(S:Plan)(on:Pt→Bool)(n:Nat):JJ S on (n+1)=JJ S on n++(if on (S.pt n)=true then [n] else []):=by
 unfold JJ
 rw[xf,List.filter_append]
 by_cases h:on (S.pt n)=true
 ·simp[h]
 ·simp[h]
theorem edge_len(S:Plan)(on:Pt→Bool)(n:Nat):(JJ S on n).length≤n:=by
 have:=List.length_filter_le (fun i=>on (S.pt i)) (yj n)
 rw[yZ] at this
 exact this
structure Plc(H:Hp)(q:Addr)(as ap:List Addr):Prop where
 lst:H q=some (.lst (as.map V.ref))
 len:as.length=ap.length
 at_:∀(i:Nat)(c a:Addr),as[i]?=some c→ap[i]?=some a→H c=some (.tup [.int (i:Int),.ref a])
theorem Plc.same{H H':Hp}{q:Addr}{as ap:List Addr}(h:Plc H q as ap)(e:Qp H H'):Plc H' q as ap:=⟨e _ _ h.lst,h.len,fun i c a h1 h2=>e _ _ (h.at_ i c a h1 h2)⟩
theorem JT{K:z8}{C d q D dx lp ll lm:Addr}{S:Plan}{as ap al am:List Addr}{H:Hp}{on:Pt→Bool}{tt:TT}{Qd:Hp→Prop}(Dr:Dw K C H d S dx lp ll lm ap al am)(Pq:Plc H q as ap)(sz:S.pts.length≤65536)(hD:H D=none)
  (hT:∀(i:Nat)(a:Addr)(H':Hp)(Q:Bool→Hp→Prop),Dw K C H' d S dx lp ll lm ap al am→ap[i]?=some a→Q (on (S.pt i)) H'→tt [some (.ref d),some (.ref q),some (.int (i:Int)),some (.ref a)] H' Q)
  (hQ:∀ H',Qp H H'→H' D=some (.lst (ni (yK S on)))→Qd H') :
  ∃ W:Nat→Nat→Hp→Prop,(∃ m,W 0 m (upd H D (.lst [])))∧∀ i m H,W i m H→
   ((Itl K q).stop i H∧Qd H)∨((Itl K q).go i H∧∃ Nx:Hp→Prop,(∀ H',Nx H'→∃ m',m'<m∧W (i+1) m' H')∧∀ x H',(Itl K q).yld i H x H'→zR K 2 (ZT (Zp 2) (ZT (Zp 3) zS)) x (ZJ [some (.ref d),some (.ref q),none,none] [2,3]) H' fun σ2 H2=>ZJ σ2 [2,3]=ZJ [some (.ref d),some (.ref q),none,none] [2,3]∧tt σ2 H2 fun b H3=>
    if b=true then Zt 2 σ2 H3 fun y H4=>∃ acc,H4 D=some (.lst acc)∧acc.length<sizeLine∧Nx (upd H4 D (.lst (acc++[y]))) else Nx H3):=by
 have la:ap.length=S.pts.length:=by have:=Dr.pts.len;rw[yc] at this;exact this
 refine zK (K:=K) (a:=q) (xs:=as.map V.ref) (fun i H'=>Qp H H'∧H' D=some (.lst (ni (JJ S on i)))) ⟨Ql _ hD,Qh⟩ (fun i H' _ ⟨s1,_⟩=>SqL.of (s1 _ _ Pq.lst)) ?_ ?_
 ·rintro i x H1 hx ⟨s1,h1⟩
  obtain⟨c,hc,rfl⟩:=Zn hx
  have hi:i<ap.length:=by rw[←Pq.len];exact (List.getElem?_eq_some_iff.1 hc).1
  have ha:ap[i]?=some ap[i]:=yd hi
  have hcc:=s1 _ _ (Pq.at_ i c _ hc ha)
  refine⟨c,_,rfl,SqT.of hcc,rfl,_,_,rfl,_,_,rfl,rfl,rfl,?_⟩
  refine hT i ap[i] H1 _ (Dr.same s1) ha ?_
  by_cases ho:on (S.pt i)=true
  ·rw[if_pos ho]
   refine⟨_,rfl,_,h1,?_,?_,?_⟩
   ·rw[show (ni (JJ S on i)).length=(JJ S on i).length by simp[ni]]
    exact yF (yE (edge_len S on i) (show i≤65536 by lia)) (by decide)
   ·intro b o e
    rw[Qq (Qn e hD)]
    exact s1 _ _ e
   ·rw[Qh,zi,if_pos ho]
    simp[ni]
  ·rw[if_neg ho]
   refine⟨s1,?_⟩
   rw[h1,zi,if_neg ho,xM]
 ·rintro H1 ⟨s1,h1⟩
  refine hQ H1 s1 ?_
  rw[h1,yc,Pq.len,la,edge_all]
def Jz(S:Plan):List (List Nat):=[yK S fun p=>p.y==0,yK S fun p=>p.y==S.h,yK S fun p=>p.x==0,yK S fun p=>p.x==S.w]
abbrev sER:Stmt:=top 25
def spER(K:z8)(C:Addr):Sp:=fun vs H Q _=>∃(d:Addr)(S:Plan)(dx lp ll lm:Addr)(ap al am:List Addr),vs=[.ref d]∧Dw K C H d S dx lp ll lm ap al am∧XV S∧
 ∀(H':Hp)(r:Addr)(rs:List Addr),Qp H H'→H' r=some (.lst (rs.map V.ref))→rs.length=4→(∀(i:Nat)(a:Addr)(l:List Nat),rs[i]?=some a→(Jz S)[i]?=some l→H' a=some (.lst (ni l)))→Q (.ref r) H'
theorem Y1:Qm ["drawing","places","number","point"] ["drawing"] (defScope sER):=⟨rfl,rfl,rfl,by decide +kernel,rfl,by decide +kernel,by decide +kernel⟩
theorem pt_getD{S:Plan}{i:Nat}(h:i<S.pts.length):S.pt i=S.pts[i]:=by
 unfold Plan.pt
 simp[List.getD,h]
theorem JV(a b:Nat):decide (V.int (a:Int)=V.int (b:Int))=(a==b):=by
 rw[yw]
 simp
 lia
section
variable {P:Program} {w:World} {K:z8} {mg:Str→Option Value} {base:Heap} {C:Addr}
theorem Dw.ptP{H:Hp}{d:Addr}{S:Plan}{dx lp ll lm:Addr}{ap al am:List Addr}(D:Dw K C H d S dx lp ll lm ap al am){i:Nat}{a:Addr}(h:ap[i]?=some a):H a=some (.tup [.int ((S.pt i).x:Int),.int ((S.pt i).y:Int)]):=by
 have la:ap.length=S.pts.length:=by have:=D.pts.len;rw[yc] at this;exact this
 have hi:i<S.pts.length:=by rw[←la];exact (List.getElem?_eq_some_iff.1 h).1
 have:=D.pts.at_ i a (xy S.pts[i]) h (by rw[yi,yd hi];rfl)
 rw[pt_getD hi]
 exact this
theorem ok_er{f:Addr}{fd:FuncData}(F:Fun K "edge_rows" "edge_rows" sER f fd)(T:ZP K mg C)(U:Txt K mg):QI P w K mg base CX0 4 f fd ["drawing"] (spER K C):=by
 refine F.ok Y1 (fun vs H Q E h=>?_) (fun cdv A outer s H vs Q E hr h=>?_)
 ·obtain⟨d,S,dx,lp,ll,lm,ap,al,am,rfl,_⟩:=h
  rfl
 ·obtain⟨d,S,dx,lp,ll,lm,ap,al,am,rfl,D,sz,k⟩:=h
  refine⟨_,Qb (Qs (i:=1) Y1.nd rfl (Or.inl rfl) (pe_listEnum rfl rfl U.lst rfl U.enum (Qa (QB (pv 0) rfl) Qc)))
   (Qe (Qi (ZD
    (Qa (pe_lc (own:=[("number",2),("point",3)]) (g:=zR K 2 (ZT (Zp 2) (ZT (Zp 3) zS))) (tt:=tTest (tOp rEq (tOp (rIxT K) (Zt 3) (tC (.int 1))) (tC (.int 0)))) (te:=Zt 2) rfl Y1.nd (Q6 (pv 1)) (Xf (N:=["drawing","places","number","point"]) (sc:=defScope sER) (by decide +kernel))
     (fun _ _ _ _ _=>by exact ZM (n:=2) rfl (QK (Qv (i:=2) Y1.nd rfl (Or.inl rfl)) (QK (Qv (i:=3) Y1.nd rfl (Or.inl rfl)) Zj))) (fun _ _ _ _ _=>by exact JQ (Qu YA (Qx QM (pv 3) Qg (fun _ _=>rfl)) Qg (Qo _))) (fun _ _ _ _ _=>by exact pv 2))
    (Qa (pe_lc (own:=[("number",2),("point",3)]) (g:=zR K 2 (ZT (Zp 2) (ZT (Zp 3) zS))) (tt:=tTest (tOp rEq (tOp (rIxT K) (Zt 3) (tC (.int 1))) (tFld K (Zt 0) "height"))) (te:=Zt 2) rfl Y1.nd (Q6 (pv 1)) (Xf (N:=["drawing","places","number","point"]) (sc:=defScope sER) (by decide +kernel))
     (fun _ _ _ _ _=>by exact ZM (n:=2) rfl (QK (Qv (i:=2) Y1.nd rfl (Or.inl rfl)) (QK (Qv (i:=3) Y1.nd rfl (Or.inl rfl)) Zj))) (fun _ _ _ _ _=>by exact JQ (Qu YA (Qx QM (pv 3) Qg (fun _ _=>rfl)) (QB (pv 0) rfl) (Qo _))) (fun _ _ _ _ _=>by exact pv 2))
    (Qa (pe_lc (own:=[("number",2),("point",3)]) (g:=zR K 2 (ZT (Zp 2) (ZT (Zp 3) zS))) (tt:=tTest (tOp rEq (tOp (rIxT K) (Zt 3) (tC (.int 0))) (tC (.int 0)))) (te:=Zt 2) rfl Y1.nd (Q6 (pv 1)) (Xf (N:=["drawing","places","number","point"]) (sc:=defScope sER) (by decide +kernel))
     (fun _ _ _ _ _=>by exact ZM (n:=2) rfl (QK (Qv (i:=2) Y1.nd rfl (Or.inl rfl)) (QK (Qv (i:=3) Y1.nd rfl (Or.inl rfl)) Zj))) (fun _ _ _ _ _=>by exact JQ (Qu YA (Qx QM (pv 3) Qg (fun _ _=>rfl)) Qg (Qo _))) (fun _ _ _ _ _=>by exact pv 2))
    (Qa (pe_lc (own:=[("number",2),("point",3)]) (g:=zR K 2 (ZT (Zp 2) (ZT (Zp 3) zS))) (tt:=tTest (tOp rEq (tOp (rIxT K) (Zt 3) (tC (.int 0))) (tFld K (Zt 0) "width"))) (te:=Zt 2) rfl Y1.nd (Q6 (pv 1)) (Xf (N:=["drawing","places","number","point"]) (sc:=defScope sER) (by decide +kernel))
     (fun _ _ _ _ _=>by exact ZM (n:=2) rfl (QK (Qv (i:=2) Y1.nd rfl (Or.inl rfl)) (QK (Qv (i:=3) Y1.nd rfl (Or.inl rfl)) Zj))) (fun _ _ _ _ _=>by exact JQ (Qu YA (Qx QM (pv 3) Qg (fun _ _=>rfl)) (QB (pv 0) rfl) (Qo _))) (fun _ _ _ _ _=>by exact pv 2))
    Qc))))))),?_⟩
  refine⟨_,rfl,d,C,dx,_,_,rfl,D.ins,T.cl,T.nP,Xc _ _ _ _ _,lp,_,rfl,D.pts.lst,fun q as H1 s1 _ hq hlen hat=>?_⟩
  have Pq:Plc H1 q as ap:=⟨hq,by rw[hlen,yc],fun i c a h1 h2=>hat i c (.ref a) h1 (by rw[yi,h2];rfl)⟩
  have D1:=D.same s1
  refine⟨_,rfl,q,rfl,⟨_,SqL.of Pq.lst⟩,fun r1 hr1=>JT (on:=fun p=>p.y==0) D1 Pq sz.1 hr1 (fun i a H' Q' Dx ha hq'=>?_) fun H2 s2' g1=>?_⟩
  ·refine⟨_,rfl,a,_,_,_,rfl,rfl,SqT.of (Dx.ptP ha),Qj (j:=1) rfl,rfl,_,rfl,?_⟩
   have e:=JV (S.pt i).y 0
   rw[←e] at hq'
   exact hq'
  have s2:=s1.trans s2'
  have Pq2:=Pq.same s2'
  refine⟨_,rfl,q,rfl,⟨_,SqL.of Pq2.lst⟩,fun r2 hr2=>JT (on:=fun p=>p.y==S.h) (D.same s2) Pq2 sz.1 hr2 (fun i a H' Q' Dx ha hq'=>?_) fun H3 s3' g2=>?_⟩
  ·refine⟨_,rfl,a,_,_,_,rfl,rfl,SqT.of (Dx.ptP ha),Qj (j:=1) rfl,_,rfl,d,C,dx,_,_,rfl,Dx.ins,T.cl,T.nH,df_h _ _ _ _ _,rfl,_,rfl,?_⟩
   rw[←JV] at hq'
   exact hq'
  have s3:=s2.trans s3'
  have Pq3:=Pq2.same s3'
  refine⟨_,rfl,q,rfl,⟨_,SqL.of Pq3.lst⟩,fun r3 hr3=>JT (on:=fun p=>p.x==0) (D.same s3) Pq3 sz.1 hr3 (fun i a H' Q' Dx ha hq'=>?_) fun H4 s4' g3=>?_⟩
  ·refine⟨_,rfl,a,_,_,_,rfl,rfl,SqT.of (Dx.ptP ha),Qj (j:=0) rfl,rfl,_,rfl,?_⟩
   have e:=JV (S.pt i).x 0
   rw[←e] at hq'
   exact hq'
  have s4:=s3.trans s4'
  have Pq4:=Pq3.same s4'
  refine⟨_,rfl,q,rfl,⟨_,SqL.of Pq4.lst⟩,fun r4 hr4=>JT (on:=fun p=>p.x==S.w) (D.same s4) Pq4 sz.1 hr4 (fun i a H' Q' Dx ha hq'=>?_) fun H5 s5' g4=>?_⟩
  ·refine⟨_,rfl,a,_,_,_,rfl,rfl,SqT.of (Dx.ptP ha),Qj (j:=0) rfl,_,rfl,d,C,dx,_,_,rfl,Dx.ins,T.cl,T.nW,df_w _ _ _ _ _,rfl,_,rfl,?_⟩
   rw[←JV] at hq'
   exact hq'
  have s5:=s4.trans s5'
  refine⟨(by show 4≤sizeLine;decide),fun r hr5=>?_⟩
  have s6':=Ql (.lst [V.ref r1,.ref r2,.ref r3,.ref r4]) hr5
  refine k _ r [r1,r2,r3,r4] (s5.trans s6') Qh rfl fun i a l ha hl=>?_
  match i,ha,hl with
  | 0,ha,hl=>
   cases ha;cases hl
   exact s6' _ _ (s5' _ _ (s4' _ _ (s3' _ _ g1)))
  | 1,ha,hl=>
   cases ha;cases hl
   exact s6' _ _ (s5' _ _ (s4' _ _ g2))
  | 2,ha,hl=>
   cases ha;cases hl
   exact s6' _ _ (s5' _ _ g3)
  | 3,ha,hl=>
   cases ha;cases hl
   exact s6' _ _ g4
  | n+4,ha,hl=>simp at ha
end
end Gp
set_option Elab.async false
set_option linter.all false
set_option maxRecDepth 100000
namespace Gp
open PySem PySem.Spec PyProof.Rows L2
open Gla (Pt Plan)
theorem cut_from(xs:List V)(p:Nat):Z0 xs (some (p:Int)) none=xs.drop p:=by
 unfold Z0
 simp only[HT.sIx_nat,show HT.sIx xs.length xs.length none=xs.length from rfl]
 by_cases h:p≤xs.length
 ·rw[x9 h]
  rw[List.take_of_length_le (GJ yG)]
 ·rw[jz (i:=min p xs.length) (by lia),jz (i:=p) (by lia)]
  simp
theorem cor_mem(S:Plan)(x y:Nat):Y5 S (x,y)=!S.pts.contains ⟨x,y⟩:=by
 unfold Y5
 congr 1
 rw[Gh,yw,xz,j6]
 constructor
 ·rintro⟨p,hp,e⟩
  have e:xy p=(x,y):=of_decide_eq_true e
  have:p=⟨x,y⟩:=by
   cases p
   simp only[xy,Prod.mk.injEq] at e
   rw[e.1,e.2]
  rw[←this];exact hp
 ·intro h
  exact⟨⟨x,y⟩,h,decide_eq_true rfl⟩
def Yl(S:Plan)(l:List Nat):Bool:=(l.zip (l.drop 1)).all fun x=>decide (x∈S.lines)
theorem QY(S:Plan)(on:Pt→Bool):(yK S on).Pairwise (· < ·):=List.Pairwise.filter _ List.pairwise_lt_range
theorem zip_lt{l:List Nat} (h:l.Pairwise (· < ·)):∀ x∈l.zip (l.drop 1),x.1<x.2:=by
 intro x hx
 obtain⟨i,hi,e⟩:=List.mem_iff_getElem.1 hx
 rw[List.getElem_zip] at e
 subst e
 simp only[GT]
 rw[List.length_zip,yG] at hi
 exact List.pairwise_iff_getElem.1 h _ _ (by lia) (by lia) (by lia)
theorem chain_eq(S:Plan){l:List Nat} (h:l.Pairwise (· < ·)):yX S l=Yl S l:=by
 unfold yX Yl
 have z:=zip_lt h
 generalize l.zip (l.drop 1)=m at z
 induction m with
 | nil=>rfl
 | cons x m ih=>
  rw[jV,jV,ih fun y hy=>z y (ym _ hy)]
  congr 1
  have:=z x (yI ..)
  unfold Plan.joined
  rw[x9 (by lia),Nat.max_eq_right (by lia),yw,j6,decide_eq_true_eq]
theorem qk(S:Plan):jE S=(!(Z2 S).any (Y5 S)&&(Jz S).all (Yl S)):=by
 unfold jE Z2 Jz
 simp only[xr,List.any_nil,jV,List.all_nil,cor_mem,←chain_eq S (QY S _),Bool.or_false,G1,Bool.not_or,Uh]
 cases S.pts.contains ⟨0,0⟩ <;> cases S.pts.contains ⟨S.w,0⟩ <;> cases S.pts.contains ⟨0,S.h⟩ <;> cases S.pts.contains ⟨S.w,S.h⟩ <;> simp
abbrev sOF:Stmt:=top 26
theorem scOF:Qm ["drawing","joined","line","row","one","other"] ["drawing"] (defScope sOF):=⟨rfl,rfl,rfl,by decide +kernel,rfl,by decide +kernel,by decide +kernel⟩
section
variable {P:Program} {w:World} {K:z8} {mg:Str→Option Value} {base:Heap} {C:Addr}
theorem ok_of{f:Addr}{fd:FuncData}(F:Fun K "open_frame" "open_frame" sOF f fd)(T:ZP K mg C)(U:Txt K mg) (Lc:Has P w K mg base 4 "lacks_corner" ["drawing"] (spLC K C)) (Er:Has P w K mg base 4 "edge_rows" ["drawing"] (spER K C)) :
  QI P w K mg base CX0 5 f fd ["drawing"] (Zv K C (fun S=>OkH S∧Ok5 S∧S.lines.Nodup) X9):=by
 refine F.ok scOF (fun vs H Q E h=>?_) (fun cdv A outer s H vs Q E hr h=>?_)
 ·obtain⟨d,S,dx,lp,ll,lm,ap,al,am,rfl,_⟩:=h
  rfl
 ·obtain⟨d,S,dx,lp,ll,lm,ap,al,am,rfl,D,⟨OH,O5,nd⟩,k⟩:=h
  have hu:=hu_of hr
  refine⟨_,Qb (QH (Zf (Qt Lc hr (Qa (pv 0) Qc))) (Qe (Qi (QS T.g20))) Qr)
   (Qb (Qs (i:=1) scOF.nd rfl (Or.inl rfl) pe_dnewT)
   (Qb (QQ PassesOwn.never rfl (Q6 (QB (pv 0) rfl)) (Qv (i:=2) scOF.nd rfl (Or.inl rfl)) (Qe (zG hu (pv 1) (pv 2) Xl rfl)))
   (Qb (QQ PassesOwn.never rfl (Q6 (Qt Er hr (Qa (pv 0) Qc))) (Qv (i:=3) scOF.nd rfl (Or.inl rfl))
    (Qe (QQ PassesOwn.never rfl (pi_zip rfl U.zip (Qa (pv 3) (Qa (Zo ZQ (pv 3) (Zc Qg) Yo) Qc))) (ZM (n:=2) rfl (QK (Qv (i:=4) scOF.nd rfl (Or.inl rfl)) (QK (Qv (i:=5) scOF.nd rfl (Or.inl rfl)) Zj)))
     (Qe (QH (Zg (Jn hu (Q4 (Qa (pv 4) (Qa (pv 5) Qc))) (pv 1))) (Qe (Qi (QS T.g20))) Qr)))))
   (Qe (Qi Q5))))),?_⟩
  have bad:∀ H',Qp H H'→jE S=false→Q (.int 20) H':=fun H' s1 e=>by
   have:=k H' s1
   unfold X9 at this
   rw[if_pos e] at this
   exact this
  refine⟨_,rfl,d,S,dx,lp,ll,lm,ap,al,am,rfl,D,fun H1 s1=>⟨_,rfl,Qz (fun h1=>?_) (fun h1=>?_)⟩⟩
  ·exact bad H1 s1 (by rw[qk,h1];rfl)
  have h1:(Z2 S).any (Y5 S)=false:=by simpa using h1
  intro g hg
  have fg:H g=none:=s1.free hg
  have s2:Qp H (upd H1 g (.dT [])):=s1.trans (Ql _ hg)
  have D2:=D.same s2
  have lal:al.length=S.lines.length:=D.lin.len
  refine⟨_,rfl,d,C,dx,_,_,rfl,D2.ins,T.cl,T.nL,qo _ _ _ _ _,ll,rfl,⟨_,D2.lin.lst⟩,Zq (K:=K) (a:=ll) (xs:=al.map V.ref) (fun j σ H'=>∃ v2:Option V,σ=[some (.ref d),some (.ref g),v2,none,none,none]∧But g H1 H'∧H' g=some (.dT (kT (S.lines.take j))))
   ⟨none,rfl,fun x o h hne=>by rw[Qq hne];exact h,Qh⟩ (fun j σ H' _ ⟨_,_,kp,hg'⟩=>(D.same (kp.same fg s1)).lin.lst) ?_ ?_⟩
  ·rintro j x σ H3 hx ⟨v2,rfl,kp,hg3⟩
   obtain⟨c,hc,rfl⟩:=Zn hx
   have hj:j<S.lines.length:=by rw[←lal];exact (List.getElem?_eq_some_iff.1 hc).1
   have D3:=D.same (kp.same fg s1)
   have hp:Pr H3 c S.lines[j]:=D3.lin.at_ j c _ hc (yd hj)
   have nin:S.lines[j]∉S.lines.take j:=fun h=>by
    obtain⟨m,hm,em⟩:=List.mem_iff_getElem.1 h
    rw[yB] at hm
    rw[Gj] at em
    have:=(Gw nd).1 em
    lia
   have len:(kT (S.lines.take j)).length<sizeLine:=by
    have z:=O5.siz.2.1
    unfold kT
    rw[yc,yB]
    exact yF (show min j S.lines.length≤65536 by lia) (by decide)
   refine⟨_,rfl,_,rfl,g,_,rfl,z7.t hg3 hp.key len,?_⟩
   rw[kT_put nin]
   refine⟨_,rfl,fun x o h hne=>by rw[Qq hne];exact kp x o h hne,?_⟩
   rw[Qh,jo hj]
  ·rintro σ H3 ⟨v2,rfl,kp,hg3⟩
   rw[yc,lal,jZ] at hg3
   have s3:=kp.same fg s1
   refine⟨_,rfl,d,S,dx,lp,ll,lm,ap,al,am,rfl,D.same s3,O5.siz,fun H4 r rs s4' hr4 rl rat=>?_⟩
   have s4:=s3.trans s4'
   have hg4:=s4' _ _ hg3
   refine⟨r,rfl,⟨_,SqL.of hr4⟩,Zq (K:=K) (a:=r) (xs:=rs.map V.ref) (fun j σ H'=>∃ v3 v4 v5:Option V,σ=[some (.ref d),some (.ref g),v2,v3,v4,v5]∧Qp H4 H'∧∀ m l,m<j→(Jz S)[m]?=some l→Yl S l=true)
    ⟨none,none,none,rfl,Qp.refl _,fun m l hm=>by lia⟩ (fun j σ H' _ ⟨_,_,_,_,s5,_⟩=>SqL.of (s5 _ _ hr4)) ?_ ?_⟩
   ·rintro j x σ H5 hx ⟨v3,v4,v5,rfl,s5,hb⟩
    obtain⟨c,hc,rfl⟩:=Zn hx
    have hj:j<(Jz S).length:=by show j<4;rw[←rl];exact (List.getElem?_eq_some_iff.1 hc).1
    obtain⟨l,hl⟩:∃ l,(Jz S)[j]?=some l:=⟨_,yd hj⟩
    have hcl:=s5 _ _ (rat j c l hc hl)
    have e1:Z0 (ni l) (some ((1:Nat):Int)) none=ni (l.drop 1):=by rw[cut_from];unfold ni;rw[xO]
    refine⟨_,rfl,_,rfl,_,rfl,c,_,rfl,SqL.of hcl,fun y hy=>?_⟩
    have e1':Z0 (ni l) (some 1) none=ni (l.drop 1):=e1
    rw[e1']
    have s6':=Ql (.lst (ni (l.drop 1))) hy
    have hcl6:=s6' _ _ hcl
    generalize e6:upd H5 y (.lst (ni (l.drop 1)))=H6 at s6' hcl6 ⊢
    have hy6:H6 y=some (.lst (ni (l.drop 1))):=by rw[←e6];exact Qh
    have s6:=s5.trans s6'
    have llen:(ni l).length=l.length:=by simp[ni]
    have dlen:(ni (l.drop 1)).length=l.length-1:=by simp[ni]
    refine⟨c,y,_,_,rfl,SqL.of hcl6,SqL.of hy6,for_zip (K:=K) (a:=c) (b:=y) (xs:=ni l) (ys:=ni (l.drop 1)) (p:=4) (q:=5) (n:=l.length-1) (fun i σ H'=>∃ v4 v5:Option V,σ=[some (.ref d),some (.ref g),v2,some (.ref c),v4,v5]∧Qp H6 H'∧∀ m z,m<i→(l.zip (l.drop 1))[m]?=some z→z∈S.lines)
     (by rw[llen,dlen];lia) ⟨_,_,rfl,Qp.refl _,fun m z hm=>by lia⟩ (fun i σ H' _ ⟨_,_,_,s7,_⟩=>⟨SqL.of (s7 _ _ hcl6),SqL.of (s7 _ _ hy6)⟩) ?_ ?_⟩
    ·rintro i a b σ H7 H8 ha hbb ⟨w4,w5,rfl,s7,hm⟩ s8'
     have ga:i<l.length:=by rw[←llen];exact (List.getElem?_eq_some_iff.1 ha).1
     have gb:i<(l.drop 1).length:=by
      have:=(List.getElem?_eq_some_iff.1 hbb).1
      rw[dlen] at this
      rw[yG];exact this
     have ea:a=V.int ((l[i]:Nat):Int):=by
      unfold ni at ha
      rw[yi,yd ga] at ha
      exact (Option.some.inj ha).symm
     have eb:b=V.int (((l.drop 1)[i]:Nat):Int):=by
      unfold ni at hbb
      rw[yi,yd gb] at hbb
      exact (Option.some.inj hbb).symm
     subst ea eb
     have ez:(l.zip (l.drop 1))[i]?=some (l[i],(l.drop 1)[i]):=by
      rw[List.getElem?_zip_eq_some]
      exact⟨yd ga,yd gb⟩
     have s8:=s7.trans s8'
     refine⟨_,rfl,_,rfl,(by show 2≤sizeLine;decide),fun t ht=>?_⟩
     have s9':=Ql (.tup [V.int ((l[i]:Nat):Int),V.int (((l.drop 1)[i]:Nat):Int)]) ht
     have s9:=s8.trans s9'
     have hp:Pr (upd H8 t (.tup [V.int ((l[i]:Nat):Int),V.int (((l.drop 1)[i]:Nat):Int)])) t (l[i],(l.drop 1)[i]):=Qh
     have hg9:=s9 _ _ (s6 _ _ hg4)
     refine⟨_,rfl,g,_,rfl,JM.t hg9 hp.key,_,rfl,Qz (fun h3=>?_) (fun h3=>?_)⟩
     ·have h3:(!(Xr (kT S.lines) (Jq (l[i],(l.drop 1)[i]))).isSome)=true:=h3
      rw[qg] at h3
      have h3:(l[i],(l.drop 1)[i])∉S.lines:=by simpa using h3
      refine bad _ ((s4.trans s6).trans s9) ?_
      rw[qk]
      have:(Jz S).all (Yl S)=false:=by
       rw[List.all_eq_false]
       refine⟨l,yO hl,?_⟩
       unfold Yl
       rw[xu]
       intro q
       exact h3 (of_decide_eq_true (q _ (yO ez)))
      rw[this,Bool.and_false]
     ·have h3:¬ (!(Xr (kT S.lines) (Jq (l[i],(l.drop 1)[i]))).isSome)=true:=h3
      rw[qg] at h3
      have h3:(l[i],(l.drop 1)[i])∈S.lines:=by simpa using h3
      refine⟨_,_,rfl,s9,fun m z hz ez'=>?_⟩
      by_cases q:m=i
      ·subst q
       rw[ez] at ez'
       cases ez'
       exact h3
      ·exact hm m z (by lia) ez'
    ·rintro σ H7 ⟨w4,w5,rfl,s7,hm⟩
     refine⟨_,_,_,rfl,s6.trans s7,fun m l' hm' hl'=>?_⟩
     by_cases q:m=j
     ·subst q
      rw[hl] at hl'
      cases hl'
      unfold Yl
      rw[xu]
      intro z hz
      obtain⟨i,hi,e⟩:=List.mem_iff_getElem.1 hz
      refine decide_eq_true (hm i z ?_ ?_)
      ·rw[List.length_zip,yG] at hi
       lia
      ·rw[←e];exact yd hi
     ·exact hb m l' (by lia) hl'
   ·rintro σ H5 ⟨v3,v4,v5,rfl,s5,hb⟩
    have fo:jE S=true:=by
     rw[qk,h1]
     have:(Jz S).all (Yl S)=true:=by
      rw[xu]
      intro l hl
      obtain⟨m,hm⟩:=List.mem_iff_getElem?.1 hl
      refine hb m l ?_ hm
      rw[yc,rl]
      exact (List.getElem?_eq_some_iff.1 hm).1
     rw[this];rfl
    have:=k H5 (s4.trans s5)
    unfold X9 at this
    rw[if_neg (by rw[fo];simp)] at this
    exact this
end
end Gp
set_option Elab.async false
set_option linter.all false
set_option maxRecDepth 100000
set_option maxHeartbeats 4000000
namespace Gp
open PySem PySem.Spec PyProof.Rows L2
open Gla (Pt Plan)
structure QE(K:z8)(y x:Str)(st:Stmt):Prop where
 ex:∃ (f:Addr) (oc:Value) (od:Option Addr) (kV dc pm:Value) (an:Option Addr) (cd ct:Value) (sl:Array (Option Value)),jM K mainGlobals y=some (some (.ref f))∧
  K.lookup f=some ⟨oc,od,.func (jj x x (defArgs st) (defBody st) (defScope st) .none kV dc pm an cd ct),sl⟩∧xC K cd x=true∧yY K (.ref f)=true
structure XX(K:z8)(C:Addr)(m q:Str)(st:Stmt):Prop where
 ex:∃ (f:Addr) (oc:Value) (od:Option Addr) (kV dc pm:Value) (an:Option Addr) (cd ct:Value) (sl:Array (Option Value)),y9 K (.ref C) m=some (some (.ref f))∧GL K (.ref f)=true∧
  K.lookup f=some ⟨oc,od,.func (jj m q (defArgs st) (defBody st) (defScope st) .none kV dc pm an cd ct),sl⟩∧xC K cd q=true∧yY K (.ref f)=true
structure ClsIn(K:z8)(x:Str)(C:Addr):Prop where
 ns:jM K mainGlobals x=some (some (.ref C))
 pg:xU K C Str.empty=true
 hd:Gu K C=true
 po:G0 K C=true
 sa:y9 K (.ref C) "__setattr__" = some (some (.builtin "object.__setattr__"))
 mak:Ur K C=true
 kc:yY K (.ref C)=true
def Zz(K:z8)(x:Str)(n:Int):Prop:=∃ t,jM K mainGlobals x=some (some (.int n t))
def NotIn(K:z8)(x:Str):Prop:=jM K mainGlobals x=some none
def qy(K:z8)(a:Addr)(vs:List V):Prop:=∃ (od:Option Addr) (its:Array Value) (n:Nat) (sl:Array (Option Value)),K.lookup a=some ⟨.type "tuple",od,.seq its n,sl⟩∧its.size≤sizeLine∧QF vs its.toList
theorem qy.sq{K:z8}{a:Addr}{vs:List V}(h:qy K a vs)(H:Hp):SqT K H a vs:=by
 obtain⟨od,its,n,sl,l,z,r⟩:=h
 exact .inr ⟨_,its,n,l,rfl,rfl,z,r⟩
inductive Jh(K:z8):List Value→List (List Int)→Prop
 | nil:Jh K [] []
 | cons {a:Addr} {r:List Int} {us:List Value} {rs:List (List Int)}:qy K a (r.map V.int)→Jh K us rs→Jh K (Value.ref a::us) (r::rs)
theorem Jh.rows{K:z8}:∀ {us:List Value} {rs:List (List Int)},Jh K us rs→∃ as:List Addr,us=as.map Value.ref∧as.length=rs.length∧∀(i:Nat)(a:Addr)(r:List Int),as[i]?=some a→rs[i]?=some r→∀ H,SqT K H a (r.map V.int)
 | _,_,.nil=>⟨[],rfl,rfl,fun i a r h _=>by simp at h⟩
 | _,_,.cons (a:=a) h t=>by
  obtain⟨as,e,l,k⟩:=t.rows
  subst e
  refine⟨a::as,rfl,by rw[yx,yx,l],fun i b r h1 h2=>?_⟩
  cases i with
  | zero=>cases h1;cases h2;exact h.sq
  | succ i=>exact k i b r (by simpa using h1) (by simpa using h2)
def YW(K:z8)(x:Str) (rs:List (List Int)):Prop:=∃ (q:Addr) (od:Option Addr) (its:Array Value) (n:Nat) (sl:Array (Option Value)),jM K mainGlobals x=some (some (.ref q))∧K.lookup q=some ⟨.type "tuple",od,.seq its n,sl⟩∧its.size≤sizeLine∧Jh K its.toList rs
def SgnIn(K:z8)(x:Str)(vs:List V):Prop:=∃ q:Addr,jM K mainGlobals x=some (some (.ref q))∧qy K q vs
theorem defIn_mk{K:z8}{y x:Str}{st:Stmt}{f:Addr}{oc:Value}{od:Option Addr}{kV dc pm:Value}{an:Option Addr}{cd ct:Value} {sl:Array (Option Value)} (a:jM K mainGlobals y=some (some (.ref f)))
  (b:K.lookup f=some ⟨oc,od,.func (jj x x (defArgs st) (defBody st) (defScope st) .none kV dc pm an cd ct),sl⟩) (c:xC K cd x=true) (d:yY K (.ref f)=true):QE K y x st:=⟨f,oc,od,kV,dc,pm,an,cd,ct,sl,a,b,c,d⟩
theorem methIn_mk{K:z8}{C:Addr}{m q:Str}{st:Stmt}{f:Addr}{oc:Value}{od:Option Addr}{kV dc pm:Value}{an:Option Addr}{cd ct:Value} {sl:Array (Option Value)} (a:y9 K (.ref C) m=some (some (.ref f))) (i:GL K (.ref f)=true)
  (b:K.lookup f=some ⟨oc,od,.func (jj m q (defArgs st) (defBody st) (defScope st) .none kV dc pm an cd ct),sl⟩) (c:xC K cd q=true) (d:yY K (.ref f)=true):XX K C m q st:=⟨f,oc,od,kV,dc,pm,an,cd,ct,sl,a,i,b,c,d⟩
theorem intIn_mk{K:z8}{x:Str}{n:Int}{t:Tok} (a:jM K mainGlobals x=some (some (.int n t))):Zz K x n:=⟨t,a⟩
theorem notIn_mk{K:z8}{x:Str}(a:jM K mainGlobals x=some none):NotIn K x:=a
theorem noAttr_mk{K:z8}{C:Addr}{x:Str} (a:y9 K (.ref C) x=some none):Zi K C x:=a
theorem tupIn_mk{K:z8}{a:Addr}{vs:List V}{od:Option Addr}{its:Array Value}{n:Nat} {sl:Array (Option Value)} (l:K.lookup a=some ⟨.type "tuple",od,.seq its n,sl⟩) (z:its.size≤sizeLine) (v:QF vs its.toList):qy K a vs:=⟨od,its,n,sl,l,z,v⟩
theorem sgnIn_mk{K:z8}{x:Str}{vs:List V}{q:Addr} (n:jM K mainGlobals x=some (some (.ref q))) (t:qy K q vs):SgnIn K x vs:=⟨q,n,t⟩
theorem bndsIn_mk{K:z8}{x:Str} {rs:List (List Int)} {q:Addr} {od:Option Addr} {its:Array Value} {m:Nat} {sl:Array (Option Value)} (n:jM K mainGlobals x=some (some (.ref q))) (l:K.lookup q=some ⟨.type "tuple",od,.seq its m,sl⟩) (z:its.size≤sizeLine) (r:Jh K its.toList rs):YW K x rs:=⟨q,od,its,m,sl,n,l,z,r⟩
theorem rowsV_mk{K:z8}{a:Addr}{r:List Int}{us:List Value} {rs:List (List Int)} (h:qy K a (r.map V.int)) (t:Jh K us rs):Jh K (Value.ref a::us) (r::rs):=.cons h t
theorem vals_int{i:Int}{t:Tok}{vs:List V}{us:List Value}(h:QF vs us):QF (.int i::vs) (.int i t::us):=.cons ⟨t,rfl⟩ h
section
variable {P:Program} {w:World} {K:z8} {mg:Str→Option Value} {base h:Heap} {C:Addr}
theorem YW.bnds{x:Str} {rs:List (List Int)} (KX:K.In h) (G:h.Ns mainGlobals mg) (b:YW K x rs):Bnds K mg x rs:=by
 obtain⟨q,od,its,m,sl,n,l,z,r⟩:=b
 obtain⟨as,e,h1,h2⟩:=r.rows
 refine⟨q,as,x6 KX G n,fun H=>.inr ⟨_,its,m,l,rfl,rfl,z,?_⟩,h1,h2⟩
 rw[e]
 exact Jk as
theorem SgnIn.sgn{x:Str}{vs:List V}(KX:K.In h)(G:h.Ns mainGlobals mg)(b:SgnIn K x vs):Sgn K mg x vs:=by
 obtain⟨q,n,t⟩:=b
 exact⟨q,x6 KX G n,t.sq⟩
theorem Zz.gi{x:Str}{n:Int}(KX:K.In h)(G:h.Ns mainGlobals mg)(b:Zz K x n):GI mg x n:=by
 obtain⟨t,e⟩:=b
 exact⟨t,x6 KX G e⟩
def BindOk(x:Str)(st:Stmt)(ps:List Str):Prop:=∀(kV doc pm:Value)(an:Option Addr)(cdv ct:Value)(us:List Value),us.length=ps.length→bindArgs (jj x x (defArgs st) (defBody st) (defScope st) .none kV doc pm an cdv ct) ⟨us,[]⟩=pure (ps.zip us)
def BindOkM(x q:Str)(st:Stmt)(ps:List Str):Prop:=∀(kV doc pm:Value)(an:Option Addr)(cdv ct:Value)(us:List Value),us.length=ps.length→bindArgs (jj x q (defArgs st) (defBody st) (defScope st) .none kV doc pm an cdv ct) ⟨us,[]⟩=pure (ps.zip us)
theorem QE.has{y x:Str}{st:Stmt}{ps:List Str}{k:Nat}{sp:Sp}(D:QE K y x st)(KX:K.In h)(G:h.Ns mainGlobals mg)(hb:BindOk x st ps) (ok:∀(f:Addr)(fd:FuncData),Fun K x x st f fd→QI P w K mg base CX0 k f fd ps sp):Has P w K mg base k y ps sp:=by
 obtain⟨f,oc,od,kV,dc,pm,an,cd,ct,sl,n,l,c,kp⟩:=D.ex
 have F:=zT (st:=st) l c kp
 exact⟨f,_,x6 KX G n,kp,F.binds hb,ok f _ F⟩
theorem XX.has{m q:Str}{st:Stmt}{ps:List Str}{k:Nat}{sp:Sp}(D:XX K C m q st)(hb:BindOkM m q st ps) (ok:∀(f:Addr)(fd:FuncData),Fun K m q st f fd→QI P w K mg base CX0 k f fd ps sp):Xh P w K mg base C k m ps sp:=by
 obtain⟨f,oc,od,kV,dc,pm,an,cd,ct,sl,n,i,l,c,kp⟩:=D.ex
 have F:=zT (st:=st) l c kp
 exact⟨f,_,⟨n,i,kp⟩,F.binds hb,ok f _ F⟩
end
structure ZX(K:z8)(C:Addr):Prop where
 cl:ClsIn K "Drawing" C
 nW:Zi K C "width"
 nH:Zi K C "height"
 nP:Zi K C "points"
 nL:Zi K C "lines"
 nM:Zi K C "marks"
 mI:XX K C "__init__" "Drawing.__init__" sInit
 mPP:XX K C "point_place" "Drawing.point_place" sPP
 mLP:XX K C "line_place" "Drawing.line_place" sLP
 mMP:XX K C "mark_place" "Drawing.mark_place" sMP
 mBC:XX K C "byte_count" "Drawing.byte_count" sBC
 mNb:XX K C "neighbours" "Drawing.neighbours" sNb
 rev:NotIn K "reversed"
 len:NotIn K "len"
 range:NotIn K "range"
 enum:NotIn K "enumerate"
 lst:NotIn K "list"
 any:NotIn K "any"
 zip:NotIn K "zip"
 str:NotIn K "str"
 sum:NotIn K "sum"
 ord:NotIn K "ord"
 max:NotIn K "max"
 g20:Zz K "HEAD_BYTES_drawing" 20
 g8:Zz K "POINT_BYTES" 8
 g4:Zz K "LINE_BYTES" 4
 g12:Zz K "MARK_BYTES" 12
 gN:Zz K "NO_POINT" (-1)
 w80:Zz K "HEAD_BYTES_workshop" 80
 w16:Zz K "SHEET_BYTES" 16
 w8:Zz K "KIND_BYTES" 8
 w64:Zz K "GLASS_BYTES" 64
 w69:Zz K "PAINTING_BYTES" 69
 w64b:Zz K "BANDS_BYTES" 64
 w4:Zz K "MOST_COATS" 4
 sgC:SgnIn K "CARTOON_SIGN" [.int 71,.int 76,.int 65,.int 49]
 sgW:SgnIn K "WORKSHOP_SIGN" [.int 71,.int 76,.int 65,.int 87]
 bC:YW K "HEAD_BOUNDS_cartoon" qt
 bW:YW K "HEAD_BOUNDS_workshop" (XQ wb)
 bS:YW K "SHEET_BOUNDS" (XQ shb)
 bK:YW K "KIND_BOUNDS" (XQ kib)
 dNum:QE K "number_at" "number_at" sNum
 dPairs:QE K "pairs_at" "pairs_at" sPairs
 dRow:QE K "row_places" "row_places" sRow
 dDrw:QE K "drawing_of" "drawing_of" sDrw
 dTurn:QE K "turn" "turn" sTurn
 dBet:QE K "is_between" "is_between" sBet
 dOn:QE K "is_on" "is_on" sOn
 dParts:QE K "parts" "parts" sParts
 dCross:QE K "crosses" "crosses" sCross
 dBehind:QE K "comes_behind" "comes_behind" zC
 dWP:QE K "wrong_point" "wrong_point" sWP
 dLB:QE K "line_comes_behind" "line_comes_behind" sLB
 dWL:QE K "wrong_line" "wrong_line" sWL
 dLC:QE K "lacks_corner" "lacks_corner" sLC
 dER:QE K "edge_rows" "edge_rows" sER
 dOF:QE K "open_frame" "open_frame" sOF
 dHP:QE K "holds_point" "holds_point" sHP
 dCE:QE K "crosses_earlier" "crosses_earlier" sCE
 dEL:QE K "entangled_line" "entangled_line" sEL
 dWF:QE K "is_within_frame" "is_within_frame" sWF
 dOSL:QE K "is_on_some_line" "is_on_some_line" sOSL
 dWM:QE K "wrong_mark" "wrong_mark" sWM
 dSB:QE K "is_step_below" "is_step_below" sSB
 dHi:QE K "is_higher" "is_higher" sHi
 dSU:QE K "step_under" "step_under" sSU
 dSide:QE K "side" "side" sSide
 dFL:QE K "is_further_left" "is_further_left" sFL
 dSA:QE K "step_after" "step_after" sSA
 dOut:QE K "outline" "outline" sOut
 dCM:QE K "crowding_mark" "crowding_mark" sCM
 dUP:QE K "unmarked_pane" "unmarked_pane" sUP
 dLoose:QE K "loose_point" "loose_point" sLoose
 dReach:QE K "reached" "reached" sReach
 dUnr:QE K "unreached_point" "unreached_point" sUnr
 dPart:QE K "parting_point" "parting_point" sPart
 dHC:QE K "head_fault_cartoon" "head_fault" sHC
 dDF:QE K "drawing_fault" "drawing_fault" sDF
 dCF:QE K "cartoon_fault" "cartoon_fault" sCF
 dOob:QE K "out_of_bounds" "out_of_bounds" sOob
 dPP2:QE K "part_places" "part_places" sPP2
 dWS:QE K "wrong_sheet" "wrong_sheet" sWS
 dWK:QE K "wrong_kind" "wrong_kind" sWK
 dRC:QE K "is_right_coat" "is_right_coat" sRC
 dWC:QE K "wrong_coat" "wrong_coat" sWC
 dWPa:QE K "wrong_painting" "wrong_painting" sWPa
 dHW:QE K "head_fault_workshop" "head_fault" sHW
 dCW:QE K "cartoon_within" "cartoon_within" sCW
 dPaF:QE K "parts_fault" "parts_fault" sPaF
 dWF2:QE K "workshop_fault" "workshop_fault" sWF2
section
variable {P:Program} {w:World} {K:z8} {mg:Str→Option Value} {base h:Heap} {C:Addr}
theorem ZX.txt(T:ZX K C)(KX:K.In h)(G:h.Ns mainGlobals mg):Txt K mg:=
 ⟨yV KX G T.rev,yV KX G T.len,yV KX G T.range,yV KX G T.enum,yV KX G T.lst,yV KX G T.any,yV KX G T.zip,yV KX G T.str,yV KX G T.sum,yV KX G T.ord,yV KX G T.max⟩
theorem ZX.txtD(T:ZX K C)(KX:K.In h)(G:h.Ns mainGlobals mg):ZP K mg C:=
 ⟨⟨T.cl.pg,T.cl.hd,T.cl.po,T.cl.sa⟩,T.nW,T.nH,T.nP,T.nL,T.nM,x6 KX G T.cl.ns,T.g20.gi KX G,T.g8.gi KX G,T.g4.gi KX G,T.g12.gi KX G⟩
theorem ZX.txtW(T:ZX K C)(KX:K.In h)(G:h.Ns mainGlobals mg):qH K mg:=
 ⟨T.w80.gi KX G,T.w16.gi KX G,T.w8.gi KX G,T.w64.gi KX G,T.w69.gi KX G,T.w64b.gi KX G,T.w4.gi KX G⟩
theorem ZX.hNum(T:ZX K C)(KX:K.In h)(G:h.Ns mainGlobals mg):Has P w K mg base 1 "number_at" ["octets","place","size"] (YY K):=T.dNum.has KX G (fun _ _ _ _ _ _ us hl=>match us,hl with | [_,_,_],_=>rfl) fun f fd F=>ok_num F (T.txt KX G)
theorem ZX.hRow(T:ZX K C)(KX:K.In h)(G:h.Ns mainGlobals mg):Has P w K mg base 2 "row_places" ["octets"] (spRow K):=T.dRow.has KX G (fun _ _ _ _ _ _ us hl=>match us,hl with | [_],_=>rfl) fun f fd F=>ok_row F (T.txtD KX G) (T.hNum KX G)
theorem ZX.hPlc(T:ZX K C)(KX:K.In h)(G:h.Ns mainGlobals mg):Has P w K mg base 2 "part_places" ["workshop"] (qQ K):=T.dPP2.has KX G (fun _ _ _ _ _ _ us hl=>match us,hl with | [_],_=>rfl) fun f fd F=>ok_plc F (T.txtW KX G) (T.hNum KX G)
theorem ZX.hCW(T:ZX K C)(KX:K.In h)(G:h.Ns mainGlobals mg):Has P w K mg base 3 "cartoon_within" ["workshop"] (spCW K):=T.dCW.has KX G (fun _ _ _ _ _ _ us hl=>match us,hl with | [_],_=>rfl) fun f fd F=>ok_cw F (T.txtW KX G) (T.hPlc KX G)
theorem ZX.hDrw(T:ZX K C)(KX:K.In h)(G:h.Ns mainGlobals mg):Has P w K mg base 3 "drawing_of" ["octets"] (spDrw K C):=by
 have U:=T.txt KX G
 have D:=T.txtD KX G
 have hP:Has P w K mg base 2 "pairs_at" ["octets","place","step","count","size"] (zv K):=T.dPairs.has KX G (fun _ _ _ _ _ _ us hl=>match us,hl with | [_,_,_,_,_],_=>rfl) fun f fd F=>ok_pairs F U (T.hNum KX G)
 obtain⟨f,oc,od,kV,dc,pm,an,cd,ct,sl,n,i,l,c,kp⟩:=T.mI.ex
 have F:=zT (st:=sInit) l c kp
 have bI:=F.binds (ps:=["self","width","height","points","lines","marks"]) fun _ _ _ _ _ _ us hl=>match us,hl with | [_,_,_,_,_,_],_=>rfl
 exact T.dDrw.has KX G (fun _ _ _ _ _ _ us hl=>match us,hl with | [_],_=>rfl) fun f' fd' F'=>ok_drw F' D (T.hNum KX G) (T.hRow KX G) hP ⟨T.cl.mak,n,i,T.cl.kc⟩ bI (ok_init F D)
theorem ZX.hDf(T:ZX K C)(KX:K.In h)(G:h.Ns mainGlobals mg):Has P w K mg base 6 "drawing_fault" ["drawing"] (spDf K C):=by
 have U:=T.txt KX G
 have D:=T.txtD KX G
 have hPP:Xh P w K mg base C 1 "point_place" ["self","number"] spPP:=T.mPP.has (fun _ _ _ _ _ _ us hl=>match us,hl with | [_,_],_=>rfl) fun f fd F=>ok_pp F D
 have hLP:Xh P w K mg base C 2 "line_place" ["self","number"] (spLP K C):=T.mLP.has (fun _ _ _ _ _ _ us hl=>match us,hl with | [_,_],_=>rfl) fun f fd F=>ok_lp F D U hPP
 have hMP:Xh P w K mg base C 3 "mark_place" ["self","number"] (spMP K C):=T.mMP.has (fun _ _ _ _ _ _ us hl=>match us,hl with | [_,_],_=>rfl) fun f fd F=>ok_mp F D U hLP
 have hBC:Xh P w K mg base C 4 "byte_count" ["self"] (spBC K C):=T.mBC.has (fun _ _ _ _ _ _ us hl=>match us,hl with | [_],_=>rfl) fun f fd F=>ok_bc F D U hMP
 have hNb:Xh P w K mg base C 1 "neighbours" ["self"] (spNb K C):=T.mNb.has (fun _ _ _ _ _ _ us hl=>match us,hl with | [_],_=>rfl) fun f fd F=>ok_nb F D
 have hTurn:Has P w K mg base 1 "turn" ["first","second","third"] (YJ K):=T.dTurn.has KX G (fun _ _ _ _ _ _ us hl=>match us,hl with | [_,_,_],_=>rfl) fun f fd F=>ok_turn F
 have hBet:Has P w K mg base 1 "is_between" ["number","one","other"] spBet:=T.dBet.has KX G (fun _ _ _ _ _ _ us hl=>match us,hl with | [_,_,_],_=>rfl) fun f fd F=>ok_bet F
 have hOn:Has P w K mg base 2 "is_on" ["point","start","end"] (spOn K):=T.dOn.has KX G (fun _ _ _ _ _ _ us hl=>match us,hl with | [_,_,_],_=>rfl) fun f fd F=>ok_on F hBet hTurn
 have hParts:Has P w K mg base 2 "parts" ["start","end","one","other"] (zu K):=T.dParts.has KX G (fun _ _ _ _ _ _ us hl=>match us,hl with | [_,_,_,_],_=>rfl) fun f fd F=>ok_parts F hTurn
 have hCross:Has P w K mg base 3 "crosses" ["start","end","other_start","other_end"] (zw K):=T.dCross.has KX G (fun _ _ _ _ _ _ us hl=>match us,hl with | [_,_,_,_],_=>rfl) fun f fd F=>ok_cross F hParts
 have hBehind:Has P w K mg base 1 "comes_behind" ["later","earlier"] (YZ K):=T.dBehind.has KX G (fun _ _ _ _ _ _ us hl=>match us,hl with | [_,_],_=>rfl) fun f fd F=>ok_behind F
 have hLB:Has P w K mg base 1 "line_comes_behind" ["later","earlier"] (spLB K):=T.dLB.has KX G (fun _ _ _ _ _ _ us hl=>match us,hl with | [_,_],_=>rfl) fun f fd F=>ok_lb F
 have c4:Has P w K mg base 2 "wrong_point" ["drawing"] (Zv K C (fun _=>True) XE):=T.dWP.has KX G (fun _ _ _ _ _ _ us hl=>match us,hl with | [_],_=>rfl) fun f fd F=>ok_wp F D U hPP hBehind
 have c5:Has P w K mg base 3 "wrong_line" ["drawing"] (Zv K C (fun _=>True) Xk):=T.dWL.has KX G (fun _ _ _ _ _ _ us hl=>match us,hl with | [_],_=>rfl) fun f fd F=>ok_wl F D U hLP hLB
 have hLC:Has P w K mg base 4 "lacks_corner" ["drawing"] (spLC K C):=T.dLC.has KX G (fun _ _ _ _ _ _ us hl=>match us,hl with | [_],_=>rfl) fun f fd F=>ok_lc F D U
 have hER:Has P w K mg base 4 "edge_rows" ["drawing"] (spER K C):=T.dER.has KX G (fun _ _ _ _ _ _ us hl=>match us,hl with | [_],_=>rfl) fun f fd F=>ok_er F D U
 have c6:Has P w K mg base 5 "open_frame" ["drawing"] (Zv K C (fun S=>OkH S∧Ok5 S∧S.lines.Nodup) X9):=T.dOF.has KX G (fun _ _ _ _ _ _ us hl=>match us,hl with | [_],_=>rfl) fun f fd F=>ok_of F D U hLC hER
 have hHP:Has P w K mg base 3 "holds_point" ["drawing","line"] (spHP K C):=T.dHP.has KX G (fun _ _ _ _ _ _ us hl=>match us,hl with | [_,_],_=>rfl) fun f fd F=>ok_hp F D hOn
 have hCE:Has P w K mg base 4 "crosses_earlier" ["drawing","number"] (spCE K C):=T.dCE.has KX G (fun _ _ _ _ _ _ us hl=>match us,hl with | [_,_],_=>rfl) fun f fd F=>ok_ce F D hCross
 have c7:Has P w K mg base 5 "entangled_line" ["drawing"] (Zv K C Ok5 X1):=T.dEL.has KX G (fun _ _ _ _ _ _ us hl=>match us,hl with | [_],_=>rfl) fun f fd F=>ok_el F D U hLP hHP hCE
 have c8:Has P w K mg base 2 "loose_point" ["drawing"] (Zv K C (fun S=>Z3 S∧XV S) X0):=T.dLoose.has KX G (fun _ _ _ _ _ _ us hl=>match us,hl with | [_],_=>rfl) fun f fd F=>ok_loose F D U hPP hNb
 have hReach:Has P w K mg base 1 "reached" ["beside","start","barred"] (JN K):=T.dReach.has KX G (fun _ _ _ _ _ _ us hl=>match us,hl with | [_,_,_],_=>rfl) fun f fd F=>ok_reach F U
 have c9:Has P w K mg base 2 "unreached_point" ["drawing"] (Zv K C Ok8 XZ):=T.dUnr.has KX G (fun _ _ _ _ _ _ us hl=>match us,hl with | [_],_=>rfl) fun f fd F=>ok_unr F D U (T.gN.gi KX G) hPP hNb hReach
 have c10:Has P w K mg base 2 "parting_point" ["drawing"] (Zv K C Ok8 ZC):=T.dPart.has KX G (fun _ _ _ _ _ _ us hl=>match us,hl with | [_],_=>rfl) fun f fd F=>ok_part F D U hPP hNb hReach
 have hWF:Has P w K mg base 1 "is_within_frame" ["drawing","mark"] (spWF K C):=T.dWF.has KX G (fun _ _ _ _ _ _ us hl=>match us,hl with | [_,_],_=>rfl) fun f fd F=>ok_wf F D
 have hOSL:Has P w K mg base 3 "is_on_some_line" ["drawing","mark"] (spOSL K C):=T.dOSL.has KX G (fun _ _ _ _ _ _ us hl=>match us,hl with | [_,_],_=>rfl) fun f fd F=>ok_osl F D hOn
 have c11:Has P w K mg base 4 "wrong_mark" ["drawing"] (Zv K C Ok5 Z8):=T.dWM.has KX G (fun _ _ _ _ _ _ us hl=>match us,hl with | [_],_=>rfl) fun f fd F=>ok_wm F D U hMP hWF hOSL hBehind
 have hSB:Has P w K mg base 2 "is_step_below" ["points","step","mark"] (spSB K):=T.dSB.has KX G (fun _ _ _ _ _ _ us hl=>match us,hl with | [_,_,_],_=>rfl) fun f fd F=>ok_sb F hTurn
 have hHi:Has P w K mg base 2 "is_higher" ["points","step","other"] (spHi K):=T.dHi.has KX G (fun _ _ _ _ _ _ us hl=>match us,hl with | [_,_,_],_=>rfl) fun f fd F=>ok_hi F hTurn
 have hSU:Has P w K mg base 3 "step_under" ["drawing","mark"] (spSU K C):=T.dSU.has KX G (fun _ _ _ _ _ _ us hl=>match us,hl with | [_,_],_=>rfl) fun f fd F=>ok_su F D hSB hHi
 have hSide:Has P w K mg base 1 "side" ["number"] spSide:=T.dSide.has KX G (fun _ _ _ _ _ _ us hl=>match us,hl with | [_],_=>rfl) fun f fd F=>ok_side F
 have hFL:Has P w K mg base 2 "is_further_left" ["points","step","one","other"] (spFL K):=T.dFL.has KX G (fun _ _ _ _ _ _ us hl=>match us,hl with | [_,_,_,_],_=>rfl) fun f fd F=>ok_fl F hTurn hSide
 have hSA:Has P w K mg base 3 "step_after" ["points","beside","step"] (spSA K):=T.dSA.has KX G (fun _ _ _ _ _ _ us hl=>match us,hl with | [_,_,_],_=>rfl) fun f fd F=>ok_sa F hFL
 have hOut:Has P w K mg base 4 "outline" ["points","beside","first"] (spOut K):=T.dOut.has KX G (fun _ _ _ _ _ _ us hl=>match us,hl with | [_,_,_],_=>rfl) fun f fd F=>ok_out F hSA
 have c12:Has P w K mg base 5 "crowding_mark" ["drawing"] (Zv K C (fun S=>Ok10 S∧∀ m∈S.marks,j3 S m.at_=true) XO):=T.dCM.has KX G (fun _ _ _ _ _ _ us hl=>match us,hl with | [_],_=>rfl) fun f fd F=>ok_cm F D U hMP hNb hSU hOut
 have c13:Has P w K mg base 5 "unmarked_pane" ["drawing"] (Zv K C (fun S=>Pl.Good S) YK):=T.dUP.has KX G (fun _ _ _ _ _ _ us hl=>match us,hl with | [_],_=>rfl) fun f fd F=>ok_up F D U hBC
 exact T.dDF.has KX G (fun _ _ _ _ _ _ us hl=>match us,hl with | [_],_=>rfl) fun f fd F=>ok_df F U c4 c5 c6 c7 c8 c9 c10 c11 c12 c13
theorem ZX.hCf(T:ZX K C)(KX:K.In h)(G:h.Ns mainGlobals mg):Has P w K mg base 7 "cartoon_fault" ["octets"] (Jl K ZO):=by
 have hHC:Has P w K mg base 3 "head_fault_cartoon" ["octets"] (Jl K X3):=T.dHC.has KX G (fun _ _ _ _ _ _ us hl=>match us,hl with | [_],_=>rfl) fun f fd F=>ok_hc F (T.txtD KX G) (T.txt KX G) (T.bC.bnds KX G) (T.hNum KX G) (T.sgC.sgn KX G) (T.hRow KX G)
 exact T.dCF.has KX G (fun _ _ _ _ _ _ us hl=>match us,hl with | [_],_=>rfl) fun f fd F=>ok_cf F hHC (T.hDrw KX G) (T.hDf KX G)
theorem ZX.hWf(T:ZX K C)(KX:K.In h)(G:h.Ns mainGlobals mg):Has P w K mg base 9 "workshop_fault" ["workshop"] (Jl K (orW ZE)):=by
 have U:=T.txt KX G
 have W:=T.txtW KX G
 have hOob:Has P w K mg base 2 "out_of_bounds" ["workshop","start","bounds"] (spOob K):=T.dOob.has KX G (fun _ _ _ _ _ _ us hl=>match us,hl with | [_,_,_],_=>rfl) fun f fd F=>ok_oob F (T.hNum KX G)
 have hHW:Has P w K mg base 3 "head_fault_workshop" ["workshop"] (Jl K YE):=T.dHW.has KX G (fun _ _ _ _ _ _ us hl=>match us,hl with | [_],_=>rfl) fun f fd F=>ok_hw F W U (T.bW.bnds KX G) hOob (T.sgW.sgn KX G) (T.hPlc KX G)
 have c5:Has P w K mg base 3 "wrong_sheet" ["workshop","places"] (Yz K XN):=T.dWS.has KX G (fun _ _ _ _ _ _ us hl=>match us,hl with | [_,_],_=>rfl) fun f fd F=>ok_ws F W U (T.bS.bnds KX G) hOob
 have c6:Has P w K mg base 3 "wrong_kind" ["workshop","places"] (Yz K XM):=T.dWK.has KX G (fun _ _ _ _ _ _ us hl=>match us,hl with | [_,_],_=>rfl) fun f fd F=>ok_wk F W U (T.bK.bnds KX G) hOob
 have hRC:Has P w K mg base 1 "is_right_coat" ["workshop","place","coat","heats"] (spRC K):=T.dRC.has KX G (fun _ _ _ _ _ _ us hl=>match us,hl with | [_,_,_,_],_=>rfl) fun f fd F=>ok_rc F U
 have hWC:Has P w K mg base 2 "wrong_coat" ["workshop","place","heats"] (spWC K):=T.dWC.has KX G (fun _ _ _ _ _ _ us hl=>match us,hl with | [_,_,_],_=>rfl) fun f fd F=>ok_wc F W U hRC
 have c7:Has P w K mg base 3 "wrong_painting" ["workshop","places"] (Yz K XJ):=T.dWPa.has KX G (fun _ _ _ _ _ _ us hl=>match us,hl with | [_,_],_=>rfl) fun f fd F=>ok_wpa F W U (T.hNum KX G) hWC
 have hPaF:Has P w K mg base 8 "parts_fault" ["workshop","places"] (spPF K ZE):=T.dPaF.has KX G (fun _ _ _ _ _ _ us hl=>match us,hl with | [_,_],_=>rfl) fun f fd F=>ok_paf F W U (T.hCW KX G) (T.hCf KX G) c5 c6 c7
 exact T.dWF2.has KX G (fun _ _ _ _ _ _ us hl=>match us,hl with | [_],_=>rfl) fun f fd F=>ok_wf2 F hHW (T.hPlc KX G) hPaF
end
end Gp
set_option Elab.async false
set_option linter.all false
set_option maxRecDepth 100000
set_option maxHeartbeats 4000000
namespace Gp
open PySem PySem.Spec PyProof.Rows L2
def toB(l:List Int):ye:=l.map fun (z:Int)=>UInt8.ofNat z.toNat
theorem toB_bl:∀ l:List Int,(∀ z∈l,0≤z∧z≤255)→bl (toB l)=l.map V.int
 | [],_=>rfl
 | z::l,h=>by
  have q:=h z (yI ..)
  have ih:=toB_bl l fun y hy=>h y (ym _ hy)
  show V.int ((UInt8.ofNat z.toNat).toNat:Int)::bl (toB l)=V.int z::l.map V.int
  rw[ih,UInt8.toNat_ofNat']
  congr 2
  lia
theorem toB_len(l:List Int):(toB l).length=l.length:=by simp[toB]
theorem YC{l:List Int}(h:∀ z∈l,0≤z∧z≤255):PageNeutral.bytes l=some (toB l):=by
 unfold PageNeutral.bytes
 rw[if_pos]
 ·rfl
 ·unfold NeutralIO.bytes
  rw[xu]
  intro z hz
  have:=h z hz
  simp only[yk,decide_eq_true_eq]
  exact this
theorem inInts{lo hi:Int}:∀ {l:List Int},l.all (PySem.W.Codec.inInt lo hi)=true→∀ z∈l,lo≤z∧z≤hi:=by
 intro l h z hz
 have:=List.all_eq_true.1 h z hz
 unfold PySem.W.Codec.inInt at this
 simpa using this
end Gp
set_option Elab.async false
set_option linter.all false
set_option maxRecDepth 100000
namespace Gp
open PySem PySem.Spec PyProof.Rows L2
def spCtd(K:z8):Sp:=fun vs H Q _=>∃(a:Addr)(x:ye),vs=[.ref a]∧H a=some (.lst (bl x))∧x.length≤16000000∧∀ H' l,Qp H H'→H' l=some (.lst (.int 0::.int (x.length:Int)::bl x))→Q (.ref l) H'
abbrev sCtd:Stmt:=top 88
theorem scCtd:Qm ["octets"] ["octets"] (defScope sCtd):=⟨rfl,rfl,rfl,by decide +kernel,rfl,by decide +kernel,by decide +kernel⟩
section
variable {P:Program} {w:World} {K:z8} {mg:Str→Option Value} {base:Heap} {C:Addr}
theorem ok_ctd{f:Addr}{fd:FuncData}(F:Fun K "counted" "counted" sCtd f fd)(U:Txt K mg):QI P w K mg base CX0 1 f fd ["octets"] (spCtd K):=by
 refine F.ok scCtd (fun vs H Q E h=>?_) (fun cdv A outer s H vs Q E hr h=>?_)
 ·obtain⟨a,x,rfl,_⟩:=h
  rfl
 ·obtain⟨a,x,rfl,hS,hl,k⟩:=h
  refine⟨_,Qe (Qi (QD op_cat (ZD (Qa Qg (Qa (QL Qw (by rfl) U.len PySem.boot_len (Qa (pv 0) Qc)) Qc))) (pv 0))),?_⟩
  refine⟨_,rfl,a,_,rfl,.inl (SqL.of hS),(by show 2≤sizeLine;decide),fun q hq=>⟨_,rfl,q,a,_,_,rfl,rfl,Qh,Ql _ hq _ _ hS,?_,fun l hl2=>?_⟩⟩
  ·rw[QJ]
   exact yE (show 2+x.length≤16000002 by lia) (by decide)
  ·refine k _ l ((Ql _ hq).trans (Ql _ hl2)) ?_
   rw[Qh,QJ]
   rfl
end
theorem Y7{b:ye}{S:Gla.Plan}(h:ja b=.ok S):S=jJ b:=by
 unfold ja at h
 repeat (split at h;cases h)
 cases h;rfl
structure ShopOk(b:ye)(x:xT):Prop where
 eq:x=jr b (jJ (QG b))
 len:b.length=(yb b).2.2.2.2
 mag:b.take 4=jL
 plan:ja (QG b)=.ok (jJ (QG b))
 coat:∀ i,i<z9 b 68 4→xF (kinds b) b ((yb b).2.2.2.1+69*i)=none
theorem zM{b:ye}{x:xT}(h:GA b=.ok x):ShopOk b x:=by
 unfold GA at h
 split at h
 ·cases h
 ·split at h
  ·cases h
  ·rename_i hm
   split at h
   ·cases h
   ·simp only at h
    split at h
    ·cases h
    ·rename_i hl
     split at h
     ·cases h
     ·rename_i S hS
      have eS:=Y7 hS
      rw[YU] at hS eS
      split at h
      ·cases h
      ·split at h
       ·cases h
       ·split at h
        ·cases h
        ·rename_i hf
         have e:jr b S=x:=by injection h
         refine⟨by rw[←e,eS],by lia,by simpa using hm,by rw[hS,eS],fun i hi=>?_⟩
         have:=List.findSome?_eq_none_iff.1 hf i (List.mem_range.2 hi)
         exact this
end Gp
set_option Elab.async false
set_option linter.all false
set_option maxRecDepth 100000
set_option maxHeartbeats 4000000
namespace Gp
open PySem PySem.Spec PyProof.Rows L2
abbrev sOO:Stmt:=top 2
def spOO:Sp:=fun vs H Q _=>∃(n s:Nat)(y z:Int),vs=[.int y,.int z]∧y=(n:Int)∧z=(s:Int)∧s≤1000∧∀ H' l,Qp H H'→H l=none→H' l=some (.lst (bl (yU s n)))→Q (.ref l) H'
theorem scOO:Qm ["number","size","octets","rest"] ["number","size"] (defScope sOO):=⟨rfl,rfl,rfl,by decide +kernel,rfl,by decide +kernel,by decide +kernel⟩
section
variable {P:Program} {w:World} {K:z8} {mg:Str→Option Value} {base:Heap} {C:Addr}
theorem ok_oo{f:Addr}{fd:FuncData}(F:Fun K "octets_of" "octets_of" sOO f fd)(U:Txt K mg):QI P w K mg base CX0 1 f fd ["number","size"] spOO:=by
 refine F.ok scOO (fun vs H Q E h=>?_) (fun cdv A outer s H vs Q E hr h=>?_)
 ·obtain⟨n,s,y,z,rfl,_⟩:=h
  rfl
 ·obtain⟨n,sz,y,z,rfl,rfl,rfl,sm,k⟩:=h
  refine⟨_,Qb (Qs (i:=2) scOO.nd rfl (Or.inl rfl) (ZD Qc))
   (Qb (Qs (i:=3) scOO.nd rfl (Or.inl rfl) (pv 0))
   (Qb (J9 PassesOwn.never (Qu ZL (QL Qw (by rfl) U.len PySem.boot_len (Qa (pv 2) Qc)) (pv 1) (Qo _))
    (Qb (Yn (qZ jg js jt Z4 (pv 2) (Qa (QD op_mod (pv 3) Qg) Qc)))
    (Qe (Qs (i:=3) scOO.nd rfl (Or.inl rfl) (QD op_fdiv (pv 3) Qg)))))
   (Qe (Qi (pv 2))))),?_⟩
  refine⟨yM _,fun l hl=>?_⟩
  have s0:=Ql (.lst []) hl
  refine⟨_,rfl,?_⟩
  refine⟨fun m σ H'=>∃(b:ye)(r:Nat),σ=[some (.int (n:Int)),some (.int (sz:Int)),some (.ref l),some (.int (r:Int))]∧Qp H H'∧H' l=some (.lst (bl b))∧b.length≤sz∧m=sz-b.length∧yU sz n=b++yU (sz-b.length) r,
   ⟨_,[],n,rfl,s0,Qh,yM _,rfl,by simp⟩,?_⟩
  rintro m σ H2 ⟨b,r,rfl,s2,h2,hb,rfl,e⟩
  refine⟨_,rfl,l,_,rfl,.inl (SqL.of h2),_,rfl,_,_,rfl,rfl,_,rfl,Qz (fun h1=>?_) (fun h1=>?_)⟩
  ·have h1:b.length<sz:=by
    have:=of_decide_eq_true h1
    rw[QJ] at this
    lia
   refine⟨fun σ' H'=>∃(b':ye)(r:Nat),σ'=[some (.int (n:Int)),some (.int (sz:Int)),some (.ref l),some (.int (r:Int))]∧Qp H H'∧H' l=some (.lst (bl b'))∧b'.length≤sz∧sz-(b.length+1)=sz-b'.length∧yU sz n=b'++yU (sz-b'.length) r,
    fun σ' H' h=>⟨sz-(b.length+1),by lia,h⟩,?_⟩
   have e256:(((UInt8.ofNat (r%256)).toNat:Nat):Int)=(r:Int)%256:=by
    rw[UInt8.toNat_ofNat']
    lia
   refine⟨_,rfl,.inl ⟨rfl,_,SqL.of h2⟩,_,rfl,_,_,rfl,rfl,(by show (0:Int)<256;decide),l,_,_,rfl,rfl,h2,?_,?_⟩
   ·rw[QJ]
    exact yu h1 (yE sm (by decide))
   ·refine⟨_,rfl,_,_,rfl,rfl,⟨by decide,by decide⟩,b++[UInt8.ofNat (r%256)],r/256,rfl,?_,?_,?_,?_,?_⟩
    ·intro x o q
     rw[Qq (Qn q hl)]
     exact s2 _ _ q
    ·rw[Qh]
     unfold bl
     rw[jS,List.map_singleton,e256]
    ·rw[yt,jG];lia
    ·rw[yt,jG]
    ·rw[e,yt,jG,show sz-b.length=(sz-(b.length+1))+1 by lia]
     simp[yU]
  ·have h1:b.length=sz:=by
    rcases xH b.length sz with q | q
    ·refine absurd (decide_eq_true ?_) h1
     rw[QJ];lia
    ·lia
   refine⟨_,rfl,k _ _ s2 hl ?_⟩
   rw[e,h1,Nat.sub_self,h2]
   simp[yU]
end
end Gp
set_option Elab.async false
set_option linter.all false
set_option maxRecDepth 100000
set_option maxHeartbeats 4000000
namespace Gp
open PySem PySem.Spec PyProof.Rows L2
theorem Xb{c:ye}{S:Gla.Plan}(h:ja c=.ok S):G4 (jJ c)=c:=by
 have k:c.take 4=Uu∧z9 c 18 2=0∧c.length=20+8*z9 c 12 2+4*z9 c 14 2+12*z9 c 16 2:=by
  unfold ja at h
  split at h
  ·cases h
  ·split at h
   ·cases h
   ·rename_i h1
    split at h
    ·cases h
    ·split at h
     ·cases h
     ·split at h
      ·cases h
      ·split at h
       ·cases h
       ·split at h
        ·cases h
        ·split at h
         ·cases h
         ·rename_i h2
          split at h
          ·cases h
          ·rename_i h3
           exact⟨by simpa using h1,by simpa using h2,by simpa [UC] using h3⟩
 exact Pl.write_plan k.1 k.2.1 k.2.2
theorem told_bytes(b:ye):(PageNeutral.told (.bytes b)).map V.int=.int 0::.int (b.length:Int)::bl b:=by
 show List.map V.int (0::PageNeutral.bytesN b)=_
 unfold PageNeutral.bytesN PageNeutral.rowN
 show V.int 0::V.int _::_=_
 rw[yc]
 congr 2
 unfold bl
 rw[GH]
 rfl
structure TopC(K:z8):Prop where
 dRf:QE K "refusal" "refusal" sRf
 dJ:QE K "judge" "judge" sJ
 dCtd:QE K "counted" "counted" sCtd
 gM:Zz K "MOST_WORKSHOP_BYTES" 1048576
 g6:Zz K "TOO_LONG" (-6)
 g5:Zz K "BROKEN_RULE" (-5)
section
variable {P:Program} {w:World} {K:z8} {mg:Str→Option Value} {base h:Heap} {C:Addr}
theorem TopC.hRf(Tc:TopC K)(KX:K.In h)(G:h.Ns mainGlobals mg):Has P w K mg base 1 "refusal" ["fault","more"] (spRf K):=Tc.dRf.has KX G (fun _ _ _ _ _ _ us hl=>match us,hl with | [_,_],_=>rfl) fun f fd F=>ok_rf F (Tc.g5.gi KX G)
theorem TopC.hJ(Tc:TopC K)(T:ZX K C)(KX:K.In h)(G:h.Ns mainGlobals mg):Has P w K mg base 10 "judge" ["workshop"] (spJ K (orW ZE)):=Tc.dJ.has KX G (fun _ _ _ _ _ _ us hl=>match us,hl with | [_],_=>rfl) fun f fd F=>ok_j F ⟨Tc.gM.gi KX G,Tc.g6.gi KX G⟩ (T.txt KX G) (Tc.hRf KX G) (T.hWf KX G)
theorem TopC.hCtd(Tc:TopC K)(T:ZX K C)(KX:K.In h)(G:h.Ns mainGlobals mg):Has P w K mg base 1 "counted" ["octets"] (spCtd K):=Tc.dCtd.has KX G (fun _ _ _ _ _ _ us hl=>match us,hl with | [_],_=>rfl) fun f fd F=>ok_ctd F (T.txt KX G)
end
end Gp
set_option Elab.async false
set_option linter.all false
set_option maxRecDepth 100000
set_option maxHeartbeats 4000000
namespace Gp
open PySem PySem.Spec PyProof.Rows L2
def rCatL(K:z8):R2:=fun x y H Q=>∃ l b xs zs,x=.ref l∧y=.ref b∧SqL K H l xs∧SqL K H b zs∧xs.length+zs.length≤sizeLine∧∀ p,H p=none→Q (.ref p) (upd H p (.lst (xs++zs)))
theorem JR{X:Cx}:OpR X (binaryOp .Add) (rCatL X.K):=by
 intro pins s σ H x y v u Q I rx ry h
 obtain⟨l,b,xs,zs,rfl,rfl,hH,hB,hz,q⟩:=h
 cases rx
 cases ry
 obtain⟨its,r,⟨⟨c1,d1,da1,sl1⟩,n1,g1,hc1,hd1,hs1⟩,z1⟩:=I.list hH
 obtain⟨its2,r2,⟨⟨c2,d2,da2,sl2⟩,n2,g2,hc2,hd2,hs2⟩,z2⟩:=I.list hB
 cases hc1;cases hd1;cases hs1;cases hc2;cases hd2;cases hs2
 have l1:=r.length
 have l2:=r2.length
 refine concat_meets ⟨_,g1,rfl⟩ ⟨_,g2,rfl⟩ noFill_list_add seq_list_add PySem.F.slot_list_add PySem.F.entry_list_add (PySem.F.args_list_add_2 _ _) (PyProof.Rows.list_addW l b its.toArray its2.toArray n1 n2 none none sl1 sl2 (by rw[yn,yn];omega)) ⟨g1,g2,?_⟩
 have ea:its.toArray++its2.toArray=(its++its2).toArray:=by simp
 rw[ea]
 exact⟨.ref _,_,I.lnew (t':=s.toks) (r.append r2) (by rw[yt];omega),rfl,q _ I.fresh⟩
def newB(b q:ye):ye:=b.take 4++yU 4 q.length++(b.drop 8).take 72++q++b.drop (yb b).1
theorem z6(x y:ye):bl (x++y)=bl x++bl y:=by unfold bl;rw[jS]
theorem cut4(b:ye):Z0 (bl b) none (some 4)=bl (b.take 4):=by
 have:=Jc (xs:=bl b) (q:=4)
 rw[show ((4:Nat):Int)=4 from rfl] at this
 rw[this]
 unfold bl
 rw[jW]
theorem cut8(b:ye):Z0 (bl b) (some 8) (some 80)=bl ((b.drop 8).take 72):=by
 have:=qp (xs:=bl b) (p:=8) (q:=80)
 rw[show ((8:Nat):Int)=8 from rfl,show ((80:Nat):Int)=80 from rfl] at this
 rw[this]
 unfold bl
 rw[jW,xO]
theorem cutF(b:ye)(p:Nat):Z0 (bl b) (some (p:Int)) none=bl (b.drop p):=by
 rw[cut_from]
 unfold bl
 rw[xO]
def spCC(K:z8):Sp:=fun vs H Q _=>∃(a c:Addr)(b q:ye),vs=[.ref a,.ref c]∧SqL K H a (bl b)∧SqL K H c (bl q)∧b.length≤100000∧q.length≤100000∧∀ H' l,Qp H H'→H' l=some (.lst (bl (newB b q)))→Q (.ref l) H'
abbrev sCC:Stmt:=top 70
theorem scCC:Qm ["workshop","cartoon","head"] ["workshop","cartoon"] (defScope sCC):=⟨rfl,rfl,rfl,by decide +kernel,rfl,by decide +kernel,by decide +kernel⟩
theorem Yi(w n:Nat):(yU w n).length=w:=by
 induction w generalizing n with
 | zero=>rfl
 | succ w ih=>simp[yU,ih]
theorem szL{x y:ye}(h:x.length+y.length≤300000):(bl x).length+(bl y).length≤sizeLine:=by
 rw[QJ,QJ]
 exact yE h (by decide)
section
variable {P:Program} {w:World} {K:z8} {mg:Str→Option Value} {base:Heap} {C:Addr}
theorem ok_cc{f:Addr}{fd:FuncData}(F:Fun K "changed_cartoon" "changed_cartoon" sCC f fd)(T:qH K mg)(U:Txt K mg) (Pp:Has P w K mg base 2 "part_places" ["workshop"] (qQ K)) (OO:Has P w K mg base 1 "octets_of" ["number","size"] spOO):QI P w K mg base CX0 3 f fd ["workshop","cartoon"] (spCC K):=by
 refine F.ok scCC (fun vs H Q E h=>?_) (fun cdv A outer s H vs Q E hr h=>?_)
 ·obtain⟨a,c,b,q,rfl,_⟩:=h
  rfl
 ·obtain⟨a,c,b,q,rfl,hS,hC,hb,hq,k⟩:=h
  refine⟨_,Qb (Qs (i:=2) scCC.nd rfl (Or.inl rfl) (QD JR (QD JR (Zo ZQ (pv 0) Yo (Zc Qg)) (Qt OO (hr.mono (by decide)) (Qa (QL Qw (by rfl) U.len PySem.boot_len (Qa (pv 1) Qc)) (Qa Qg Qc)))) (Zo ZQ (pv 0) (Zc Qg) (Zc (QS T.g80)))))
   (Qe (Qi (QD JR (QD JR (pv 2) (pv 1)) (Zo ZQ (pv 0) (Zc (Qx QM (Qt Pp hr (Qa (pv 0) Qc)) Qg (fun _ _=>rfl))) Yo)))),?_⟩
  refine⟨_,rfl,_,rfl,a,_,rfl,hS,fun l1 f1=>?_⟩
  rw[cut4]
  have s1:=Ql (.lst (bl (b.take 4))) f1
  have h1:upd H l1 (.lst (bl (b.take 4))) l1=some (.lst (bl (b.take 4))):=Qh
  generalize upd H l1 (.lst (bl (b.take 4)))=H1 at *
  refine⟨_,rfl,c,_,rfl,.inl (s1.seq hC),q.length,4,_,_,rfl,by rw[QJ],rfl,by decide,fun H2 l2 s2 f2 h2=>?_⟩
  refine⟨l1,l2,_,_,rfl,rfl,SqL.of (s2 _ _ h1),SqL.of h2,szL (by simp only[yt,Yi,yB,yG];lia),fun l3 f3=>?_⟩
  rw[←z6]
  have s3':=Ql (.lst (bl (b.take 4++yU 4 q.length))) f3
  have h3:upd H2 l3 (.lst (bl (b.take 4++yU 4 q.length))) l3=some (.lst (bl (b.take 4++yU 4 q.length))):=Qh
  generalize upd H2 l3 (.lst (bl (b.take 4++yU 4 q.length)))=H3 at *
  have s3:=(s1.trans s2).trans s3'
  refine⟨_,rfl,_,rfl,_,rfl,a,_,rfl,s3.seq hS,fun l4 f4=>?_⟩
  rw[cut8]
  have s4':=Ql (.lst (bl ((b.drop 8).take 72))) f4
  have h4:upd H3 l4 (.lst (bl ((b.drop 8).take 72))) l4=some (.lst (bl ((b.drop 8).take 72))):=Qh
  generalize upd H3 l4 (.lst (bl ((b.drop 8).take 72)))=H4 at *
  refine⟨l3,l4,_,_,rfl,rfl,SqL.of (s4' _ _ h3),SqL.of h4,szL (by simp only[yt,Yi,yB,yG];lia),fun l5 f5=>?_⟩
  rw[←z6]
  have s5:=(s3.trans s4').trans (Ql (.lst (bl (b.take 4++yU 4 q.length++(b.drop 8).take 72))) f5)
  have h5:upd H4 l5 (.lst (bl (b.take 4++yU 4 q.length++(b.drop 8).take 72))) l5=some (.lst (bl (b.take 4++yU 4 q.length++(b.drop 8).take 72))):=Qh
  generalize upd H4 l5 (.lst (bl (b.take 4++yU 4 q.length++(b.drop 8).take 72)))=H5 at *
  refine⟨_,rfl,_,rfl,l5,c,_,_,rfl,rfl,SqL.of h5,s5.seq hC,szL (by simp only[yt,Yi,yB,yG];lia),fun l6 f6=>?_⟩
  rw[←z6]
  have s6':=Ql (.lst (bl (b.take 4++yU 4 q.length++(b.drop 8).take 72++q))) f6
  have h6:upd H5 l6 (.lst (bl (b.take 4++yU 4 q.length++(b.drop 8).take 72++q))) l6=some (.lst (bl (b.take 4++yU 4 q.length++(b.drop 8).take 72++q))):=Qh
  generalize upd H5 l6 (.lst (bl (b.take 4++yU 4 q.length++(b.drop 8).take 72++q)))=H6 at *
  have s6:=s5.trans s6'
  refine⟨_,rfl,_,rfl,a,b,rfl,s6.seq hS,fun H7 t s7 ht=>⟨t,_,_,_,rfl,rfl,SqT.of ht,Qj (j:=0) rfl,_,rfl,a,_,rfl,(s6.trans s7).seq hS,fun l8 f8=>?_⟩⟩
  rw[cutF]
  have s8':=Ql (.lst (bl (b.drop (yb b).1))) f8
  have h8:upd H7 l8 (.lst (bl (b.drop (yb b).1))) l8=some (.lst (bl (b.drop (yb b).1))):=Qh
  generalize upd H7 l8 (.lst (bl (b.drop (yb b).1)))=H8 at *
  refine⟨l6,l8,_,_,rfl,rfl,SqL.of (s8' _ _ (s7 _ _ h6)),SqL.of h8,szL (by simp only[yt,Yi,yB,yG];lia),fun l9 f9=>?_⟩
  rw[←z6]
  exact k _ _ (((s6.trans s7).trans s8').trans (Ql _ f9)) Qh
end
end Gp
set_option Elab.async false
set_option linter.all false
set_option maxRecDepth 100000
set_option maxHeartbeats 4000000
namespace Gp
open PySem PySem.Spec PyProof.Rows L2
theorem nums_len(l:List Nat):(l.flatMap (yU 4)).length=4*l.length:=by
 induction l with
 | nil=>rfl
 | cons x l ih=>rw[List.flatMap_cons,yt,Yi,ih,yx];lia
theorem write_new{b q:ye}{x:xT}{S:Gla.Plan}(h:ShopOk b x)(hq:ja q=.ok S):x5 { x with plan:=S }=newB b q:=by
 have eq:=Xb hq
 rw[←Y7 hq] at eq
 have ep:G4 x.plan=QG b:=by
  rw[h.eq]
  exact Xb h.plan
 have hl:=h.len
 have ew:x5 x=b:=by
  rw[h.eq]
  refine Pl.write_shop h.mag h.len ?_ h.coat
  rw[Xb h.plan,←YU]
  rfl
 have hp:(yb b).1=80+z9 b 4 4:=rfl
 have ht:(yb b).1≤b.length:=by rw[hl];show 80+z9 b 4 4≤80+z9 b 4 4+16*z9 b 56 4+8*z9 b 60 4+64*z9 b 64 4+69*z9 b 68 4;lia
 have hc:(QG b).length=z9 b 4 4:=by
  unfold QG
  rw[yB,yG];lia
 have hn:(x.numbers.flatMap (yU 4)++yU 8 x.shelf).length=72:=by
  rw[yt,nums_len,Yi]
  rfl
 have gen:∀ S:Gla.Plan,x5 { x with plan:=S }=jL++yU 4 (G4 S).length++(x.numbers.flatMap (yU 4)++yU 8 x.shelf)++G4 S++(x.sheets.flatMap (fun (s:Uv)=>yU 4 s.glass++(yU 4 s.w++(yU 4 s.h++yU 4 s.turns)))++
 (x.kinds.flatMap (fun (k:xB)=>yU 4 k.heat++yU 4 k.hold)++(x.glass.flatMap GP++x.paint.flatMap fun (p:Gla.Light×Gla.Coats)=>GP p.1++Gla.coatBytes p.2))):=by
  intro S
  simp only[xh]
  rfl
 have e0:=gen x.plan
 have e1:x5 { x with plan:=x.plan }=b:=ew
 rw[e1,ep] at e0
 rw[gen S,eq]
 generalize x.numbers.flatMap (yU 4)++yU 8 x.shelf=mid at *
 generalize (x.sheets.flatMap (fun (s:Uv)=>yU 4 s.glass++(yU 4 s.w++(yU 4 s.h++yU 4 s.turns)))++
 (x.kinds.flatMap (fun (k:xB)=>yU 4 k.heat++yU 4 k.hold)++(x.glass.flatMap GP++x.paint.flatMap fun (p:Gla.Light×Gla.Coats)=>GP p.1++Gla.coatBytes p.2)))=tail at *
 have hm:Gla.WORKSHOP.length=4:=rfl
 unfold newB
 have a1:b.take 4=jL:=h.mag
 have l8:(jL++yU 4 (QG b).length).length=8:=by rw[yt,Yi,hm]
 have a2:(b.drop 8).take 72=mid:=by
  have e5:=congrArg (fun l=>(List.drop 8 l).take 72) e0
  simp only[xh (jL++_)] at e5
  rw[List.drop_left' l8,xh mid,List.take_left' hn] at e5
  exact e5
 have a3:b.drop (yb b).1=tail:=by
  have l3:(jL++yU 4 (QG b).length++mid++QG b).length=(yb b).1:=by
   rw[yt,yt,l8,hn,hc,hp]
  have e5:=congrArg (List.drop (yb b).1) e0
  rw[List.drop_left' l3] at e5
  exact e5
 rw[a1,a2,a3]
def wiAns(b q:ye):List V:=match orW ZE b with
 | some x=>[.int (-5),.int (x.1:Int),.int (x.2:Int)]
 | none=>match ZO q with
  | some x=>[.int (-5),.int ((x.1+32:Nat):Int),.int (x.2:Int)]
  | none=>.int 0::.int ((newB b q).length:Int)::bl (newB b q)
def spWi(K:z8):Sp:=fun vs H Q _=>∃(a c:Addr)(b q:ye),vs=[.ref a,.ref c]∧SqL K H a (bl b)∧SqL K H c (bl q)∧b.length≤100000∧q.length≤100000∧∀ H' l,Qp H H'→H' l=some (.lst (wiAns b q))→Q (.ref l) H'
theorem plan_rule(q:ye):(match ja q with
  | .error e=>some (e.rule,e.place)
  | .ok _=>none)=ZO q:=by
 unfold ZO
 rw[Y8,←fault_eq]
 generalize X3 q=o
 generalize (jJ q).fault=o2
 cases o with
 | some f=>rfl
 | none=>cases o2 <;> rfl
theorem with_due{l m:List Int}(h:∀ z∈l,0≤z∧z≤255)(hl:l.length≤100000)(h2:∀ z∈m,0≤z∧z≤255)(hm:m.length≤100000):wiAns (toB l) (toB m)=(PyYqglia.with_cartoon l m).map V.int:=by
 unfold wiAns
 rw[←zN,←plan_rule]
 have e:PyYqglia.with_cartoon l m=PageNeutral.told (GlaPages.answer (.with_ (toB l) (toB m))):=by
  have c:PageNeutral.callOf [[5],l,m]=(PageNeutral.bytes l).bind fun b=>(PageNeutral.bytes m).bind fun q=>some (.with_ b q):=rfl
  unfold PyYqglia.with_cartoon PageNeutral.f
  rw[c,YC h,YC h2]
  rfl
 rw[e]
 show _=(PageNeutral.told (if GlaPages.BYTES<(toB m).length then GlaPages.LARGE else GlaPages.ofShop (toB l) fun (x:xT)=>match ja (toB m) with
  | .error e=>GlaPages.fault 32 e
  | .ok S=>.bytes (x5 { x with plan:=S }))).map V.int
 rw[if_neg (by rw[toB_len];show ¬ 131072<m.length;lia)]
 unfold GlaPages.ofShop
 rw[if_neg (by rw[toB_len];show ¬ 1048576<l.length;lia)]
 cases q:GA (toB l) with
 | error x=>rfl
 | ok x=>
  have k:=zM q
  cases p:ja (toB m) with
  | error y=>rfl
  | ok S=>
   show _=(PageNeutral.told (.bytes (x5 { x with plan:=S }))).map V.int
   rw[told_bytes,write_new k p]
   rfl
abbrev sWi:Stmt:=top 89
theorem scWi:Qm ["workshop","cartoon","answer","fault"] ["workshop","cartoon"] (defScope sWi):=⟨rfl,rfl,rfl,by decide +kernel,rfl,by decide +kernel,by decide +kernel⟩
theorem newB_len(b q:ye):(newB b q).length≤76+4+q.length+b.length:=by
 unfold newB
 simp only[yt,Yi,yB,yG]
 lia
section
variable {P:Program} {w:World} {K:z8} {mg:Str→Option Value} {base:Heap} {C:Addr}
theorem ok_wi{f:Addr}{fd:FuncData}(F:Fun K "with_cartoon" "with_cartoon" sWi f fd)(U:Txt K mg)(gM:GI mg "MOST_CARTOON_BYTES" 131072) (g6:GI mg "TOO_LONG" (-6)) (g32:GI mg "CARTOON_RULES" 32) (J:Has P w K mg base 10 "judge" ["workshop"] (spJ K (orW ZE))) (Cf:Has P w K mg base 7 "cartoon_fault" ["octets"] (Jl K ZO)) (Rf:Has P w K mg base 1 "refusal" ["fault","more"] (spRf K)) (Cc:Has P w K mg base 3 "changed_cartoon" ["workshop","cartoon"] (spCC K)) (Ct:Has P w K mg base 1 "counted" ["octets"] (spCtd K)):QI P w K mg base CX0 11 f fd ["workshop","cartoon"] (spWi K):=by
 refine F.ok scWi (fun vs H Q E h=>?_) (fun cdv A outer s H vs Q E hr h=>?_)
 ·obtain⟨a,c,b,q,rfl,_⟩:=h
  rfl
 ·obtain⟨a,c,b,q,rfl,hS,hC,hbl,hql,k⟩:=h
  refine⟨_,Qb (QH (Qu Ze (QL Qw (by rfl) U.len PySem.boot_len (Qa (pv 1) Qc)) (QS gM) (Qo _)) (Qe (Qi (ZD (Qa (QS g6) Qc)))) Qr)
   (Qb (Qs (i:=2) scWi.nd rfl (Or.inl rfl) (Qt J hr (Qa (pv 0) Qc)))
   (Qb (QH (Qu ZL (Qx QC (pv 2) Qg (fun _ _=>rfl)) Qg (Qo _)) (Qe (Qi (pv 2))) Qr)
   (Qb (Qs (i:=3) scWi.nd rfl (Or.inl rfl) (Qt Cf (hr.mono (by decide)) (Qa (pv 1) Qc)))
   (Qb (QH (Zg (ZR (pv 3))) (Qe (Qi (Qt Rf (hr.mono (by decide)) (Qa (pv 3) (Qa (QS g32) Qc))))) Qr)
   (Qe (Qi (Qt Ct (hr.mono (by decide)) (Qa (Qt Cc (hr.mono (by decide)) (Qa (pv 0) (Qa (pv 1) Qc))) Qc)))))))),?_⟩
  refine⟨_,rfl,c,_,rfl,.inl hC,_,_,rfl,rfl,_,rfl,Qz (fun h1=>?_) (fun h1=>?_)⟩
  ·exfalso
   have h1:(131072:Int)<((bl q).length:Int):=of_decide_eq_true h1
   rw[QJ] at h1
   lia
  refine⟨_,rfl,a,b,rfl,hS,hbl,fun H1 l s1 h1=>?_⟩
  unfold wiAns at k
  cases e:orW ZE b with
  | some x=>
   rw[e] at h1 k
   refine⟨_,rfl,l,_,_,_,rfl,rfl,SqL.of h1,Qj (j:=0) rfl,_,_,rfl,rfl,_,rfl,Qz (fun h3=>?_) (fun h3=>absurd (by decide) h3)⟩
   exact⟨_,rfl,k H1 l s1 h1⟩
  | none=>
   rw[e] at h1 k
   refine⟨_,rfl,l,_,_,_,rfl,rfl,SqL.of h1,Qj (j:=0) rfl,_,_,rfl,rfl,_,rfl,Qz (fun h3=>absurd h3 (by decide)) (fun h3=>?_)⟩
   refine⟨_,rfl,c,q,rfl,s1.seq hC,hql,fun H2 v s2' hv=>?_⟩
   have s2:=s1.trans s2'
   cases e2:ZO q with
   | some x=>
    rw[e2] at hv k
    obtain⟨z,rfl,hz⟩:=hv
    refine⟨_,rfl,_,rfl,Qz (fun h3=>?_) (fun h3=>absurd (by simp) h3)⟩
    exact⟨_,rfl,z,x,32,rfl,hz,fun H3 l3 s3 h3=>k _ _ (s2.trans s3) h3⟩
   | none=>
    rw[e2] at hv k
    have hv:v=.non:=hv
    subst hv
    refine⟨_,rfl,_,rfl,Qz (fun h3=>absurd h3 (by simp)) (fun h3=>?_)⟩
    refine⟨_,rfl,_,rfl,a,c,b,q,rfl,s2.seq hS,s2.seq hC,hbl,hql,fun H3 l3 s3 h3=>?_⟩
    refine⟨l3,newB b q,rfl,h3,?_,fun H4 l4 s4 h4=>k _ _ ((s2.trans s3).trans s4) h4⟩
    have:=newB_len b q
    lia
end
structure TopX(K:z8):Prop where
 dOO:QE K "octets_of" "octets_of" sOO
 dCC:QE K "changed_cartoon" "changed_cartoon" sCC
 gB:Zz K "MOST_CARTOON_BYTES" 131072
 g32:Zz K "CARTOON_RULES" 32
theorem all_with{P:Program}{w:World}{K:z8}{mg:Str→Option Value}{h:Heap}{C fa:Addr}(KX:K.In h)(G:h.Ns mainGlobals mg) (hfa:mg "with_cartoon" = some (.ref fa)) (T:ZX K C) (D:QE K "with_cartoon" "with_cartoon" sWi) (Tc:TopC K) (Tx:TopX K) :
  ∃ fd:FuncData,(∀(s:Shared)(us:List Value),us.length=(["workshop","cartoon"]:List Str).length→BindsTo s fd ⟨us,[]⟩ ((["workshop","cartoon"]:List Str).zip us))∧∀ base:Heap,K.In base→base.Ns mainGlobals mg→QI P w K mg base CX0 11 fa fd ["workshop","cartoon"] (spWi K):=by
 obtain⟨f,oc,od,kV,dc,pm,an,cd,ct,sl,n,l,c,kp⟩:=D.ex
 have e:=hfa.symm.trans (x6 KX G n)
 cases e
 have F:=zT (st:=sWi) l c kp
 refine⟨jj "with_cartoon" "with_cartoon" (defArgs sWi) (defBody sWi) (defScope sWi) .none kV dc pm an cd ct,fun s us hu=>match us,hu with | [_,_],_=>.of_eq rfl,fun base _ _=>?_⟩
 have hOO:Has P w K mg base 1 "octets_of" ["number","size"] spOO:=Tx.dOO.has KX G (fun _ _ _ _ _ _ us hl=>match us,hl with | [_,_],_=>rfl) fun f fd F=>ok_oo F (T.txt KX G)
 have hCC:Has P w K mg base 3 "changed_cartoon" ["workshop","cartoon"] (spCC K):=Tx.dCC.has KX G (fun _ _ _ _ _ _ us hl=>match us,hl with | [_,_],_=>rfl) fun f fd F=>ok_cc F (T.txtW KX G) (T.txt KX G) (T.hPlc KX G) hOO
 exact ok_wi F (T.txt KX G) (Tx.gB.gi KX G) (Tc.g6.gi KX G) (Tx.g32.gi KX G) (Tc.hJ T KX G) (T.hCf KX G) (Tc.hRf KX G) hCC (Tc.hCtd T KX G)
end Gp
set_option Elab.async false
set_option linter.all false
set_option maxRecDepth 100000
namespace Hd
open PySem PySem.W PyProof.Rows Gp
noncomputable def q:Program:=PySem.W.view PySem.Challenge.pw_glasspages_s05_with_cartoon [89]
def ls:List Str:=(["number_at","octets_of","CARTOON_SIGN","HEAD_BYTES_drawing","POINT_BYTES","LINE_BYTES","MARK_BYTES","Drawing","pairs_at","row_places","drawing_of","turn","is_between","is_on","parts","crosses","comes_behind","wrong_point","line_comes_behind","wrong_line","lacks_corner","edge_rows","open_frame","holds_point","crosses_earlier","entangled_line","is_within_frame","is_on_some_line","wrong_mark","is_step_below","is_higher","step_under","side","is_further_left","step_after","outline","crowding_mark","unmarked_pane","NO_POINT","loose_point","reached","unreached_point","parting_point","HEAD_BOUNDS_cartoon","head_fault","head_fault_cartoon","drawing_fault","cartoon_fault","WORKSHOP_SIGN","HEAD_BYTES_workshop","SHEET_BYTES","KIND_BYTES","GLASS_BYTES","PAINTING_BYTES","BANDS_BYTES","MOST_COATS","HEAD_BOUNDS_workshop","SHEET_BOUNDS","KIND_BOUNDS","out_of_bounds","part_places","cartoon_within","changed_cartoon","wrong_sheet","wrong_kind","is_right_coat","wrong_coat","wrong_painting","head_fault_workshop","parts_fault","workshop_fault","MOST_WORKSHOP_BYTES","MOST_CARTOON_BYTES","TOO_LONG","BROKEN_RULE","CARTOON_RULES","refusal","judge","counted"]:List String).map Str.ofString
noncomputable def Xt (s:Shared):Bool:=xlAt q [] s&&recOk [] s
def en(P:Params)(k:Str)(t:Nat)(v:Value):DictEntry:=⟨PyData.keyHash P k,.str k t,v⟩
def co(n q:Str)(t:Nat)(i j fl:Int)(k u:Nat):Obj:=⟨.type "code",none,.fields #[.str n t,.str q (t+1),.str "/claim/cut.py" (t+2),.int i 0,.int j 0,.int 0 0,.int 0 0,.int fl 0,.ref k,.bool true,.int 181 0,.ref (k+1),.none,.ref (k+2),.ref (k+3),.ref (k+4),.int u 0,.int i 0,.str "/claim/cut.py" (u+1)],#[]⟩
noncomputable def fo (n q:Str) (s:Stmt) (m:Str) (t c:Nat):Obj:=⟨.type "function",none,.func (jj n q (L2.defArgs s) (L2.defBody s) (L2.defScope s) .none .none .none (.str m t) none (.ref c) .none),#[]⟩
def tu(x:Array Value):Obj:=⟨.type "tuple",none,.seq x 0,#[]⟩
noncomputable def K (P:Params):Frag:=
(nat_lit 2,⟨.none,none,.dict #[] 0,#[]⟩)::
(nat_lit 3,⟨.type "dict",none,.dict #[en P "__name__" 165 (.str "glasspages.pages" 907),en P "__doc__" 166 .none,en P "__package__" 167 .none,en P "__loader__" 168 (.builtin "__main__.__loader__#opaque"),en P "__spec__" 169 .none,en P "__annotations__" 170 (.ref 6),en P "__builtins__" 171 (.ref 4),en P "__file__" 173 (.str "/claim/cut.py" 172),en P "__cached__" 174 .none,en P "number_at" 199 (.ref 21),en P "octets_of" 209 (.ref 28),en P "CARTOON_SIGN" 216 (.ref 29),en P "HEAD_BYTES_drawing" 218 (.int 20 217),en P "POINT_BYTES" 220 (.int 8 219),en P "LINE_BYTES" 222 (.int 4 221),en P "MARK_BYTES" 224 (.int 12 223),en P "Drawing" 298 (.ref 79),en P "pairs_at" 312 (.ref 90),en P "row_places" 321 (.ref 97),en P "drawing_of" 329 (.ref 104),en P "turn" 341 (.ref 111),en P "is_between" 350 (.ref 118),en P "is_on" 359 (.ref 125),en P "parts" 371 (.ref 132),en P "crosses" 381 (.ref 139),en P "comes_behind" 389 (.ref 146),en P "wrong_point" 400 (.ref 153),en P "line_comes_behind" 408 (.ref 160),en P "wrong_line" 417 (.ref 167),en P "lacks_corner" 423 (.ref 172),en P "edge_rows" 429 (.ref 177),en P "open_frame" 441 (.ref 184),en P "holds_point" 452 (.ref 191),en P "crosses_earlier" 464 (.ref 198),en P "entangled_line" 473 (.ref 205),en P "is_within_frame" 483 (.ref 212),en P "is_on_some_line" 492 (.ref 219),en P "wrong_mark" 501 (.ref 226),en P "is_step_below" 512 (.ref 233),en P "is_higher" 525 (.ref 240),en P "step_under" 537 (.ref 247),en P "side" 544 (.ref 254),en P "is_further_left" 558 (.ref 261),en P "step_after" 569 (.ref 268),en P "outline" 580 (.ref 275),en P "crowding_mark" 593 (.ref 282),en P "unmarked_pane" 601 (.ref 289),en P "NO_POINT" 606 (.int (-1) 605),en P "loose_point" 615 (.ref 296),en P "reached" 628 (.ref 303),en P "unreached_point" 637 (.ref 310),en P "parting_point" 647 (.ref 317),en P "HEAD_BOUNDS_cartoon" 674 (.ref 324),en P "head_fault" 683 (.ref 439),en P "head_fault_cartoon" 684 (.ref 331),en P "drawing_fault" 695 (.ref 338),en P "cartoon_fault" 703 (.ref 345),en P "WORKSHOP_SIGN" 710 (.ref 346),en P "HEAD_BYTES_workshop" 712 (.int 80 711),en P "SHEET_BYTES" 714 (.int 16 713),en P "KIND_BYTES" 716 (.int 8 715),en P "GLASS_BYTES" 718 (.int 64 717),en P "PAINTING_BYTES" 720 (.int 69 719),en P "BANDS_BYTES" 722 (.int 64 721),en P "MOST_COATS" 724 (.int 4 723),en P "HEAD_BOUNDS_workshop" 773 (.ref 363),en P "SHEET_BOUNDS" 786 (.ref 368),en P "KIND_BOUNDS" 793 (.ref 371),en P "out_of_bounds" 804 (.ref 378),en P "part_places" 816 (.ref 385),en P "cartoon_within" 823 (.ref 392),en P "changed_cartoon" 832 (.ref 399),en P "wrong_sheet" 841 (.ref 406),en P "wrong_kind" 850 (.ref 413),en P "is_right_coat" 861 (.ref 420),en P "wrong_coat" 871 (.ref 427),en P "wrong_painting" 877 (.ref 432),en P "head_fault_workshop" 886 (.ref 439),en P "parts_fault" 898 (.ref 446),en P "workshop_fault" 906 (.ref 453),en P "MOST_WORKSHOP_BYTES" 910 (.int 1048576 909),en P "MOST_CARTOON_BYTES" 912 (.int 131072 911),en P "TOO_LONG" 915 (.int (-6) 914),en P "BROKEN_RULE" 918 (.int (-5) 917),en P "CARTOON_RULES" 920 (.int 32 919),en P "refusal" 928 (.ref 460),en P "judge" 936 (.ref 467),en P "counted" 943 (.ref 474),en P "with_cartoon" 953 (.ref 481)] 89,#[]⟩)::
(nat_lit 20,co "number_at" "number_at" 189 2 3 3 15 197)::
(nat_lit 21,fo "number_at" "number_at" (top 1) "glasspages.octets" 187 20)::
(nat_lit 27,co "octets_of" "octets_of" 200 7 2 3 22 207)::
(nat_lit 28,fo "octets_of" "octets_of" (top 2) "glasspages.octets" 187 27)::
(nat_lit 29,tu #[.int 71 212,.int 76 213,.int 65 214,.int 49 215])::
(nat_lit 42,co "__init__" "Drawing.__init__" 237 22 6 3 37 246)::
(nat_lit 43,fo "__init__" "Drawing.__init__" (L2.inClass (top 9) 0) "glasspages.drawing" 210 42)::
(nat_lit 49,co "point_place" "Drawing.point_place" 249 29 2 3 44 254)::
(nat_lit 50,fo "point_place" "Drawing.point_place" (L2.inClass (top 9) 1) "glasspages.drawing" 210 49)::
(nat_lit 56,co "line_place" "Drawing.line_place" 257 32 2 3 51 262)::
(nat_lit 57,fo "line_place" "Drawing.line_place" (L2.inClass (top 9) 2) "glasspages.drawing" 210 56)::
(nat_lit 63,co "mark_place" "Drawing.mark_place" 265 35 2 3 58 270)::
(nat_lit 64,fo "mark_place" "Drawing.mark_place" (L2.inClass (top 9) 3) "glasspages.drawing" 210 63)::
(nat_lit 70,co "byte_count" "Drawing.byte_count" 273 38 1 3 65 277)::
(nat_lit 71,fo "byte_count" "Drawing.byte_count" (L2.inClass (top 9) 4) "glasspages.drawing" 210 70)::
(nat_lit 75,⟨.type "code",none,.fields #[.str "neighbours" 280,.str "Drawing.neighbours" 281,.str "/claim/cut.py" 282,.int 41 0,.int 1 0,.int 0 0,.int 0 0,.int 3 0,.ref 72,.bool true,.int 181 0,.ref 73,.none,.none,.none,.ref 74,.int 283 0,.int 41 0,.str "/claim/cut.py" 284],#[]⟩)::
(nat_lit 76,fo "neighbours" "Drawing.neighbours" (L2.inClass (top 9) 5) "glasspages.drawing" 210 75)::
(nat_lit 77,tu #[.str "height" 286,.str "lines" 287,.str "marks" 288,.str "points" 289,.str "width" 290])::
(nat_lit 78,⟨.type "dict",none,.dict #[en P "__module__" 232 (.str "glasspages.drawing" 210),en P "__firstlineno__" 236 (.int 20 235),en P "__init__" 248 (.ref 43),en P "point_place" 256 (.ref 50),en P "line_place" 264 (.ref 57),en P "mark_place" 272 (.ref 64),en P "byte_count" 279 (.ref 71),en P "neighbours" 285 (.ref 76),en P "__static_attributes__" 291 (.ref 77),en P "__dict__" 293 (.ref 80),en P "__weakref__" 295 (.ref 81),en P "__doc__" 296 .none] 4,#[]⟩)::
(nat_lit 79,⟨.type "type",none,.cls { name := "Drawing",bases:=[(.type "object")],mro:=[(.ref 79),(.type "object")],ns:=78,qualname := "Drawing" },#[none,none,(some (.str "Drawing" 225)),(some (.str "Drawing" 233)),(some (.builtin "object.__new__")),(some (.bool true))]⟩)::
(nat_lit 80,⟨.type "getset_descriptor",none,.fields #[.str "__dict__" 292,.ref 79,.builtin "function.__dict__",.builtin "function.__dict__#set"],#[]⟩)::
(nat_lit 81,⟨.type "getset_descriptor",none,.fields #[.str "__weakref__" 294,.ref 79,.builtin "ExceptionGroup.__weakref__",.none],#[]⟩)::
(nat_lit 89,co "pairs_at" "pairs_at" 299 47 5 3 84 310)::
(nat_lit 90,fo "pairs_at" "pairs_at" (top 10) "glasspages.drawing" 210 89)::
(nat_lit 96,co "row_places" "row_places" 313 53 1 3 91 319)::
(nat_lit 97,fo "row_places" "row_places" (top 11) "glasspages.drawing" 210 96)::
(nat_lit 103,co "drawing_of" "drawing_of" 322 57 1 3 98 327)::
(nat_lit 104,fo "drawing_of" "drawing_of" (top 12) "glasspages.drawing" 210 103)::
(nat_lit 110,co "turn" "turn" 332 61 3 3 105 339)::
(nat_lit 111,fo "turn" "turn" (top 14) "glasspages.geometry" 330 110)::
(nat_lit 117,co "is_between" "is_between" 342 64 3 3 112 348)::
(nat_lit 118,fo "is_between" "is_between" (top 15) "glasspages.geometry" 330 117)::
(nat_lit 124,co "is_on" "is_on" 351 68 3 3 119 357)::
(nat_lit 125,fo "is_on" "is_on" (top 16) "glasspages.geometry" 330 124)::
(nat_lit 131,co "parts" "parts" 360 72 4 3 126 369)::
(nat_lit 132,fo "parts" "parts" (top 17) "glasspages.geometry" 330 131)::
(nat_lit 138,co "crosses" "crosses" 372 78 4 3 133 379)::
(nat_lit 139,fo "crosses" "crosses" (top 18) "glasspages.geometry" 330 138)::
(nat_lit 145,co "comes_behind" "comes_behind" 382 80 2 3 140 387)::
(nat_lit 146,fo "comes_behind" "comes_behind" (top 19) "glasspages.geometry" 330 145)::
(nat_lit 152,co "wrong_point" "wrong_point" 392 85 1 3 147 398)::
(nat_lit 153,fo "wrong_point" "wrong_point" (top 21) "glasspages.layout" 390 152)::
(nat_lit 159,co "line_comes_behind" "line_comes_behind" 401 92 2 3 154 406)::
(nat_lit 160,fo "line_comes_behind" "line_comes_behind" (top 22) "glasspages.layout" 390 159)::
(nat_lit 166,co "wrong_line" "wrong_line" 409 96 1 3 161 415)::
(nat_lit 167,fo "wrong_line" "wrong_line" (top 23) "glasspages.layout" 390 166)::
(nat_lit 171,⟨.type "code",none,.fields #[.str "lacks_corner" 418,.str "lacks_corner" 419,.str "/claim/cut.py" 420,.int 103 0,.int 1 0,.int 0 0,.int 0 0,.int 3 0,.ref 168,.bool true,.int 181 0,.ref 169,.none,.none,.none,.ref 170,.int 421 0,.int 103 0,.str "/claim/cut.py" 422],#[]⟩)::
(nat_lit 172,fo "lacks_corner" "lacks_corner" (top 24) "glasspages.layout" 390 171)::
(nat_lit 176,⟨.type "code",none,.fields #[.str "edge_rows" 424,.str "edge_rows" 425,.str "/claim/cut.py" 426,.int 106 0,.int 1 0,.int 0 0,.int 0 0,.int 3 0,.ref 173,.bool true,.int 181 0,.ref 174,.none,.none,.none,.ref 175,.int 427 0,.int 106 0,.str "/claim/cut.py" 428],#[]⟩)::
(nat_lit 177,fo "edge_rows" "edge_rows" (top 25) "glasspages.layout" 390 176)::
(nat_lit 183,co "open_frame" "open_frame" 430 109 1 3 178 439)::
(nat_lit 184,fo "open_frame" "open_frame" (top 26) "glasspages.layout" 390 183)::
(nat_lit 190,co "holds_point" "holds_point" 442 120 2 3 185 450)::
(nat_lit 191,fo "holds_point" "holds_point" (top 27) "glasspages.layout" 390 190)::
(nat_lit 197,co "crosses_earlier" "crosses_earlier" 453 127 2 3 192 462)::
(nat_lit 198,fo "crosses_earlier" "crosses_earlier" (top 28) "glasspages.layout" 390 197)::
(nat_lit 204,co "entangled_line" "entangled_line" 465 135 1 3 199 471)::
(nat_lit 205,fo "entangled_line" "entangled_line" (top 29) "glasspages.layout" 390 204)::
(nat_lit 211,co "is_within_frame" "is_within_frame" 476 141 2 3 206 481)::
(nat_lit 212,fo "is_within_frame" "is_within_frame" (top 31) "glasspages.panes" 474 211)::
(nat_lit 218,co "is_on_some_line" "is_on_some_line" 484 145 2 3 213 490)::
(nat_lit 219,fo "is_on_some_line" "is_on_some_line" (top 32) "glasspages.panes" 474 218)::
(nat_lit 225,co "wrong_mark" "wrong_mark" 493 150 1 3 220 499)::
(nat_lit 226,fo "wrong_mark" "wrong_mark" (top 33) "glasspages.panes" 474 225)::
(nat_lit 232,co "is_step_below" "is_step_below" 502 157 3 3 227 510)::
(nat_lit 233,fo "is_step_below" "is_step_below" (top 34) "glasspages.panes" 474 232)::
(nat_lit 239,co "is_higher" "is_higher" 513 161 3 3 234 523)::
(nat_lit 240,fo "is_higher" "is_higher" (top 35) "glasspages.panes" 474 239)::
(nat_lit 246,co "step_under" "step_under" 526 171 2 3 241 535)::
(nat_lit 247,fo "step_under" "step_under" (top 36) "glasspages.panes" 474 246)::
(nat_lit 253,co "side" "side" 538 179 1 3 248 542)::
(nat_lit 254,fo "side" "side" (top 37) "glasspages.panes" 474 253)::
(nat_lit 260,co "is_further_left" "is_further_left" 545 183 4 3 255 556)::
(nat_lit 261,fo "is_further_left" "is_further_left" (top 38) "glasspages.panes" 474 260)::
(nat_lit 267,co "step_after" "step_after" 559 191 3 3 262 567)::
(nat_lit 268,fo "step_after" "step_after" (top 39) "glasspages.panes" 474 267)::
(nat_lit 274,co "outline" "outline" 570 197 3 3 269 578)::
(nat_lit 275,fo "outline" "outline" (top 40) "glasspages.panes" 474 274)::
(nat_lit 281,co "crowding_mark" "crowding_mark" 581 204 1 3 276 591)::
(nat_lit 282,fo "crowding_mark" "crowding_mark" (top 41) "glasspages.panes" 474 281)::
(nat_lit 288,co "unmarked_pane" "unmarked_pane" 594 214 1 3 283 599)::
(nat_lit 289,fo "unmarked_pane" "unmarked_pane" (top 42) "glasspages.panes" 474 288)::
(nat_lit 295,co "loose_point" "loose_point" 607 221 1 3 290 613)::
(nat_lit 296,fo "loose_point" "loose_point" (top 45) "glasspages.ways" 602 295)::
(nat_lit 302,co "reached" "reached" 616 226 3 3 297 626)::
(nat_lit 303,fo "reached" "reached" (top 46) "glasspages.ways" 602 302)::
(nat_lit 309,co "unreached_point" "unreached_point" 629 236 1 3 304 635)::
(nat_lit 310,fo "unreached_point" "unreached_point" (top 47) "glasspages.ways" 602 309)::
(nat_lit 316,co "parting_point" "parting_point" 638 242 1 3 311 645)::
(nat_lit 317,fo "parting_point" "parting_point" (top 48) "glasspages.ways" 602 316)::
(nat_lit 318,tu #[.int 4 650,.int 4 651,.int 16 652,.int 1048575 653])::
(nat_lit 319,tu #[.int 8 654,.int 4 655,.int 16 656,.int 1048575 657])::
(nat_lit 320,tu #[.int 12 658,.int 2 659,.int 4 660,.int 4096 661])::
(nat_lit 321,tu #[.int 14 662,.int 2 663,.int 4 664,.int 8192 665])::
(nat_lit 322,tu #[.int 16 666,.int 2 667,.int 1 668,.int 2048 669])::
(nat_lit 323,tu #[.int 18 670,.int 2 671,.int 0 672,.int 0 673])::
(nat_lit 324,tu #[.ref 318,.ref 319,.ref 320,.ref 321,.ref 322,.ref 323])::
(nat_lit 330,co "head_fault" "head_fault" 675 251 1 3 325 681)::
(nat_lit 331,fo "head_fault" "head_fault" (top 51) "glasspages.cartoon" 648 330)::
(nat_lit 337,co "drawing_fault" "drawing_fault" 685 264 1 3 332 693)::
(nat_lit 338,fo "drawing_fault" "drawing_fault" (top 53) "glasspages.cartoon" 648 337)::
(nat_lit 344,co "cartoon_fault" "cartoon_fault" 696 271 1 3 339 701)::
(nat_lit 345,fo "cartoon_fault" "cartoon_fault" (top 54) "glasspages.cartoon" 648 344)::
(nat_lit 346,tu #[.int 71 706,.int 76 707,.int 65 708,.int 87 709])::
(nat_lit 347,tu #[.int 8 725,.int 0 726,.int 1000 727])::
(nat_lit 348,tu #[.int 12 728,.int 1 729,.int 1000 730])::
(nat_lit 349,tu #[.int 16 731,.int 0 732,.int 1000 733])::
(nat_lit 350,tu #[.int 20 734,.int 1 735,.int 1000 736])::
(nat_lit 351,tu #[.int 24 737,.int 0 738,.int 65535 739])::
(nat_lit 352,tu #[.int 28 740,.int 0 741,.int 1000 742])::
(nat_lit 353,tu #[.int 32 743,.int 1 744,.int 1000 745])::
(nat_lit 354,tu #[.int 36 746,.int 1 747,.int 16777215 748])::
(nat_lit 355,tu #[.int 40 749,.int 0 750,.int 65535 751])::
(nat_lit 356,tu #[.int 44 752,.int 0 753,.int 65535 754])::
(nat_lit 357,tu #[.int 48 755,.int 0 756,.int 65535 757])::
(nat_lit 358,tu #[.int 52 758,.int 1 759,.int 255 760])::
(nat_lit 359,tu #[.int 56 761,.int 0 762,.int 1024 763])::
(nat_lit 360,tu #[.int 60 764,.int 0 765,.int 16 766])::
(nat_lit 361,tu #[.int 64 767,.int 0 768,.int 256 769])::
(nat_lit 362,tu #[.int 68 770,.int 0 771,.int 256 772])::
(nat_lit 363,tu #[.ref 347,.ref 348,.ref 349,.ref 350,.ref 351,.ref 352,.ref 353,.ref 354,.ref 355,.ref 356,.ref 357,.ref 358,.ref 359,.ref 360,.ref 361,.ref 362])::
(nat_lit 364,tu #[.int 0 774,.int 0 775,.int 65535 776])::
(nat_lit 365,tu #[.int 4 777,.int 1 778,.int 16777215 779])::
(nat_lit 366,tu #[.int 8 780,.int 1 781,.int 16777215 782])::
(nat_lit 367,tu #[.int 12 783,.int 0 784,.int 1 785])::
(nat_lit 368,tu #[.ref 364,.ref 365,.ref 366,.ref 367])::
(nat_lit 369,tu #[.int 0 787,.int 1 788,.int 1400 789])::
(nat_lit 370,tu #[.int 4 790,.int 0 791,.int 9999 792])::
(nat_lit 371,tu #[.ref 369,.ref 370])::
(nat_lit 377,co "out_of_bounds" "out_of_bounds" 794 288 3 3 372 802)::
(nat_lit 378,fo "out_of_bounds" "out_of_bounds" (top 67) "glasspages.workshop" 704 377)::
(nat_lit 384,co "part_places" "part_places" 805 294 1 3 379 814)::
(nat_lit 385,fo "part_places" "part_places" (top 68) "glasspages.workshop" 704 384)::
(nat_lit 391,co "cartoon_within" "cartoon_within" 817 301 1 3 386 821)::
(nat_lit 392,fo "cartoon_within" "cartoon_within" (top 69) "glasspages.workshop" 704 391)::
(nat_lit 398,co "changed_cartoon" "changed_cartoon" 824 303 2 3 393 830)::
(nat_lit 399,fo "changed_cartoon" "changed_cartoon" (top 70) "glasspages.workshop" 704 398)::
(nat_lit 405,co "wrong_sheet" "wrong_sheet" 833 306 2 3 400 839)::
(nat_lit 406,fo "wrong_sheet" "wrong_sheet" (top 71) "glasspages.workshop" 704 405)::
(nat_lit 412,co "wrong_kind" "wrong_kind" 842 311 2 3 407 848)::
(nat_lit 413,fo "wrong_kind" "wrong_kind" (top 72) "glasspages.workshop" 704 412)::
(nat_lit 419,co "is_right_coat" "is_right_coat" 851 316 4 3 414 859)::
(nat_lit 420,fo "is_right_coat" "is_right_coat" (top 73) "glasspages.workshop" 704 419)::
(nat_lit 426,co "wrong_coat" "wrong_coat" 862 323 3 3 421 869)::
(nat_lit 427,fo "wrong_coat" "wrong_coat" (top 74) "glasspages.workshop" 704 426)::
(nat_lit 431,⟨.type "code",none,.fields #[.str "wrong_painting" 872,.str "wrong_painting" 873,.str "/claim/cut.py" 874,.int 330 0,.int 2 0,.int 0 0,.int 0 0,.int 3 0,.ref 428,.bool true,.int 181 0,.ref 429,.none,.none,.none,.ref 430,.int 875 0,.int 330 0,.str "/claim/cut.py" 876],#[]⟩)::
(nat_lit 432,fo "wrong_painting" "wrong_painting" (top 75) "glasspages.workshop" 704 431)::
(nat_lit 438,co "head_fault" "head_fault" 878 337 1 3 433 883)::
(nat_lit 439,fo "head_fault" "head_fault" (top 76) "glasspages.workshop" 704 438)::
(nat_lit 445,co "parts_fault" "parts_fault" 887 349 2 3 440 896)::
(nat_lit 446,fo "parts_fault" "parts_fault" (top 78) "glasspages.workshop" 704 445)::
(nat_lit 452,co "workshop_fault" "workshop_fault" 899 358 1 3 447 904)::
(nat_lit 453,fo "workshop_fault" "workshop_fault" (top 79) "glasspages.workshop" 704 452)::
(nat_lit 459,co "refusal" "refusal" 921 369 2 3 454 926)::
(nat_lit 460,fo "refusal" "refusal" (top 86) "glasspages.pages" 907 459)::
(nat_lit 466,co "judge" "judge" 929 371 1 3 461 934)::
(nat_lit 467,fo "judge" "judge" (top 87) "glasspages.pages" 907 466)::
(nat_lit 473,co "counted" "counted" 937 378 1 3 468 941)::
(nat_lit 474,fo "counted" "counted" (top 88) "glasspages.pages" 907 473)::
(nat_lit 480,co "with_cartoon" "with_cartoon" 944 380 2 3 475 951)::
(nat_lit 481,fo "with_cartoon" "with_cartoon" (top 89) "glasspages.pages" 907 480)::
[]
def as:List Addr:=[2,3,20,21,27,28,29,42,43,49,50,56,57,63,64,70,71,75,76,77,78,79,80,81,89,90,96,97,103,104,110,111,117,118,124,125,131,132,138,139,145,146,152,153,159,160,166,167,171,172,176,177,183,184,190,191,197,198,204,205,211,212,218,219,225,226,232,233,239,240,246,247,253,254,260,261,267,268,274,275,281,282,288,289,295,296,302,303,309,310,316,317,318,319,320,321,322,323,324,330,331,337,338,344,345,346,347,348,349,350,351,352,353,354,355,356,357,358,359,360,361,362,363,364,365,366,367,368,369,370,371,377,378,384,385,391,392,398,399,405,406,412,413,419,420,426,427,431,432,438,439,445,446,452,453,459,460,466,467,473,474,480,481]
theorem ae:∀ P,as=(K P).map (·.1):=fun _=>by kernel_rfl
noncomputable abbrev hk:Hook:=kHook K as ae
theorem left_of{p q:Program}{loose:List Str}{Xt:Shared→Bool}{α:Type}{Yf:Shared→α}{Ya:World→α}{N:Nat}{H:Params→Heap}{gs:Array GenState}{d:Drawn}{k:Nat}
  (o:∀ w:World,(fencedOpening treeTable p w N).map (fun s=>(s.heap,s.gens,s.drawn,s.toks))=some (H w.params,gs,d,k))
  (h:∀(w:World)(os:OsState),(topFrom treeTable p w N ⟨H w.params,gs,d,k,os⟩).map (fun s=>(openSeen q loose (importedModules p.main.body) Xt true s,Yf s))=some (openGood q loose,Ya w)):LeftO p q loose Xt Yf Ya N:=by
 intro w
 obtain⟨⟨a,b,c,e,os⟩,e1,e2⟩:=Option.map_eq_some_iff.mp (o w)
 simp only[Prod.mk.injEq] at e2
 obtain⟨rfl,rfl,rfl,rfl⟩:=e2
 unfold openEnds
 rw[e1]
 exact h w os
theorem op:∀ w:World,(fencedOpening treeTable PySem.Challenge.pw_glasspages_s05_with_cartoon w 5334).map (fun s=>(s.heap,s.gens,s.drawn,s.toks))=some (boot_heap w.params,Array.mk [],boot_drawn,boot_toks):=
 boot_open (by kernel_rfl) (by decide) (fun s=>by kernel_rfl)
def Hr(w:World)(os:OsState):Prop:=(topFrom treeTable PySem.Challenge.pw_glasspages_s05_with_cartoon w 5334 ⟨boot_heap w.params,Array.mk [],boot_drawn,boot_toks,os⟩).map (fun s=>(openSeen q ls (importedModules PySem.Challenge.pw_glasspages_s05_with_cartoon.main.body) Xt true s,Hook.obs hk s))=some (openGood q ls,Hook.val hk w)
set_option maxHeartbeats 0 in
theorem hr:∀(w:World)(os:OsState),Hr w os:=by
 intro w os
 unfold Hr topFrom
 rw[PySem.W.Fast.te14082659384304107361,PySem.W.Fast.te14364793385576792824,PySem.W.Fast.te4187177175401517315]
 kernel_rfl
theorem hl:LeftO PySem.Challenge.pw_glasspages_s05_with_cartoon q ls Xt (Hook.obs hk) (Hook.val hk) 5334:=left_of op hr
end Hd
set_option Elab.async false
set_option linter.all false
set_option maxRecDepth 100000
open PySem PySem.W PyProof.Rows
set_option maxRecDepth 100000 in
set_option maxHeartbeats 0 in
theorem PySem.Challenge.cw_glasspages_s05_with_cartoon_holds : PySem.Challenge.rw_glasspages_s05_with_cartoon.Holds := by
 w_on
 refine PySem.W.holds_os (q:=Hd.q) (loose:=Hd.ls) (Xt:=Hd.Xt) (XP:=PySem.W.XL Hd.q []) (Yf:=PySem.W.Hook.obs (GB Hd.K Hd.as Hd.ae)) (Ya:=PySem.W.Hook.val (GB Hd.K Hd.as Hd.ae)) (YP:=PySem.W.Hook.says (GB Hd.K Hd.as Hd.ae)) (N:=5334) Hd.hl (PySem.W.Hook.of (GB Hd.K Hd.as Hd.ae)) (PySem.W.Hook.keeps (GB Hd.K Hd.as Hd.ae)) (fun s e=>PySem.W.xl_of s (Bool.and_eq_true_iff.mp e).1) PySem.W.XL.keeps (by rfl) (by rfl) (by rfl) (fun s e=>PySem.W.recFacts_of (Bool.and_eq_true_iff.mp e).2) (PySem.W.os_shapes) (by first | assumption | decide +kernel) (by decide +kernel) ⟨rfl,rfl,rfl,rfl,rfl,by decide +kernel⟩ ?hw ?hc
 (case hw=>exact⟨[.list [],.list []],by decide +kernel,by decide +kernel⟩)
 k_fillS
 refine L2.walk_specK (r:=PySem.Challenge.rw_glasspages_s05_with_cartoon) (k:=11) (CX:=L2.CX0) (ps:=["workshop","cartoon"]) (sp:=fun K=>Gp.spWi K) (by decide +kernel) rfl rfl ⟨rfl,by decide,by decide⟩ (fun w h Y=>PySem.W.kIn_of Y) ?F ?S (fun _ _ _ _ z=>z)
 case F=>
  intro w mg fa h Y KX G hmg
  refine' Gp.all_with KX G hmg ?T ?D ?P ?X
  (case D=>(refine' Gp.defIn_mk ?a ?b ?c ?d;(case a=>k_is);(case b=>k_is);(case c=>k_is);(case d=>k_is)))
  case T=>
   constructor
   all_goals first
    | ((with_reducible refine' Gp.defIn_mk ?a ?b ?c ?d);(case a=>k_is);(case b=>k_is);(case c=>k_is);(case d=>k_is))
    | ((with_reducible refine' Gp.intIn_mk ?a);(case a=>k_is))
    | ((with_reducible refine' Gp.notIn_mk ?a);(case a=>k_is))
    | ((with_reducible refine' Gp.noAttr_mk ?a);(case a=>k_is))
    | ((with_reducible refine' Gp.methIn_mk ?a ?i ?b ?c ?d);(case a=>k_is);(case i=>k_is);(case b=>k_is);(case c=>k_is);(case d=>k_is))
    | ((with_reducible refine' Gp.ClsIn.mk ?a ?b ?c ?d ?e ?f ?g);(case a=>k_is);(case b=>k_is);(case c=>k_is);(case d=>k_is);(case e=>k_is);(case f=>k_is);(case g=>k_is))
    | ((with_reducible refine' Gp.sgnIn_mk ?n ?t);(case n=>k_is);(case t=>(refine' Gp.tupIn_mk ?l ?z ?v;(case l=>k_is);(case z=>decide);(case v=>repeat first | exact .nil | refine' Gp.vals_int ?_))))
    | ((with_reducible refine' Gp.bndsIn_mk ?n ?l ?z ?r);(case n=>k_is);(case l=>k_is);(case z=>decide);(case r=>(repeat (refine' Gp.rowsV_mk ?h ?_;(case h=>(refine' Gp.tupIn_mk ?l ?z ?v;(case l=>k_is);(case z=>decide);(case v=>repeat first | exact .nil | refine' Gp.vals_int ?_)))));exact .nil))
  case P=>
   constructor
   all_goals first
    | ((with_reducible refine' Gp.defIn_mk ?a ?b ?c ?d);(case a=>k_is);(case b=>k_is);(case c=>k_is);(case d=>k_is))
    | ((with_reducible refine' Gp.intIn_mk ?a);(case a=>k_is))
    | ((with_reducible refine' Gp.notIn_mk ?a);(case a=>k_is))
    | ((with_reducible refine' Gp.noAttr_mk ?a);(case a=>k_is))
    | ((with_reducible refine' Gp.methIn_mk ?a ?i ?b ?c ?d);(case a=>k_is);(case i=>k_is);(case b=>k_is);(case c=>k_is);(case d=>k_is))
    | ((with_reducible refine' Gp.ClsIn.mk ?a ?b ?c ?d ?e ?f ?g);(case a=>k_is);(case b=>k_is);(case c=>k_is);(case d=>k_is);(case e=>k_is);(case f=>k_is);(case g=>k_is))
    | ((with_reducible refine' Gp.sgnIn_mk ?n ?t);(case n=>k_is);(case t=>(refine' Gp.tupIn_mk ?l ?z ?v;(case l=>k_is);(case z=>decide);(case v=>repeat first | exact .nil | refine' Gp.vals_int ?_))))
    | ((with_reducible refine' Gp.bndsIn_mk ?n ?l ?z ?r);(case n=>k_is);(case l=>k_is);(case z=>decide);(case r=>(repeat (refine' Gp.rowsV_mk ?h ?_;(case h=>(refine' Gp.tupIn_mk ?l ?z ?v;(case l=>k_is);(case z=>decide);(case v=>repeat first | exact .nil | refine' Gp.vals_int ?_)))));exact .nil))
  case X=>
   constructor
   all_goals first
    | ((with_reducible refine' Gp.defIn_mk ?a ?b ?c ?d);(case a=>k_is);(case b=>k_is);(case c=>k_is);(case d=>k_is))
    | ((with_reducible refine' Gp.intIn_mk ?a);(case a=>k_is))
    | ((with_reducible refine' Gp.notIn_mk ?a);(case a=>k_is))
    | ((with_reducible refine' Gp.noAttr_mk ?a);(case a=>k_is))
    | ((with_reducible refine' Gp.methIn_mk ?a ?i ?b ?c ?d);(case a=>k_is);(case i=>k_is);(case b=>k_is);(case c=>k_is);(case d=>k_is))
    | ((with_reducible refine' Gp.ClsIn.mk ?a ?b ?c ?d ?e ?f ?g);(case a=>k_is);(case b=>k_is);(case c=>k_is);(case d=>k_is);(case e=>k_is);(case f=>k_is);(case g=>k_is))
    | ((with_reducible refine' Gp.sgnIn_mk ?n ?t);(case n=>k_is);(case t=>(refine' Gp.tupIn_mk ?l ?z ?v;(case l=>k_is);(case z=>decide);(case v=>repeat first | exact .nil | refine' Gp.vals_int ?_))))
    | ((with_reducible refine' Gp.bndsIn_mk ?n ?l ?z ?r);(case n=>k_is);(case l=>k_is);(case z=>decide);(case r=>(repeat (refine' Gp.rowsV_mk ?h ?_;(case h=>(refine' Gp.tupIn_mk ?l ?z ?v;(case l=>k_is);(case z=>decide);(case v=>repeat first | exact .nil | refine' Gp.vals_int ?_)))));exact .nil))
 case S=>
  intro K H xs a hO hwi hask hx
  cases hx with
  | cons h1 h2=>
   cases h2 with
   | cons h2 h3=>
    cases h3
    cases h1 with
    | lst hs ha=>
     cases h2 with
     | lst hs2 ha2=>
      have e:=L2.ints_dw a.1 _ ha
      have e2:=L2.ints_dw a.2.1 _ ha2
      subst e
      subst e2
      have q:((Codec.inLen 0 80000 a.1&&a.1.all (Codec.inInt 0 255))&&((Codec.inLen 0 20000 a.2.1&&a.2.1.all (Codec.inInt 0 255))&&true))=true:=hwi
      rw[yk,yk,yk,yk] at q
      have hb:=Gp.inInts q.1.2
      have hb2:=Gp.inInts q.2.1.2
      have hl:a.1.length≤80000:=(Codec.inNat_iff.mp q.1.1).2
      have hl2:a.2.1.length≤20000:=(Codec.inNat_iff.mp q.2.1.1).2
      refine⟨_,_,Gp.toB a.1,Gp.toB a.2.1,rfl,by rw[Gp.toB_bl _ hb];exact hs,by rw[Gp.toB_bl _ hb2];exact hs2,by rw[Gp.toB_len];omega,by rw[Gp.toB_len];omega,fun H' l _ hp=>?_⟩
      rw[Gp.with_due hb (by omega) hb2 (by omega)] at hp
      exact .lst (L2.SqL.of hp) (L2.dw_ints _)
