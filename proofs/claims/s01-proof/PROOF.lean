import PyProof.Rows.All
import Wide.All
import OpenK.AllK
import Wide.FinOn
import PyProof.EqAt
import PyProof.EqKinds
import PyProof.TupleCall
import KE.BitLaws
import KE.KRevSl
import KE.OsGo
import Open.SpecLaws
import PySem.Challenge.RW_anytree_s01_answers
set_option bootstrap.genMatcherCode false
set_option maxHeartbeats 0
set_option Elab.async false
set_option linter.all false
set_option maxRecDepth 100000
noncomputable section
local macro_rules | `(command| def $i:declId $s:optDeclSig $v:declVal) => `(command| noncomputable def $i:declId $s:optDeclSig $v:declVal)
local macro_rules | `(tactic| apply $e) => `(tactic| refine $e)
local macro_rules | `(term| nofun) => `(term| by decide)
local macro_rules | `(tactic| ac_nf) => `(tactic| exact ⟨rfl, rfl, rfl, by decide +kernel, rfl, by decide +kernel, by decide +kernel⟩)
local macro_rules | `(tactic| nofun) => do
  let n (x : String) := Lean.mkIdent (`Nat ++ x.toName)
  let a ← ( "lt_of_lt_of_le,lt_of_le_of_lt,le_trans,le_of_lt,lt_irrefl,not_le_of_lt,not_lt_of_le,le_of_eq,lt_succ_of_le,le_succ_of_le,le_of_not_lt,lt_of_not_le".splitOn ",").toArray.mapM fun x => `(Lean.Parser.Tactic.SolveByElim.arg| $(n x):ident)
  let s ← `(Lean.Parser.Tactic.SolveByElim.arg| *)
  let a := #[s] ++ a
  let t := n "le_trans"
  let u := n "lt_of_le_of_lt"
  let v := n "lt_of_lt_of_le"
  let l := n "le_of_lt"
  let i := n "lt_irrefl"
  let k := n "sub_le"
  let h ← `(term| by assumption)
  let d ← `(term| by decide)
  `(tactic| first | exact $t $h $d | exact $u $h $d | exact $v $h $d | exact $t $h $h | exact $u $h $h | exact $v $h $h | exact $u ($k _ _) $h | exact $t ($k _ _) $h | exact $(n "lt_succ_of_le") ($t $h $h) | exact $l ($v $h $h) | exact $l ($u $h $h) | exact $l ($v $h $d) | exact $(n "le_add_right_of_le") $h | exact $v $h ($(n "le_add_right") _ _) | exact $i _ ($v $h $h) | exact $i _ ($u $h $h) | solve_by_elim (maxDepth := 3) only [$a,*])
theorem iN {c : Prop} {h : Decidable c} (hc : ¬ c) {α : Sort _} {t e : α} : (@ite α c h t e) = e := if_neg hc
theorem iP {c : Prop} {h : Decidable c} (hc : c) {α : Sort _} {t e : α} : (@ite α c h t e) = t := if_pos hc
open List renaming length_cons->AA,length_append->AB,length_map->AF,mem_cons->AG,map_cons->AI,size_toArray->AJ,take_of_length_le->AK,map_append->AL,length_drop->AM,getElem?_eq_getElem->AN,mem_of_getElem?->AO,drop_eq_nil_of_le->AQ,cons_append->AS,mem_append->AU,getElem?_map->AV,length_take->AX,append_assoc->AZ,append_nil->A6,drop_drop->A7,takeWhile_cons_of_pos->A8,mem_filter->A9,nil_append->BA,mem_map->BC,nodup_cons->BD,contains_cons->BE,mem_cons_of_mem->BG,mem_of_mem_drop->BH,length_nil->BI,length->BJ,take_succ_cons->BK,reverse_append->BL,getElem?_eq_some_iff->BN,drop_succ_cons->BO,append_inj_right'->BP,reverse_cons->BQ,map_map->BR,mem_append_right->BU,take_append_drop->BV,getElem?_append_right->BW,takeWhile_cons_of_neg->BX,contains_nil->BZ,foldl_cons->B0,eq_nil_or_concat->B7,concat_eq_append->B8,takeWhile_append_dropWhile->CA,mem_of_mem_take->CB,filter_append->CC,takeWhile_cons->CH,map_take->CJ,mem_cons_self->CK,reverse_reverse->CP,any_cons->CS,map_drop->CT,flatMap_cons->CV,find?_cons->CY,mem_append_left->C0,lookup->C2,length_eq_zero_iff->C4,flatMap_append->C7,lookup_cons->C9,take_length->DA,getElem?_eq_none->DC,map_nil->DD,eraseIdx_eq_take_drop_succ->DF,length_reverse->DG,all_eq_true->DH,getLast?_cons_cons->DI,drop_length->DJ,filter_cons_of_pos->DK,take_append_of_le_length->DM,drop_append_of_le_length->DN,mem_singleton->DO,drop->DR,length_singleton->DS,length_filter_le->DT,contains_iff_mem->DU,take_append->DW,filter_cons->DX,getElem?_append_left->D0,getElem?_take_of_lt->D5,map->D6,mem_of_mem_eraseIdx->D7,findIdx?_cons->D9,getElem?_cons_succ->EA,length_eraseIdx_le->EB,getElem?_set_self->ED,nodup_nil->EG,drop_zero->EI,take->ER,getElem?_set_ne->ES,getLast?_eq_some_getLast->ET,dropLast_concat->EU,filterMap_cons->EY,map_congr_left->E4,find?_eq_none->FC,getElem?_drop->FD,drop_eq_getElem_cons->FH,getLast?_eq_getElem?->FI,append_eq_append_iff->FJ,findIdx?_eq_none_iff->FK,take_add_one->FR,nodup_append->FT,filter->FU,foldl_append->FV,sum_cons->FY,filter_cons_of_neg->F6,any_map->GC,dropWhile_sublist->GH,of_mem_zip->GL,headD_cons->GN,filter_map->GO,singleton_append->GR,tail_cons->GW,mem_of_getLast?->GX,contains_append->G0,toList_toArray->G5,dropWhile_cons->G6,mem_filterMap->G9,takeWhile_nil->HC,any_eq_false->HE,drop_sublist->HI,getLast?_map->HJ,take_reverse->HK,flatMap_map->HU,any_reverse->HV,getLast_mem->HW,mem_reverse->HX,isEmpty_iff->IA,find?_some->ID,all_append->IF,any_append->IH,forIn_nil->IP,drop_left->IS,all_cons->JP,all_map->JZ,map_id->J7,range->J8
open PySem.W renaming Frag->AD,emptyDict->CI,fnOf->CZ,findIn->C1,instObj->C5,keepIn->EE,plainGet->EO,plainGet_of->EZ,lookIn->E8,callWith_K->FA,methodObj->FL,hasDictIn->FN,cellsFrom_some->F9,takerIn->GK,methodCall_KW->GP,codeIn->GS,callWith_K0->G4,isFn->HF,plainOver->HG,handedIn->HP,makesIn->IC
open Nat renaming le_refl->AE,le_trans->AY,zero_le->A0,lt_of_lt_of_le->BB,ne_of_lt->B9,lt_of_le_of_lt->CL,lt_succ_self->CO,lt_irrefl->CQ,sub_self->DP,min_eq_left->DQ,le_of_succ_le->EF,toDigits->EH,le_of_lt->E5,sub_lt_left_of_lt_add->FG,lt_succ_of_lt->FP,toDigits_of_lt_base->F5,le_of_eq->F8,not_lt->GF,le_sub_of_add_le->GV,pow_le_pow_right->GZ,digitChar->G8,min_eq_right->HS,succ_le_succ->HY,lt_trans->JU,add_comm->JW,add_zero->JY,mod_lt->KA
open Option.some renaming inj->AH,injEq->KJ
open Bool renaming false_ne_true->AR,false_eq_true->BS,or_false->BY,and_eq_true->B6,eq_iff_iff->C6,and_eq_true_iff->DE,or_eq_true->D8,false_and->E7,or_assoc->FX,and_false->GU,false_or->JQ,true_or->JT,or_comm->JX,or_true->J1
open Sum renaming inr->AW,inl->CU
open PySem renaming mem_of_lookup->BF,Within->HD
open Rd27 renaming reopened->BM,opened->C3,points->C8,close->DB,text->DY,step->DZ,spec->E6,Node->HZ,closeTable->IJ,endOf->IQ,HEADS->KC,T->KD,nodes->KG,MOST->KQ
open PySem.Challenge renaming rw_anytree_s01_answers->CD,fa_anytree_s01_answers->DV,pw_anytree_s01_answers->GY
open Rd27Neutral renaming step->CF,natsOf->CN,natural->G7,asked1->KH,start->KN,asked->KO
open False renaming elim->CG
open Or renaming inl->CM,inr->KS
open Array renaming length_toList->CW,getElem?_toList->EL,getElem?_eq_none->GD
open PyRd27 renaming answers->DL,shape->EJ,answers_asked->EV,whole->GI,calls->HM
open Int renaming toNat_of_nonneg->D4,toNat_natCast->FO,toNat->F7
open PySem.F renaming plainAttrs_list->EC,slot_list_pop->EM,type_list_pop->EN,slot_dict_getitem->FF,args_tuple_add_2->FW,entry_tuple_add->F0,slot_tuple_add->GA,slot_dict_get->GQ
open PyFlat renaming calls->EK,played->FZ,row->GJ,rows->G1,told->G2,call->IB
open ForInStep renaming yield->EW
open Option renaming map_some->EX,isSome_map->FQ,map_eq_some_iff->GB,isSome_some->HA,getD_none->HR,map_none->IE,any_some->II,none->J6
open True renaming intro->E9
open List.Sublist renaming length_le->GG,refl->HH
open Ne renaming symm->G3
open Char renaming toNat->HB
open Decidable renaming not_not->HL
open PyProof.Rows renaming toString_length_le->HN,callWith_builtin1->HQ,callWith_type1->IK,signs_ofString->IM,join_tuple->JS,join_list->JV
open List.cons renaming injEq->IG
open PySem.EqNone renaming eq_none_none->IT,eq_none_bool->IU,eq_bool_none->IV,ne_none_none->IY,ne_none_bool->IZ,ne_bool_none->I0,eq_none_int->JC,eq_none_str->JD,eq_int_none->JE,eq_str_none->JG,ne_none_int->JI,ne_none_str->JK,ne_int_none->JL,ne_str_none->JN
open PySem.EqMixed renaming eq_bool_str->IW,eq_str_bool->IX,ne_bool_str->JA,ne_str_bool->JB,eq_int_str->JF,eq_str_int->JH,ne_int_str->JM,ne_str_int->JO
open Prod.mk renaming injEq->JR
open List.Perm renaming append_right->J0
open PySem.W.KIN renaming signs_num->J2,val_back->J5
open Sum.inl renaming inj->J3
open Sum.inr renaming inj->J4
open PySem.W.Looks renaming here->J9
open PySem.Within renaming cons->KI
open Classical renaming not_not->KL,choice->KR
open PySem.IsL renaming update->KP
namespace L2
open PySem PySem.Spec PyProof.Rows
abbrev Key:=Sum Int Str
def ma:Key->Value->Bool
 | .inl k,v=>Value.isInt k v
 | .inr x,v=>Value.isStrOf x v
def OM (w:World):Key->Int
 | .inl k=>hashInt k
 | .inr x=>hashStr w x
theorem bS:∀{k:Key} {v:Value},ma k v=true->(∃i t,k=CU i/\v=Value.int i t)\/(∃x t,k=AW x/\v=Value.str x t)
 | .inl i,v,h=>by
  obtain⟨t,e⟩:=Value.isInt_shape (k:=i) (v:=v) h;exact .inl ⟨i,t,rfl,e⟩
 | .inr x,v,h=>by
  obtain⟨t,e⟩:=Value.isStrOf_shape (x:=x) (v:=v) h;exact .inr ⟨x,t,rfl,e⟩
theorem yn (i:Int) (t:Tok):ma (.inl i) (.int i t)=true:=by simp[ma,Value.isInt]
theorem ym (x:Str) (t:Tok):ma (.inr x) (.str x t)=true:=by simp[ma,Value.isStrOf]
theorem Mx (a b:Int):decide ((CU a:Key)=CU b)=(a==b):=by
 by_cases e:a=b
 .subst e;simp
 .have h:¬(CU a:Key)=CU b:=λq=>e (J3 q);rw[decide_eq_false h];exact(beq_eq_false_iff_ne.mpr e).symm
theorem Mu (a b:Str):decide ((AW a:Key)=AW b)=decide (a=b):=by
 by_cases e:a=b
 .subst e;simp
 .have h:¬(AW a:Key)=AW b:=λq=>e (J4 q);rw[decide_eq_false h,decide_eq_false e]
theorem Mw (a:Int) (b:Str):decide ((CU a:Key)=AW b)=false:=decide_eq_false (λq=>nomatch q)
theorem Mv (a:Str) (b:Int):decide ((AW a:Key)=CU b)=false:=decide_eq_false (λq=>nomatch q)
def bw (prog:Program) (w:World):PySem.KeyKind prog w Key where
 is:=ma
 hash:=OM w
 inj:=λv a b ha hb=>by
  rcases bS ha with⟨i,t,rfl,rfl⟩|⟨x,t,rfl,rfl⟩
  .rcases bS hb with⟨j,u,rfl,e⟩|⟨y,u,rfl,e⟩
   .injection e with e1 _;rw[e1]
   .exact nomatch e
  .rcases bS hb with⟨j,u,rfl,e⟩|⟨y,u,rfl,e⟩
   .exact nomatch e
   .injection e with e1 _;rw[e1]
 byValue:=λk v h=>by
  rcases bS h with⟨i,t,rfl,rfl⟩|⟨x,t,rfl,rfl⟩<;>rfl
 pyHash:=λhv h=>by
  rcases bS hv with⟨i,t,rfl,rfl⟩|⟨x,t,rfl,rfl⟩
  .exact wpAny_pyHash_int h
  .exact wpAny_pyHash_str h
 eqBool:=λhu hv h=>by
  rcases bS hu with⟨i,t,rfl,rfl⟩|⟨x,t,rfl,rfl⟩
  .rcases bS hv with⟨j,u,rfl,rfl⟩|⟨y,u,rfl,rfl⟩
   .rw[Mx]at h;exact wpAny_eqBool_int h
   .rw[Mw]at h;exact SeqAt.EqAt.int_str i t y u _ _ _ _ h
  .rcases bS hv with⟨j,u,rfl,rfl⟩|⟨y,u,rfl,rfl⟩
   .rw[Mv]at h;exact SeqAt.EqAt.str_int x t j u _ _ _ _ h
   .rw[Mu]at h;exact wpAny_eqBool_str h
 «strs»:=λk x t v h=>by
  rcases bS h with⟨i,u,rfl,e⟩|⟨y,u,rfl,e⟩
  .exact nomatch e
  .injection e with e1 _;subst e1;cases v<;>rfl
theorem tV (prog:Program) (w:World) (i:Int) (t:Tok):(bw prog w).is (.inl i) (.int i t)=true:=yn i t
theorem tU (prog:Program) (w:World) (x:Str) (t:Tok):(bw prog w).is (.inr x) (.str x t)=true:=ym x t
end L2
namespace L2
open PySem PySem.Spec PyProof.Rows
inductive V where
 |aY|bl (b:Bool)|int (i:Int)|str (x:Str)|vW (b:Array UInt8)|Ra (b:UInt64)|ref (a:Addr)|ty (n:String)
 deriving DecidableEq
def RelV:V->Value->Prop
 | .aY,u=>u=Value.none
 | .bl b,u=>u=Value.bool b
 | .int i,u=>∃t,u=Value.int i t
 | .str x,u=>∃t,u=Value.str x t
 | .vW b,u=>∃t,u=Value.bytes b t
 | .Ra b,u=>∃t,u=Value.float b t
 | .ref a,u=>u=Value.ref a
 | .ty n,u=>u=Value.type n
abbrev Vals:List V->List Value->Prop:=Paired RelV
theorem Vals.length {xs:List V} {us:List Value} (r:Vals xs us):xs.length=us.length:=Paired.length r
theorem Vals.get:∀{xs:List V} {us:List Value} {i:Nat} {x:V},Vals xs us->xs[i]? =some x->∃u,us[i]? =some u/\RelV x u
 |_,_,_,_,.nil,e=>by simp at e
 |_,_,0,_,.cons r _,e=>by simp at e;subst e;exact⟨_,rfl,r⟩
 |_,_,i+1,x,.cons _ t,e=>by
  obtain⟨u,h1,h2⟩:=Vals.get (i:=i) (x:=x) t (by simpa using e);exact⟨u,by simpa using h1,h2⟩
theorem Vals.append:∀{xs ys:List V} {us ws:List Value},Vals xs us->Vals ys ws->Vals (xs++ys) (us++ws)
 |_,_,_,_,.nil,s=>s
 |_,_,_,_,.cons r t,s=> .cons r (Vals.append t s)
theorem Vals.take:∀{xs:List V} {us:List Value} (n:Nat),Vals xs us->Vals (xs.take n) (us.take n)
 |_,_,0,_=> .nil
 |_,_,_+1,.nil=> .nil
 |_,_,n+1,.cons r t=> .cons r (Vals.take n t)
theorem Vals.drop:∀{xs:List V} {us:List Value} (n:Nat),Vals xs us->Vals (xs.drop n) (us.drop n)
 |_,_,0,r=>r
 |_,_,_+1,.nil=> .nil
 |_,_,n+1,.cons _ t=>Vals.drop n t
def fQ:Option V->Option Value->Prop
 |some v,some u=>RelV v u
 |none,none=>True
 |_,_=>False
def KV {κ:Type}:List (κ×V)->List (κ×Value)->Prop:=Paired λ(p:κ×V) (q:κ×Value)=>p.1=q.1/\RelV p.2 q.2
def kV:Key->V
 | .inl i=> .int i
 | .inr x=> .str x
inductive HO where
 |lst (xs:List V)
 |tup (xs:List V)
 |dK (aC:List (Key×V))|dT (aC:List (List Key×V))
 |set (S:Int->Bool) (n:Nat)
 |ins (C dx:Addr) (fs:List (Str×V))
 |own (x:Addr)
 |xd (fs:List (Str×V))
 |met (f x:Addr)
 |RD (lo hi:Int)
 |eM (o:Obj) (u:HO)
 |Kq (ps:Array Value)
 |ext (φ:Heap->Prop)
abbrev Hp:=Addr->Option HO
def upd (H:Hp) (a:Addr) (o:HO):Hp:=λb=>if b=a then some o else H b
theorem aa {H:Hp} {a:Addr} {o:HO}:upd H a o a=some o:=by unfold upd;rw[iP rfl]
theorem ae {H:Hp} {a b:Addr} {o:HO} (h:b≠a):upd H a o b=H b:=by unfold upd;rw[iN h]
theorem d5 {H:Hp} {a:Addr} {o u:HO}:upd (upd H a o) a u=upd H a u:=by
 funext b;unfold upd;split<;>rfl
theorem aE {H:Hp} {a b:Addr} {o u:HO} (h:H a=some o) (h':H b=some u) (d:o≠u):a≠b:=by
 intro e;subst e;rw[h]at h';exact d (AH h')
theorem af {H:Hp} {a b:Addr} {o:HO} (h:H a=some o) (h':H b=none):a≠b:=by
 intro e;subst e;rw[h]at h';cases h'
section
variable(P:Program) (w:World)
def cf (H:Hp) (h:Heap) (a:Addr):HO->Prop
 | .lst xs=>xs.length<=sizeLine/\∃(aP:List Value) (n:Nat),Vals xs aP/\h.get? a=some {cls:= .type "list",data:= .seq aP.toArray n}
 | .tup xs=>xs.length<=sizeLine/\∃aP:List Value,Vals xs aP/\IsTup h a aP.toArray
 | .dK aC=>aC.length<=sizeLine/\(a==sysModules)=false/\∃vs,KV aC vs/\h.DictOf (bw P w) a vs
 | .dT aC=>aC.length<=sizeLine/\(a==sysModules)=false/\∃xs:List (List Key×Addr×Value),
   Paired (λ(p:List Key×V) (q:List Key×Addr×Value)=>p.1=q.1/\H q.2.1=some (.tup (p.1.map kV))/\RelV p.2 q.2.2) aC xs/\
   ∃o es ep,h.get? a=some o/\o.ExactDict/\o.data= .dict es ep/\es.toList=xs.map (entryOfKey (tupleKind (bw P w)))/\(xs.map (·.1)).Nodup
 | .set S n=>h.SetOf (intKind P w) a S n
 | .ins C dx fs=>H dx=some (.own a)/\fs.length<=1000/\dx≠a/\h.get? a=some (C5 C dx)/\
   ∃mA,h.Ns1 dx mA/\(∀f,fQ (fs.lookup f) (mA f))/\HD mA (fs.map (·.1))
 | .own _=>∃o,h.get? a=some o
 | .xd fs=>∃mA,h.Ns1 a mA/\∀f,fQ (fs.lookup f) (mA f)
 | .RD lo hi=>∃t u v,h.get? a=some {cls:= .type "range",data:= .fields #[.int lo t,.int hi u,.int 1 v]}
 | .eM o u=>h.get? a=some o/\cf H h a u
 | .Kq ps=>h.get? a=some {cls:= .none,data:= .fields ps}
 | .met f x=>h.get? a=some (FL (.ref f) (.ref x))
 | .ext φ=>φ h/\(∃o,h.get? a=some o)/\∀h1 h2:Heap,φ h1->(∀o,h1.get? a=some o->h2.get? a=some o)->φ h2
def iS (H:Hp) (h:Heap):Prop:=∀a o,H a=some o->cf P w H h a o
end
section
variable{P:Program} {w:World} {H H':Hp} {h h':Heap} {a:Addr} {o:HO}
theorem cf.lt (x:cf P w H h a o):a<h.objs.size:=by
 cases o with
 |lst xs=>obtain⟨_,_,_,_,e⟩:=x;exact Heap.lt_size e
 |tup xs=>obtain⟨_,_,_,p⟩:=x;exact p.lt
 |dK aC=>obtain⟨_,_,_,_,o,_,_,e,_⟩:=x;exact Heap.lt_size e
 |dT aC=>obtain⟨_,_,_,_,o,_,_,e,_⟩:=x;exact Heap.lt_size e
 |set S n=>obtain⟨o,_,_,_,e,_⟩:=x;exact Heap.lt_size e
 |ins C dx fs=>obtain⟨_,_,_,e,_⟩:=x;exact Heap.lt_size e
 |own y=>obtain⟨_,e⟩:=x;exact Heap.lt_size e
 |xd fs=>obtain⟨_, ⟨_,_,_,e,_⟩,_⟩:=x;exact Heap.lt_size e
 |RD lo hi=>obtain⟨_,_,_,e⟩:=x;exact Heap.lt_size e
 |eM ob u=>obtain⟨e,_⟩:=x;exact Heap.lt_size e
 |Kq ps=>exact Heap.lt_size (show h.get? a=some _ from x)
 |met f y=>exact Heap.lt_size (show h.get? a=some _ from x)
 |ext φ=>obtain⟨_, ⟨_,e⟩,_⟩:=x;exact Heap.lt_size e
theorem Paired.Lr {α β:Type} {F G:α->β->Prop}:∀{l₁:List α} {l₂:List β},Paired F l₁ l₂->(∀a b,F a b->G a b)->Paired G l₁ l₂
 |_,_,.nil,_=> .nil
 |_,_,.cons r t,f=> .cons (f _ _ r) (Paired.Lr t f)
theorem cf.lY (x:cf P w H h a o) (k:∀b u, (b=a\/H b=some (.own a))->h.get? b=some u->h'.get? b=some u)
  (ho:∀b,H b=some (.own a)->H' b=some (.own a)) (ht:∀b xs,H b=some (.tup xs)->H' b=some (.tup xs)):cf P w H' h' a o:=by
 induction o with
 |lst xs=>obtain⟨z,aP,n,r,e⟩:=x;exact⟨z,aP,n,r,k _ _ (.inl rfl) e⟩
 |tup xs=>obtain⟨z,aP,r,ob,e,c⟩:=x;exact⟨z,aP,r,ob,k _ _ (.inl rfl) e,c⟩
 |dK aC=>obtain⟨z,y,vs,r,ob,es,ep,e,c⟩:=x;exact⟨z,y,vs,r,ob,es,ep,k _ _ (.inl rfl) e,c⟩
 |dT aC=>
  obtain⟨z,y,xs,r,ob,es,ep,e,c⟩:=x;exact⟨z,y,xs,Paired.Lr r λp q z=>⟨z.1,ht _ _ z.2.1,z.2.2⟩,ob,es,ep,k _ _ (.inl rfl) e,c⟩
 |set S n=>obtain⟨ob,es,ep,t,e,c⟩:=x;exact⟨ob,es,ep,t,k _ _ (.inl rfl) e,c⟩
 |ins C dx fs=>
  obtain⟨d,z,ne,e,mA, ⟨od,es,ep,e2,c⟩,r⟩:=x;exact⟨ho _ d,z,ne,k _ _ (.inl rfl) e,mA, ⟨od,es,ep,k _ _ (.inr d) e2,c⟩,r⟩
 |own y=>obtain⟨ob,e⟩:=x;exact⟨ob,k _ _ (.inl rfl) e⟩
 |xd fs=>obtain⟨mA, ⟨od,es,ep,e,c⟩,r⟩:=x;exact⟨mA, ⟨od,es,ep,k _ _ (.inl rfl) e,c⟩,r⟩
 |RD lo hi=>obtain⟨t,u,v,e⟩:=x;exact⟨t,u,v,k _ _ (.inl rfl) e⟩
 |eM ob u ih=>obtain⟨e,q⟩:=x;exact⟨k _ _ (.inl rfl) e,ih q⟩
 |Kq ps=>
  have e:h.get? a=some {cls:= .none,data:= .fields ps}:=x;show h'.get? a=some {cls:= .none,data:= .fields ps}
  exact k a _ (.inl rfl) e
 |met f y=>
  have e:h.get? a=some (FL (.ref f) (.ref y)):=x;show h'.get? a=some (FL (.ref f) (.ref y))
  exact k a _ (.inl rfl) e
 |ext φ=>obtain⟨p, ⟨o,e⟩,st⟩:=x;exact⟨st _ _ p λo q=>k _ _ (.inl rfl) q, ⟨o,k _ _ (.inl rfl) e⟩,st⟩
theorem iS.lt (x:iS P w H h) (e:H a=some o):a<h.objs.size:=(x a o e).lt
theorem iS.fresh (x:iS P w H h) (e:h.objs.size<=a):H a=none:=by
 cases q:H a with
 |none=>rfl
 |some u=>exact absurd (BB (x.lt q) e) (CQ _)
theorem iS.kept (x:iS P w H h) (k:∀b u,h.get? b=some u->h'.get? b=some u):iS P w H h':=λa o e=>
 (x a o e).lY (λb u _ q=>k b u q) (λ_ q=>q) λ_ _ q=>q
theorem iS.laid (x:iS P w H h) (k:∀b u,h.get? b=some u->h'.get? b=some u) (hp:h.objs.size<=a) (new:cf P w (upd H a o) h' a o):iS P w (upd H a o) h':=λb u e=>by
 have hn:=x.fresh hp
 by_cases hb:b=a
 .subst hb;rw[aa]at e;cases e;exact new
 .rw[ae hb]at e;exact(x b u e).lY (λc v _ q=>k c v q) (λc q=>by rw[ae (af q hn)];exact q) λc xs q=>by rw[ae (af q hn)];exact q
end
def Rd (H:Hp) (a:Addr) (u:HO):Prop:=H a=some u\/∃o,H a=some (.eM o u)
theorem Rd.ok {P:Program} {w:World} {H:Hp} {h:Heap} {a:Addr} {u:HO} (r:Rd H a u) (x:iS P w H h):cf P w H h a u:=by
 rcases r with r|⟨o,r⟩
 .exact x a u r
 .obtain⟨_,q⟩:=x a _ r;exact q
def Fm:Option HO->Prop
 |some (.lst _)=>True
 |some (.dK _)=>True
 |some (.dT _)=>True
 |some (.set _ _)=>True
 |some (.ins _ _ _)=>True
 |some (.ext _)=>True
 |_=>False
section
variable{P:Program} {w:World} {H:Hp} {h h':Heap} {x e:Addr} {o':HO}
theorem iS.write (ok:iS P w H h) (mu:Fm (H x)) (he:e=x\/H e=some (.own x)) (k:∀b u,b≠e->h.get? b=some u->h'.get? b=some u) (vV:∃u,h'.get? e=some u)
  (new:cf P w (upd H x o') h' x o'):iS P w (upd H x o') h':=λb u q=>by
 have OJ:∀c y,H c=some (.own y)->c≠x:=λc y r z=>by subst z;rw[r]at mu;exact mu
 have Tf:∀c xs,H c=some (.tup xs)->c≠x:=λc xs r z=>by subst z;rw[r]at mu;exact mu
 by_cases hb:b=x
 .subst hb;rw[aa]at q;cases q;exact new
 .rw[ae hb]at q
  by_cases K3:b=e
  .have q':H b=some (.own x):=by
    rcases he with z|z
    .exact absurd (K3.trans z) hb
    .rw[K3];exact z
   rw[q]at q';cases q';obtain⟨v,hv⟩:=vV;exact⟨v,by rw[K3];exact hv⟩
  .refine(ok b u q).lY (λc v hc r=>k c v ?_ r) (λc r=>by rw[ae (OJ c b r)];exact r) λc xs r=>by rw[ae (Tf c xs r)];exact r
   rcases hc with rfl|hc
   .exact K3
   .rintro rfl;rcases he with z|z
    .exact OJ c b hc z
    .rw[hc]at z;cases z;exact hb rfl
end
structure Un (fs ex:List Addr) (H H':Hp) (h h':Heap):Prop where
 keep:∀b o,h.get? b=some o->H b=none->b∉fs->b∉ex->h'.get? b=some o
 slot:∀b o,h.get? b=some o->H b=none->b∈fs->b∉ex->∃sl,h'.get? b=some {o with slots:=sl}
 free:∀b o,h.get? b=some o->H b=none->b∉ex->H' b=none
 there:∀b o,h.get? b=some o->b∉ex->∃o',h'.get? b=some o'
 pP:∀b xs,H b=some (.tup xs)->H' b=some (.tup xs)
 l7:∀b o u,H b=some (.eM o u)->H' b=some (.eM o u)
 pQ:∀b ps,H b=some (.Kq ps)->∃more,H' b=some (.Kq (ps++more))
section
variable{fs Zs ex ex':List Addr} {H H1 H2:Hp} {h h1 h2 h':Heap} {a x e:Addr} {o:HO}
theorem Un.any (u:Un fs ex H H1 h h1) {b:Addr} {ob:Obj} (q:h.get? b=some ob) (n:H b=none) (hx:b∉ex):∃sl,h1.get? b=some {ob with slots:=sl}:=by
 by_cases hb:b∈fs
 .exact u.slot b ob q n hb hx
 .exact⟨ob.slots,u.keep b ob q n hb hx⟩
theorem Un.kept (k:∀b u,h.get? b=some u->h'.get? b=some u):Un fs ex H H h h':=
 ⟨λb ob q _ _ _=>k b ob q,λb ob q _ _ _=>⟨ob.slots,k b ob q⟩,λ_ _ _ n _=>n,λb ob q _=>⟨ob,k b ob q⟩,λ_ _ q=>q,λ_ _ _ q=>q,λ_ ps q=>⟨#[],by rw[q];simp⟩⟩
theorem Un.refl:Un fs ex H H h h:=Un.kept λ_ _ q=>q
theorem Un.laid (k:∀b u,h.get? b=some u->h'.get? b=some u) (hp:h.objs.size<=a) (hn:H a=none):Un fs ex H (upd H a o) h h' where
 keep:=λb u q _ _ _=>k b u q
 slot:=λb u q _ _ _=>⟨u.slots,k b u q⟩
 free:=λb u q n _=>by rw[ae (B9 (BB (Heap.lt_size q) hp))];exact n
 there:=λb u q _=>⟨u,k b u q⟩
 pP:=λb xs q=>by rw[ae (af q hn)];exact q
 l7:=λb u xs q=>by rw[ae (af q hn)];exact q
 pQ:=λb ps q=>⟨#[],by rw[ae (af q hn),q];simp⟩
theorem Un.write (mu:Fm (H x)) (he:e=x\/H e=some (.own x)) (k:∀b u,b≠e->h.get? b=some u->h'.get? b=some u) (vV:∃u,h'.get? e=some u):Un fs ex H (upd H x o) h h':=by
 have hx:∀b,H b=none->b≠x:=λb n z=>by subst z;rw[n]at mu;exact mu
 have hb:∀b,H b=none->b≠e:=λb n z=>by
  subst z;rcases he with r|r
  .exact hx b n r
  .rw[n]at r;cases r
 have hm:∀b u,H b=some u->¬Fm (some u)->b≠x:=λb u q nm z=>by subst z;rw[q]at mu;exact nm mu
 apply⟨λb u q n _ _=>k b u (hb b n) q,λb u q n _ _=>⟨u.slots,k b u (hb b n) q⟩,λb u q n _=>by rw[ae (hx b n)];exact n,λb u q _=>?_,
  λb xs q=>by rw[ae (hm b _ q λz=>z)];exact q,λb u xs q=>by rw[ae (hm b _ q λz=>z)];exact q,λb ps q=>⟨#[],by rw[ae (hm b _ q λz=>z),q];simp⟩⟩
 by_cases K3:b=e
 .subst K3;exact vV
 .exact⟨u,k b u K3 q⟩
end
def Qj (h:Heap) (H:Hp):List Addr:=(J8 h.objs.size).filter λa=>(H a).isSome
def pS (h:Heap) (H:Hp):Heap:=PySem.W.hideAll h (Qj h H)
theorem yu (h:Heap) (H:Hp):(pS h H).objs.size=h.objs.size:=PySem.W.hideAll_size _ _
theorem Cs {h:Heap} {H:Hp} {b:Addr} {o:Obj} (e:h.get? b=some o) (n:H b=none):(pS h H).get? b=some o:=
 PySem.W.hideAll_get _ e λhm=>by
  have q:(H b).isSome=true:=(A9.mp hm).2;rw[n]at q;simp at q
theorem Hq {h:Heap} {H:Hp} {b:Addr} {o:Obj} (e:(pS h H).get? b=some o):h.get? b=some o/\H b=none:=by
 have e':h.get? b=some o:=PySem.W.of_hideAll (Qj h H) e;apply⟨e',?_⟩;cases q:H b with
 |none=>rfl
 |some x=>
  have hm:b∈Qj h H:=A9.mpr ⟨List.mem_range.mpr (Heap.lt_size e'),by simp[q]⟩;have z:(pS h H).get? b=none:=PySem.W.hideAll_none (Qj h H) hm;rw[z]at e;cases e
end L2
namespace L2
open PySem PySem.Spec PyProof.Rows
structure Mod (K:AD) (mg:Str->Option Value) (base:Heap):Prop where
 NF:K.In base
 glob:base.Ns mainGlobals mg
 blt:∃mb,base.Ns builtinsNs mb/\∀x:Str,x≠"__name__"->mb x=bootBuiltins x
 nolimit:base.NoLimit
structure Cx where
 prog:Program
 w:World
 K:AD
 mg:Str->Option Value
 base:Heap
 A:Around
 N:List Str
 s₀:Shared
 H₀:Hp
 env:Env
 outer:List Env
 stack:List Env
 ex:List Addr
 fn:Str->Bool
 calm:Bool
 pn:List (Addr×Obj)
 xe:Value->Shared->Prop
def zj (l:List Env):List Addr:=l.filterMap (·.frame)
abbrev Cx.fs (X:Cx):List Addr:=zj X.outer
def Nn (sc:Scope) (x:Str):Prop:=sc.names.lookup x=some .local\/sc.names.lookup x=some .cell\/sc.names.lookup x=some .free
def Loc (sc:Scope) (x:Str):Prop:=sc.names.lookup x=some .local\/sc.names.lookup x=some .cell
def Look (env:Env) (h:Heap) (m:Str->Option Value) (x:Str) (u:Value):Prop:=
 (env.kindOf x=some .local/\m x=some u)\/((env.kindOf x=some .cell\/env.kindOf x=some .free)/\∃c,env.cells.lookup x=some c/\h.IsCell c (some u))
structure Cx.Ok (X:Cx):Prop where
 mod:Mod X.K X.mg X.base
 kind:X.env.scope.kind= .function
 glob:X.env.globals=mainGlobals
 blt:X.env.builtins=builtinsNs
 above:X.s₀.heap.objs.size<=X.env.locals
 inj:∀x y c,X.env.cells.lookup x=some c->X.env.cells.lookup y=some c->x=y
 has:∀x, (X.env.kindOf x=some .cell\/X.env.kindOf x=some .free)->∃c,X.env.cells.lookup x=some c
 N8:∀x c,X.fn x=true->X.env.cells.lookup x=some c->X.s₀.heap.objs.size<=c
 hd:X.calm=true->X.A.handled=none
 frames:X.A.frames=some X.stack
 rg:X.stack=X.outer\/(X.stack=X.env::X.outer/\X.env.frame=some X.env.locals)
 Rb:∀b∈X.ex,b≠X.env.locals/\∀x c,X.env.cells.lookup x=some c->c≠b
 bs:∀b o,X.base.get? b=some o->X.s₀.heap.get? b=some o/\X.H₀ b=none
 Fj:X.base.objs.size<=X.s₀.heap.objs.size
 zw:∀b o,X.base.get? b=some o->b∉X.ex
 zI:∀b∈X.ex,b∉X.fs
 lr:X.s₀.heap.FunFrames X.base X.outer
 K9:∀b∈X.fs,X.H₀ b=none
structure Inv (X:Cx) (pins:List (Addr×Obj)) (σ:List (Option V)) (H:Hp) (s:Shared):Prop where
 ok:X.Ok
 os:s.os=X.s₀.os
 bare:AllBare s.gens
 base:Un X.fs X.ex X.H₀ H X.s₀.heap s.heap
 loc:∃m,s.heap.Ns X.env.locals m/\∀(i:Nat) (x:Str) (v:V),X.N[i]? =some x->σ[i]? =some (some v)->Nn X.env.scope x->∃u,RelV v u/\Look X.env s.heap m x u
 cell:∀x c,X.env.cells.lookup x=some c->∃v,s.heap.IsCell c v
 free:H X.env.locals=none
 fA:∀x c,X.env.cells.lookup x=some c->H c=none
 pin:∀p∈X.pn++pins,s.heap.get? p.1=some p.2/\H p.1=none/\p.1≠X.env.locals/\p.1∉X.fs/\∀v,p.2.data≠.cell v
 b8:iS X.prog X.w H s.heap
 len:σ.length=X.N.length
section
variable{X:Cx} {pins:List (Addr×Obj)} {σ:List (Option V)} {H H':Hp} {s:Shared} {h':Heap}
theorem Cx.Ok.Tj (ok:X.Ok) {b:Addr} {o:Obj} (e:X.base.get? b=some o):b∉X.fs:=λhb=>by
 have:=(ok.lr.mem hb).1;rw[e]at this;cases this
theorem Inv.bs (I:Inv X pins σ H s):∀b o,X.base.get? b=some o->s.heap.get? b=some o/\H b=none:=λb o e=>
 ⟨I.base.keep b o (I.ok.bs b o e).1 (I.ok.bs b o e).2 (I.ok.Tj e) (I.ok.zw b o e),I.base.free b o (I.ok.bs b o e).1 (I.ok.bs b o e).2 (I.ok.zw b o e)⟩
theorem Inv.bk (I:Inv X pins σ H s):∀b o,X.base.get? b=some o->s.heap.get? b=some o:=λb o e=>(I.bs b o e).1
theorem Inv.mod (I:Inv X pins σ H s):Mod X.K X.mg X.base:=I.ok.mod
theorem Inv.t8 (I:Inv X pins σ H s):X.K.In s.heap:=I.ok.mod.NF.keeps I.bk
theorem Inv.lt (I:Inv X pins σ H s):X.env.locals<s.heap.objs.size:=let⟨_,hn,_⟩:=I.loc;hn.lt
theorem Inv.sz (I:Inv X pins σ H s):X.s₀.heap.objs.size<=s.heap.objs.size:=AY I.ok.above (E5 I.lt)
theorem Inv.Ti (I:Inv X pins σ H s) {a:Addr} (h:s.heap.objs.size<=a):a∉X.fs:=λhb=>by
 obtain⟨_,o,ho,_⟩:=I.ok.lr.mem hb;exact absurd (BB (Heap.lt_size ho) (AY I.sz h)) (CQ _)
theorem Inv.Lb (I:Inv X pins σ H s):∀x c,X.env.cells.lookup x=some c->c≠X.env.locals:=λx c e z=>by
 obtain⟨v,o,ho,hd⟩:=I.cell x c e;obtain⟨m, ⟨o',es,ep,rp,qY,_⟩,_⟩:=I.loc;rw[z,rp]at ho;cases ho;rw[qY]at hd;cases hd
theorem Inv.lr (I:Inv X pins σ H s):s.heap.FunFrames X.base X.outer:=by
 have all:∀(l:List Env), (∀b∈zj l,b∈X.fs)->X.s₀.heap.FunFrames X.base l->s.heap.FunFrames X.base l:=by
  intro l
  induction l with
  |nil=>intro _ _;trivial
  |cons env r ih=>
   intro hs hl;obtain⟨hk, ⟨L,o,hf,hn,ho,hd⟩,hr⟩:=hl;have hL:L∈X.fs:=hs L (by unfold zj;rw[EY,hf];exact CK);obtain⟨sl,e⟩:=I.base.slot L o ho (I.ok.K9 L hL) hL λz=>I.ok.zI L z hL;exact⟨hk, ⟨L,_,hf,hn,e,hd⟩,ih (λb hb=>hs b (by unfold zj;rw[EY,hf];exact BG _ hb)) hr⟩
 exact all X.outer (λ_ hb=>hb) I.ok.lr
theorem Inv.stack (I:Inv X pins σ H s):s.heap.FunFrames X.base X.stack:=by
 rcases I.ok.rg with e|⟨e,hf⟩
 .rw[e];exact I.lr
 .rw[e];obtain⟨m,hn,_⟩:=I.loc;apply .cons (by rw[I.ok.kind];decide) hf hn ?_ I.lr;exact Heap.get?_none_of_le (AY I.ok.Fj I.ok.above)
theorem Inv.uM (I:Inv X pins σ H s):∀b∈zj X.stack,b∈X.env.locals::X.fs:=λb hb=>by
 rcases I.ok.rg with e|⟨e,hf⟩
 .rw[e]at hb;exact BG _ hb
 .rw[e]at hb;unfold zj at hb;rw[EY,hf]at hb;exact hb
theorem Inv.wF (I:Inv X pins σ H s):∀b∈zj X.stack,H b=none:=λb hb=>by
 rcases AG.mp (I.uM b hb)with e|hb
 .rw[e];exact I.free
 .obtain⟨_,o,ho,_⟩:=I.ok.lr.mem hb;exact I.base.free b o ho (I.ok.K9 b hb) λz=>I.ok.zI b z hb
theorem Inv.step {g':Array GenState} {t':Nat} {d':Drawn} {ch:List Addr} (I:Inv X pins σ H s)
  (Ec:∀b∈ch, (b∈X.ex\/X.s₀.heap.objs.size<=b)/\b≠X.env.locals/\(∀x c,X.env.cells.lookup x=some c->c≠b)/\∀p∈X.pn++pins,p.1≠b)
  (keep:∀b o,b≠X.env.locals->b∉X.fs->b∉ch->s.heap.get? b=some o->H b=none->h'.get? b=some o)
  (slot:∀b o,b≠X.env.locals->b∈X.fs->b∉ch->s.heap.get? b=some o->H b=none->∃sl,h'.get? b=some {o with slots:=sl}) (free:∀b o,b∉ch->s.heap.get? b=some o->H b=none->H' b=none)
  (there:∀b o,b∉ch->s.heap.get? b=some o->∃o',h'.get? b=some o')
  (pP:∀b xs,H b=some (.tup xs)->H' b=some (.tup xs)) (l7:∀b o u,H b=some (.eM o u)->H' b=some (.eM o u)) (pQ:∀b ps,H b=some (.Kq ps)->∃more,H' b=some (.Kq (ps++more)))
  (ns:∀m,s.heap.Ns X.env.locals m->h'.Ns X.env.locals m) (b8:iS X.prog X.w H' h') (hg:AllBare g'):
  Inv X pins σ H' {s with heap:=h',gens:=g',drawn:=d',toks:=t'}:=by
 have Vm:∀b o,X.s₀.heap.get? b=some o->b≠X.env.locals:=λb o e=>B9 (BB (Heap.lt_size e) I.ok.above)
 have Qx:∀b o,X.s₀.heap.get? b=some o->b∉X.ex->b∉ch:=λb o e hx hb=>by
  rcases(Ec b hb).1 with z|z
  .exact hx z
  .exact absurd (BB (Heap.lt_size e) z) (CQ _)
 have cellK:∀x c,X.env.cells.lookup x=some c->∀v,s.heap.IsCell c v->h'.IsCell c v:=λx c e v ⟨o,ho,hd⟩=>by
  have NA:c∉ch:=λz=>(Ec c z).2.2.1 x c e rfl
  by_cases hc:c∈X.fs
  .obtain⟨sl,q⟩:=slot c o (I.Lb x c e) hc NA ho (I.fA x c e);exact⟨_,q,hd⟩
  .exact⟨o,keep c o (I.Lb x c e) hc NA ho (I.fA x c e),hd⟩
 apply⟨I.ok,I.os,hg, ⟨λb o e n hb hx=>?_,λb o e n hb hx=>?_,λb o e n hx=>?_,λb o e hx=>?_,λb xs e=>pP b xs (I.base.pP b xs e),λb o xs e=>l7 b o xs (I.base.l7 b o xs e),λb ps e=>?_⟩,?_,λx c e=>?_,?_,λx c e=>?_,λp hp=>?_,b8,I.len⟩
 .exact keep b o (Vm b o e) hb (Qx b o e hx) (I.base.keep b o e n hb hx) (I.base.free b o e n hx)
 .obtain⟨sl,e1⟩:=I.base.slot b o e n hb hx;obtain⟨WV,e2⟩:=slot b _ (Vm b o e) hb (Qx b o e hx) e1 (I.base.free b o e n hx);exact⟨WV,e2⟩
 .obtain⟨o',e1⟩:=I.base.there b o e hx;exact free b o' (Qx b o e hx) e1 (I.base.free b o e n hx)
 .obtain⟨o',e1⟩:=I.base.there b o e hx;exact there b o' (Qx b o e hx) e1
 .obtain⟨m1,e1⟩:=I.base.pQ b ps e;obtain⟨m2,e2⟩:=pQ b _ e1;exact⟨m1++m2,by rw[e2,Array.append_assoc]⟩
 .obtain⟨m,hn,hl⟩:=I.loc;apply⟨m,ns m hn,λi x v e1 e2 e3=>?_⟩;obtain⟨u,r,l⟩:=hl i x v e1 e2 e3;apply⟨u,r,?_⟩;rcases l with l|⟨k,c,e,z⟩
  .exact .inl l
  .exact .inr ⟨k,c,e,cellK x c e _ z⟩
 .obtain⟨v,z⟩:=I.cell x c e;exact⟨v,cellK x c e v z⟩
 .obtain⟨m, ⟨o,_,_,ho,_⟩,_⟩:=I.loc;exact free _ o (λz=>(Ec _ z).2.1 rfl) ho I.free
 .obtain⟨v,o,ho,hd⟩:=I.cell x c e;exact free c o (λz=>(Ec c z).2.2.1 x c e rfl) ho (I.fA x c e)
 .obtain⟨e,n,ne,nf,d⟩:=I.pin p hp;have NA:p.1∉ch:=λz=>(Ec p.1 z).2.2.2 p hp rfl;exact⟨keep p.1 p.2 ne nf NA e n,free p.1 p.2 NA e n,ne,nf,d⟩
theorem Inv.un {t':Nat} (I:Inv X pins σ H s) (u:Un X.fs [] H H' s.heap h') (b8:iS X.prog X.w H' h'):Inv X pins σ H' {s with heap:=h',toks:=t'}:=by
 obtain⟨m, ⟨o,es,ep,ho,r⟩,_⟩:=id I.loc;obtain⟨sl,hL⟩:=u.any ho I.free (by simp)
 exact I.step (g':=s.gens) (d':=s.drawn) (ch:=[]) (λ_ z=>nomatch z) (λb o _ hb _ e n=>u.keep b o e n hb (by simp)) (λb o _ hb _ e n=>u.slot b o e n hb (by simp)) (λb o _ e n=>u.free b o e n (by simp)) (λb o _ e=>u.there b o e (by simp)) u.pP u.l7 u.pQ (λm' hm=>by
  obtain⟨o',Jo,Jp,rp,r'⟩:=hm;rw[ho]at rp;cases rp
  exact⟨_,Jo,Jp,hL,r'⟩) b8 I.bare
theorem Inv.call {g':Array GenState} {t':Nat} {d':Drawn} {ch:List Addr} (I:Inv X pins σ H s) (u:Un (zj X.stack) ch H H' s.heap h') (b8:iS X.prog X.w H' h') (hg:AllBare g')
  (Ec:∀b∈ch, (b∈X.ex\/X.s₀.heap.objs.size<=b)/\b≠X.env.locals/\(∀x c,X.env.cells.lookup x=some c->c≠b)/\∀p∈X.pn++pins,p.1≠b):
  Inv X pins σ H' {s with heap:=h',gens:=g',drawn:=d',toks:=t'}:=by
 obtain⟨m, ⟨o,es,ep,ho,r⟩,_⟩:=id I.loc;obtain⟨sl,hL⟩:=u.any ho I.free λz=>(Ec _ z).2.1 rfl
 exact I.step (ch:=ch) Ec (λb o hL hb hc e n=>u.keep b o e n (λz=>(AG.mp (I.uM b z)).elim hL hb) hc) (λb o _ _ hc e n=>u.any e n hc) (λb o hc e n=>u.free b o e n hc) (λb o hc e=>u.there b o e hc) u.pP u.l7 u.pQ (λm' hm=>by
  obtain⟨o',Jo,Jp,rp,r'⟩:=hm;rw[ho]at rp;cases rp
  exact⟨_,Jo,Jp,hL,r'⟩) b8 hg
theorem Inv.turned {t':Nat} {it:Addr} (I:Inv X pins σ H s) (k:∀b o,b≠it->s.heap.get? b=some o->h'.get? b=some o) (hn:H it=none) (hL:it≠X.env.locals)
  (h1:it∈X.ex\/X.s₀.heap.objs.size<=it) (h2:∀x c,X.env.cells.lookup x=some c->c≠it) (h3:∀p∈X.pn++pins,p.1≠it):Inv X pins σ H {s with heap:=h',toks:=t'}:=by
 have Vj:∀b u,H b=some u->b≠it:=λb u e z=>by rw[z,hn]at e;cases e
 apply I.step (g':=s.gens) (d':=s.drawn) (ch:=[it]) (λb hb=>?_) (λb o _ _ hc e _=>k b o (λz=>hc (by simp[z])) e) (λb o _ _ hc e _=>⟨o.slots,k b o (λz=>hc (by simp[z])) e⟩) (λ_ _ _ _ n=>n)
  (λb o hc e=>⟨o,k b o (λz=>hc (by simp[z])) e⟩) (λ_ _ e=>e) (λ_ _ _ e=>e) (λb ps e=>⟨#[],by rw[e];simp⟩) (λm hm=>?_) (λb u e=>?_) I.bare
 .have e:b=it:=by simpa using hb
  subst e;exact⟨h1,hL,h2,h3⟩
 .obtain⟨o,es,ep,ho,r⟩:=hm;exact⟨o,es,ep,k _ o (G3 hL) ho,r⟩
 .refine(I.b8 b u e).lY (λc v hc q=>k c v ?_ q) (λ_ q=>q) λ_ _ q=>q;rcases hc with z|z
  .rw[z];exact Vj b u e
  .exact Vj c _ z
theorem Inv.tok (I:Inv X pins σ H s) (t:Nat):Inv X pins σ H {s with toks:=t}:=I.un (h':=s.heap) (t':=t) Un.refl I.b8
theorem Inv.kept {t':Nat} (I:Inv X pins σ H s) (k:∀b u,s.heap.get? b=some u->h'.get? b=some u):Inv X pins σ H {s with heap:=h',toks:=t'}:=I.un (Un.kept k) (I.b8.kept k)
theorem Inv.laid {a:Addr} {o:HO} {t':Nat} (I:Inv X pins σ H s) (k:∀b u,s.heap.get? b=some u->h'.get? b=some u) (hp:s.heap.objs.size<=a) (new:cf X.prog X.w (upd H a o) h' a o):
  Inv X pins σ (upd H a o) {s with heap:=h',toks:=t'}:=I.un (Un.laid k hp (I.b8.fresh hp)) (I.b8.laid k hp new)
theorem Inv.write {x e:Addr} {o:HO} {t':Nat} (I:Inv X pins σ H s) (mu:Fm (H x)) (he:e=x\/H e=some (.own x)) (k:∀b u,b≠e->s.heap.get? b=some u->h'.get? b=some u) (vV:∃u,h'.get? e=some u)
  (new:cf X.prog X.w (upd H x o) h' x o):Inv X pins σ (upd H x o) {s with heap:=h',toks:=t'}:=I.un (Un.write mu he k vV) (I.b8.write mu he k vV new)
theorem Inv.weak {σ':List (Option V)} (I:Inv X pins σ H s) (hl:σ'.length=σ.length) (w:∀(i:Nat) v,σ'[i]? =some (some v)->σ[i]? =some (some v)):Inv X pins σ' H s:=
 ⟨I.ok,I.os,I.bare,I.base,let⟨m,hn,oy⟩:=I.loc; ⟨m,hn,λi x v e1 e2 e3=>oy i x v e1 (w i v e2) e3⟩,I.cell,I.free,I.fA,I.pin,I.b8,hl.trans I.len⟩
theorem Inv.wO {Kb:List (Addr×Obj)} (I:Inv X pins σ H s) (h:∀p∈Kb,s.heap.get? p.1=some p.2/\H p.1=none/\p.1≠X.env.locals/\p.1∉X.fs/\∀v,p.2.data≠.cell v):Inv X Kb σ H s:=
 ⟨I.ok,I.os,I.bare,I.base,I.loc,I.cell,I.free,I.fA,λp hp=>(AU.mp hp).elim (λz=>I.pin p (C0 _ z)) (h p),I.b8,I.len⟩
theorem mS {N:List Str} (hN:N.Nodup) {i j:Nat} {x:Str} (a:N[i]? =some x) (b:N[j]? =some x):i=j:=by
 obtain⟨h1,e1⟩:=BN.mp a;obtain⟨h2,e2⟩:=BN.mp b;exact(List.getElem_inj hN).mp (e1.trans e2.symm)
theorem oT {M:Model} {A:Around} {E:Value->Shared->Prop} {i:Nat} {x:Str} {v:V} {u:Value} {Q:Unit->Shared->Prop} (I:Inv X pins σ H s) (hN:X.N.Nodup) (hi:X.N[i]? =some x) (hx:Loc X.env.scope x) (r:RelV v u)
  (h:∀s',Inv X pins (σ.set i (some v)) H s'->(∃a,Heap.SameBut a s.heap s'.heap/\(a=X.env.locals\/X.env.cells.lookup x=some a))->Q () s') (hf:X.fn x=true\/X.env.scope.names.lookup x=some .local:=by first|exact .inl rfl|exact .inr rfl|assumption):wpAny M A (storeName X.env x u) Q E s:=by
 obtain⟨m,hn,hl⟩:=id I.loc;have Ur:(X.env.scope.kind== .class||(X.env.scope.kind== .module&&X.env.locals !=X.env.globals))=false:=by rw[I.ok.kind];rfl
 have hiσ:i<σ.length:=by rw[I.len];exact(BN.mp hi).1
 have Lb:=I.Lb
 have tracked:∀{a:Addr} {h':Heap}, (∃o,s.heap.get? a=some o/\H a=none)->Heap.SameBut a s.heap h'->iS X.prog X.w H h':=λ{a h'} ha hs b ob e=>by
  obtain⟨_,_,oJ⟩:=ha;apply(I.b8 b ob e).lY (λc w' hc q=>(hs.2 c ?_).trans q) (λ_ q=>q) λ_ _ q=>q;rintro rfl;rcases hc with rfl|hc
  .rw[oJ]at e;cases e
  .rw[oJ]at hc;cases hc
 rcases hx with hk|hk
 .refine wpAny_storeName_local hk hn (λh' xA hs=>?_) Ur;obtain⟨oL,_,_,Yk,_⟩:=id hn;apply h _ ⟨I.ok,I.os,I.bare, ⟨λb o e n hb hx=>?_,λb o e n hb hx=>?_,I.base.free,λb o e hx=>?_,I.base.pP,I.base.l7,I.base.pQ⟩, ⟨_,xA,λj y v' e1 e2 e3=>?_⟩,λy c e=>?_,I.free,I.fA,λp hp=>?_,tracked ⟨oL,Yk,I.free⟩ hs,by simpa using I.len⟩ ⟨_,hs,.inl rfl⟩
  .exact(hs.2 b (B9 (BB (Heap.lt_size e) I.ok.above))).trans (I.base.keep b o e n hb hx)
  .obtain⟨sl,e1⟩:=I.base.slot b o e n hb hx;exact⟨sl, (hs.2 b (B9 (BB (Heap.lt_size e) I.ok.above))).trans e1⟩
  .obtain⟨o',e1⟩:=I.base.there b o e hx;exact⟨o', (hs.2 b (B9 (BB (Heap.lt_size e) I.ok.above))).trans e1⟩
  .by_cases hj:j=i
   .subst hj;rw[hi]at e1;cases e1;rw[ED hiσ]at e2;cases e2;exact⟨u,r,.inl ⟨hk,by simp⟩⟩
   .rw[ES (G3 hj)]at e2;obtain⟨u',r',q⟩:=hl j y v' e1 e2 e3;apply⟨u',r',?_⟩;rcases q with⟨k,e⟩|⟨k,c,e,z⟩
    .refine .inl ⟨k,?_⟩;have:y≠x:=λe=>hj (mS hN e1 (e▸hi));simp[this,e]
    .exact .inr ⟨k,c,e,z.sameBut hs (Lb y c e)⟩
  .obtain⟨w',z⟩:=I.cell y c e;exact⟨w',z.sameBut hs (Lb y c e)⟩
  .obtain⟨e,n,ne,nf,d⟩:=I.pin p hp;exact⟨(hs.2 p.1 ne).trans e,n,ne,nf,d⟩
 .have Sh:X.fn x=true:=by
   rcases hf with z|z
   .exact z
   .rw[z]at hk;cases hk
  obtain⟨c,hc⟩:=I.ok.has x (.inl hk);obtain⟨w',z⟩:=I.cell x c hc;apply wpAny_storeName_cell I.ok.kind hk hc z (λh' Jl hs=>?_);obtain⟨oc,VI,TZ⟩:=id z;apply h {s with heap:=h'} ⟨I.ok,I.os,I.bare, ⟨λb o e n hb hx=>?_,λb o e n hb hx=>?_,I.base.free,λb o e hx=>?_,I.base.pP,I.base.l7,I.base.pQ⟩, ⟨m,hn.sameBut hs (G3 (Lb x c hc)),λj y v' e1 e2 e3=>?_⟩,λy c' e=>?_,I.free,I.fA,λp hp=>?_,tracked ⟨oc,VI,I.fA x c hc⟩ hs,by simpa using I.len⟩ ⟨c,hs,.inr hc⟩
  .exact(hs.2 b (B9 (BB (Heap.lt_size e) (I.ok.N8 x c Sh hc)))).trans (I.base.keep b o e n hb hx)
  .obtain⟨sl,e1⟩:=I.base.slot b o e n hb hx;exact⟨sl, (hs.2 b (B9 (BB (Heap.lt_size e) (I.ok.N8 x c Sh hc)))).trans e1⟩
  .obtain⟨o',e1⟩:=I.base.there b o e hx;exact⟨o', (hs.2 b (B9 (BB (Heap.lt_size e) (I.ok.N8 x c Sh hc)))).trans e1⟩
  .by_cases hj:j=i
   .subst hj;rw[hi]at e1;cases e1;rw[ED hiσ]at e2;cases e2;exact⟨u,r,.inr ⟨.inl hk,c,hc,Jl⟩⟩
   .rw[ES (G3 hj)]at e2;obtain⟨u',r',q⟩:=hl j y v' e1 e2 e3;apply⟨u',r',?_⟩;rcases q with q|⟨k,c',e,z'⟩
    .exact .inl q
    .refine .inr ⟨k,c',e,z'.sameBut hs ?_⟩;rintro rfl;exact hj (mS hN e1 (I.ok.inj _ _ _ e hc▸hi))
  .by_cases QS:c'=c
   .subst QS;exact⟨_,Jl⟩
   .obtain⟨w2,z2⟩:=I.cell y c' e;exact⟨w2,z2.sameBut hs QS⟩
  .obtain⟨e,n,ne,nf,d⟩:=I.pin p hp;apply⟨(hs.2 p.1 ?_).trans e,n,ne,nf,d⟩;intro q;rw[q,VI]at e;have q':oc=p.2:=AH e;exact d w' (by rw[<-q'];exact TZ)
theorem mL {M:Model} {A:Around} {E:Value->Shared->Prop} {i:Nat} {x:Str} {v:V} {u:Value} {Q:Unit->Shared->Prop} (I:Inv X pins σ H s) (hN:X.N.Nodup) (hi:X.N[i]? =some x) (hx:Loc X.env.scope x) (r:RelV v u)
  (h:∀s',Inv X pins (σ.set i (some v)) H s'->Q () s') (hf:X.fn x=true\/X.env.scope.names.lookup x=some .local:=by first|exact .inl rfl|exact .inr rfl|assumption):wpAny M A (storeName X.env x u) Q E s:=
 oT I hN hi hx r (λs' I' _=>h s' I') hf
theorem Inv.P6 {s':Shared} {ch:List Addr} (I:Inv X pins σ H s) (ho:s'.os=s.os) (u:Un (zj X.stack) ch H H' s.heap s'.heap) (b8:iS X.prog X.w H' s'.heap) (hg:AllBare s'.gens)
  (Ec:∀b∈ch, (b∈X.ex\/X.s₀.heap.objs.size<=b)/\b≠X.env.locals/\(∀x c,X.env.cells.lookup x=some c->c≠b)/\∀p∈X.pn++pins,p.1≠b):Inv X pins σ H' s':=by
 obtain⟨h',g',d',t',o'⟩:=s';have e:o'=s.os:=ho;subst e;exact I.call (g':=g') (t':=t') (d':=d') u b8 hg Ec
end
abbrev XK:=Value->Option Addr->Hp->Prop
abbrev St:=List (Option V)
abbrev VK:=V->Hp->Prop
abbrev TE:=St->Hp->VK->Prop
abbrev TT:=St->Hp->(Bool->Hp->Prop)->Prop
abbrev TA:=St->Hp->(List V->Hp->Prop)->Prop
structure Ends where
 nx:St->Hp->Prop
 rt:VK
 bk:St->Hp->Prop:=λ_ _=>False
 ct:St->Hp->Prop:=λ_ _=>False
abbrev TS:=Ends->St->Hp->Prop
inductive EP (X:Cx) (pins:List (Addr×Obj)) (σ:St) (Q:VK) (u:Value) (s':Shared):Prop
 |i (v H':_) (_:Inv X pins σ H' s') (_:RelV v u) (_:Q v H')
inductive TP (X:Cx) (pins:List (Addr×Obj)) (σ:St) (Q:Bool->Hp->Prop) (b:Bool) (s':Shared):Prop
 |i (H':_) (_:Inv X pins σ H' s') (_:Q b H')
inductive AP (X:Cx) (pins:List (Addr×Obj)) (σ:St) (Q:List V->Hp->Prop) (us:List Value) (s':Shared):Prop
 |i (vs H':_) (_:Inv X pins σ H' s') (_:Vals vs us) (_:Q vs H')
def SP (X:Cx) (pins:List (Addr×Obj)) (D:Ends) (f:Flow) (s':Shared):Prop:=
 match f with
 | .next=>∃σ' H',Inv X pins σ' H' s'/\D.nx σ' H'
 | .brk=>∃σ' H',Inv X pins σ' H' s'/\D.bk σ' H'
 | .cont=>∃σ' H',Inv X pins σ' H' s'/\D.ct σ' H'
 | .ret u=>∃v σ' H',Inv X pins σ' H' s'/\RelV v u/\D.rt v H'
def PE (X:Cx) (e:Expr) (t:TE):Prop:=
 ∀(pins:List (Addr×Obj)) (s:Shared) (σ:St) (H:Hp) (Q:VK),Inv X pins σ H s->t σ H Q->wpAny (model X.prog X.w) X.A (eval e X.env) (EP X pins σ Q) X.xe s
def PT (X:Cx) (e:Expr) (t:TT):Prop:=
 ∀(pins:List (Addr×Obj)) (s:Shared) (σ:St) (H:Hp) (Q:Bool->Hp->Prop),Inv X pins σ H s->t σ H Q->wpAny (model X.prog X.w) X.A (isTrue e X.env (eval e X.env)) (TP X pins σ Q) X.xe s
def PW (X:Cx) (e:Expr) (t:TT):Prop:=
 ∀(whole:Sem Value) (pins:List (Addr×Obj)) (s:Shared) (σ:St) (H:Hp) (Q:Bool->Hp->Prop),Inv X pins σ H s->t σ H Q->wpAny (model X.prog X.w) X.A (isTrue e X.env whole) (TP X pins σ Q) X.xe s
theorem PW.pt {X:Cx} {e:Expr} {t:TT} (h:PW X e t):PT X e t:=h _
def PA (X:Cx) (es:List Expr) (t:TA):Prop:=
 ∀(pos:Pos) (pins:List (Addr×Obj)) (s:Shared) (σ:St) (H:Hp) (Q:List V->Hp->Prop),Inv X pins σ H s->t σ H Q->wpAny (model X.prog X.w) X.A (spliced (backTo pos (starEach es X.env))) (AP X pins σ Q) X.xe s
def PS (X:Cx) (st:Stmt) (t:TS):Prop:=
 ∀(pins:List (Addr×Obj)) (s:Shared) (σ:St) (H:Hp) (D:Ends),Inv X pins σ H s->t D σ H->wpAny (model X.prog X.w) X.A (exec st X.env) (SP X pins D) X.xe s
def vY (X:Cx) (st:List Stmt) (t:TS):Prop:=
 ∀(pins:List (Addr×Obj)) (s:Shared) (σ:St) (H:Hp) (D:Ends),Inv X pins σ H s->t D σ H->wpAny (model X.prog X.w) X.A (execs st X.env) (SP X pins D) X.xe s
theorem bM {α:Type} {t:Sem α} {Q Q':α->Shared->Prop} {M:Model} {A:Around} {E:Value->Shared->Prop} {s:Shared} (h:wpAny M A t Q E s) (hQ:∀a s,Q a s->Q' a s):wpAny M A t Q' E s:=wpAny_mono h hQ λ_ _ x=>x
end L2
namespace L2
open PySem PySem.Spec PyProof.Rows
section
variable{X:Cx}
def Jq (o:Option (Option V)) (p:V->Prop):Prop:=match o with|some (some v)=>p v|_=>False
theorem Jq.ex {o:Option (Option V)} {p:V->Prop} (h:Jq o p):∃v,o=some (some v)/\p v:=match o,h with|some (some v),h=>⟨v,rfl,h⟩
def jC (x:V) (p:Int->Prop):Prop:=match x with| .int i=>p i|_=>False
theorem jC.ex {x:V} {p:Int->Prop} (h:jC x p):∃v,x= .int v/\p v:=match x,h with| .int v,h=>⟨v,rfl,h⟩
def pM (x:V) (p:Bool->Prop):Prop:=match x with| .bl i=>p i|_=>False
theorem pM.ex {x:V} {p:Bool->Prop} (h:pM x p):∃v,x= .bl v/\p v:=match x,h with| .bl v,h=>⟨v,rfl,h⟩
def iT (x:V) (p:Addr->Prop):Prop:=match x with| .ref i=>p i|_=>False
theorem iT.ex {x:V} {p:Addr->Prop} (h:iT x p):∃v,x= .ref v/\p v:=match x,h with| .ref v,h=>⟨v,rfl,h⟩
def Fl (x:V) (p:Str->Prop):Prop:=match x with| .str i=>p i|_=>False
theorem Fl.ex {x:V} {p:Str->Prop} (h:Fl x p):∃v,x= .str v/\p v:=match x,h with| .str v,h=>⟨v,rfl,h⟩
def ue (x:List V) (p:V->Prop):Prop:=match x with|[i]=>p i|_=>False
theorem ue.ex {x:List V} {p:V->Prop} (h:ue x p):∃v,x=[v]/\p v:=match x,h with|[v],h=>⟨v,rfl,h⟩
theorem UJ {v:V} {p:V->Prop}:Jq (some (some v)) p=p v:=rfl
theorem UL {v:Int} {p:Int->Prop}:jC (.int v) p=p v:=rfl
theorem UM {v:Bool} {p:Bool->Prop}:pM (.bl v) p=p v:=rfl
theorem UK {v:Addr} {p:Addr->Prop}:iT (.ref v) p=p v:=rfl
theorem UI {v:Str} {p:Str->Prop}:Fl (.str v) p=p v:=rfl
def Oc (x:List V) (p:Prop):Prop:=match x with|[]=>p|_=>False
theorem Oc.ex {x:List V} {p:Prop} (h:Oc x p):x=[]/\p:=match x,h with|[],h=>⟨rfl,h⟩
theorem UO {p:Prop}:Oc [] p=p:=rfl
theorem LS.ex {x:List V} {p:Addr->Prop} (h:ue x λy=>iT y p):∃a,x=[.ref a]/\p a:=by
 obtain⟨y,e,h⟩:=ue.ex h;obtain⟨a,e1,h⟩:=iT.ex h;exact⟨a,by rw[e,e1],h⟩
theorem UN {v:V} {p:V->Prop}:ue [v] p=p v:=rfl
theorem Oa.ex {x y:V} {p:Int->Int->Prop} (h:jC x λi=>jC y λj=>p i j):∃i j,x= .int i/\y= .int j/\p i j:=by
 obtain⟨i,e,h⟩:=jC.ex h;obtain⟨j,e1,h⟩:=jC.ex h;exact⟨i,j,e,e1,h⟩
def lX (i:Nat):TE:=λσ H Q=>Jq σ[i]? λv=>Q v H
def tC (v:V):TE:=λ_ H Q=>Q v H
theorem Mm {i:Nat} {x:Str} {pos:Pos} (hN:X.N[i]? =some x) (hv:Nn X.env.scope x) (hd:(x==("__debug__":Str))=false:=by decide) (nJ:(x==("__classdict__":Str))=false:=by decide):PE X (.Name x pos) (lX i):=by
 intro pins s σ H Q I h;obtain⟨v,e,h⟩:=Jq.ex h;obtain⟨m,hn,hl⟩:=I.loc;obtain⟨u,r,l⟩:=hl i x v hN e hv;have fin:EP X pins σ Q u s:=⟨v,H,I,r,h⟩
 rcases l with⟨hk,hm⟩|⟨hk,c,hc,v9⟩
 .exact wpAny_Name (wpAny_loadName_local I.ok.kind hk hn hm fin) hd
 .rcases hk with hk|hk
  .exact wpAny_Name (wpAny_loadName_cell I.ok.kind hk hc v9 fin) hd
  .exact wpAny_Name (wpAny_loadName_free I.ok.kind hk hc v9 fin nJ) hd
theorem ag {i j pos}:PE X (.Constant (.int i) j pos) (tC (.int i)):=λ_ _ _ H _ I h=>wpAny_Constant_int ⟨.int i,H,I.tok _, ⟨_,rfl⟩,h⟩
theorem eu {b j pos}:PE X (.Constant (.bool b) j pos) (tC (.bl b)):=λ_ _ _ H _ I h=>Constant_bool ⟨.bl b,H,I,rfl,h⟩
theorem fT {j pos}:PE X (.Constant .none j pos) (tC .aY):=λ_ _ _ H _ I h=>Constant_none ⟨.aY,H,I,rfl,h⟩
theorem aB {x j pos}:PE X (.Constant (.str x) j pos) (tC (.str x)):=λ_ _ _ H _ I h=>Calls.Constant_str ⟨.str x,H,I.tok _, ⟨_,rfl⟩,h⟩
def Gl (X:Cx) (x:Str):Prop:=X.env.kindOf x=some .globalImplicit
theorem lN {E:Value->Shared->Prop} {pins:List (Addr×Obj)} {s:Shared} {σ:St} {H:Hp} {x:Str} {u:Value} {pos:Pos} {Q:Value->Shared->Prop} (I:Inv X pins σ H s) (hg:Gl X x) (hm:X.mg x=some u) (h:Q u s)
  (hd:(x==("__debug__":Str))=false:=by decide):wpAny (model X.prog X.w) X.A (eval (.Name x pos) X.env) Q E s:=
 Calls.Name_function_global I.ok.kind hg (Calls.loadGlobal_global (by rw[I.ok.glob];exact I.mod.glob.keeps I.bk) hm h) hd
theorem Ay {E:Value->Shared->Prop} {pins:List (Addr×Obj)} {s:Shared} {σ:St} {H:Hp} {x:Str} {u:Value} {pos:Pos} {Q:Value->Shared->Prop} (I:Inv X pins σ H s) (hg:Gl X x) (hm:X.mg x=none) (hv:bootBuiltins x=some u) (h:Q u s)
  (hn:x≠"__name__":=by decide) (hd:(x==("__debug__":Str))=false:=by decide):wpAny (model X.prog X.w) X.A (eval (.Name x pos) X.env) Q E s:=by
 obtain⟨mb,h1,h2⟩:=I.mod.blt;exact Calls.Name_function_global I.ok.kind hg (Calls.loadGlobal_builtin (by rw[I.ok.glob];exact I.mod.glob.keeps I.bk) hm (by rw[I.ok.blt];exact h1.keeps I.bk) ((h2 x hn).trans hv) h) hd
theorem qt {x:Str} {v:V} {u:Value} {pos:Pos} (hg:Gl X x) (hm:X.mg x=some u) (r:RelV v u) (hd:(x==("__debug__":Str))=false:=by decide):PE X (.Name x pos) (tC v):=
 λ_ _ _ H _ I h=>lN I hg hm ⟨v,H,I,r,h⟩ hd
def U3 (ta tb:TE) (k:Int->Int->Hp->Prop):St->Hp->Prop:=λσ H=>ta σ H λx H1=>tb σ H1 λy H2=>jC x λi=>jC y λj=>k i j H2
variable{a b:Expr} {ta tb:TE} {pos:Pos}
def PC (X:Cx) (op:CmpOp) (a b:Expr) (t:TE):Prop:=
 ∀(pins:List (Addr×Obj)) (s:Shared) (σ:St) (H:Hp) (Q:VK),Inv X pins σ H s->t σ H Q->
  wpAny (model X.prog X.w) X.A (eval a X.env) (λv s₁=>wpAny (model X.prog X.w) X.A (eval b X.env) (λu s₂=>wpAny (model X.prog X.w) X.A (compareOp op v u) (EP X pins σ Q) X.xe s₂) X.xe s₁) X.xe s
def S9 (p:Int->Int->Bool) (ta tb:TE):TE:=λσ H Q=>U3 ta tb (λi j H2=>Q (.bl (p i j)) H2) σ H
def tB (t:TE):TT:=λσ H Q=>t σ H λx H1=>pM x λc=>Q c H1
theorem uP {op:CmpOp} {t:TE} (h:PC X op a b t) (h1:behindInMarks op b=false:=by first|exact Qh _ nofun nofun|rfl):PT X (.Compare a [op] [b] pos) (tB t):=by
 intro pins s σ H Q I hw;apply wpAny_isTrue_Compare1 (bM (h pins s σ H _ I hw) λv s1 h1=>bM h1 λu s2 h2=>bM h2 λc s3 ⟨x,H1,I1,r1,q1⟩=>?_) h1;obtain⟨d,rfl,q⟩:=pM.ex q1;cases r1;exact wpAny_truthy_bool ⟨H1,I1,q⟩
theorem c7 {e:Expr} {t:TE} (h:PE X e t) (he:∀whole,isTrue e X.env whole=(do let v <-whole;standAt e.pos;holding [v] (truthy v)):=by intro _;rfl):PT X e (tB t):=by
 intro pins s σ H Q I hw;apply isTrue_plain (bM (h pins s σ H _ I hw) λv s1 ⟨x,H1,I1,r1,q1⟩=>?_) (he _);obtain⟨d,rfl,q⟩:=pM.ex q1;cases r1;exact wpAny_truthy_bool ⟨H1,I1,q⟩
variable{tA Qk:TT} {rest:List Expr}
def Fv (t u:TT):TT:=λσ H Q=>t σ H λc H1=>if c=true then u σ H1 Q else Q false H1
def U1 (t u:TT):TT:=λσ H Q=>t σ H λc H1=>if c=true then Q true H1 else u σ H1 Q
def Ot (t:TT):TT:=λσ H Q=>t σ H λc H1=>Q (!c) H1
theorem a9 (ha:PT X a tA):PW X (.BoolOp .And [a] pos) tA:=by
 intro wh pins s σ H Q I h;apply isTrue_and (bM (ha pins s σ H Q I h) λc s1 e=>?_);cases c with
 |true=>exact isTrue_and_nil e
 |false=>exact e
theorem fS (ha:PT X a tA):PW X (.BoolOp .Or [a] pos) tA:=by
 intro wh pins s σ H Q I h;apply isTrue_or (bM (ha pins s σ H Q I h) λc s1 e=>?_);cases c with
 |false=>exact isTrue_or_nil e
 |true=>exact e
theorem bG (ha:PT X a tA) (hb:PW X (.BoolOp .And (b::rest) pos) Qk):PW X (.BoolOp .And (a::b::rest) pos) (Fv tA Qk):=by
 intro wh pins s σ H Q I h;apply isTrue_and (bM (ha pins s σ H _ I h) λc s1 ⟨H1,I1,q1⟩=>?_);cases c with
 |true=>exact hb wh pins s1 σ H1 Q I1 q1
 |false=>exact⟨H1,I1,q1⟩
theorem hU (ha:PT X a tA) (hb:PW X (.BoolOp .Or (b::rest) pos) Qk):PW X (.BoolOp .Or (a::b::rest) pos) (U1 tA Qk):=by
 intro wh pins s σ H Q I h;apply isTrue_or (bM (ha pins s σ H _ I h) λc s1 ⟨H1,I1,q1⟩=>?_);cases c with
 |true=>exact⟨H1,I1,q1⟩
 |false=>exact hb wh pins s1 σ H1 Q I1 q1
theorem mz (ha:PT X a tA):PT X (.UnaryOp .Not a pos) (Ot tA):=by
 intro pins s σ H Q I h;exact isTrue_not (bM (ha pins s σ H (λc H1=>Q (!c) H1) I h) λ_ _ ⟨H1,I1,q⟩=>⟨H1,I1,q⟩)
def Jy (ta tb:TE):TE:=λσ H Q=>ta σ H λx H1=>pM x λc=>if c=true then tb σ H1 Q else Q (.bl false) H1
def Oq (ta tb:TE):TE:=λσ H Q=>ta σ H λx H1=>pM x λc=>if c=true then Q (.bl true) H1 else tb σ H1 Q
def Jw (ta:TE):TE:=λσ H Q=>ta σ H λx H1=>pM x λc=>Q (.bl (!c)) H1
theorem uS {op} {t:TE} (h:PE X a t):PE X (.BoolOp op [a] pos) t:=λpins s σ H Q I hw=>BoolOp_one (h pins s σ H Q I hw)
theorem As (ha:PE X a ta) (hb:PE X (.BoolOp .And (b::rest) pos) tb):PE X (.BoolOp .And (a::b::rest) pos) (Jy ta tb):=by
 intro pins s σ H Q I h;apply BoolOp_and (bM (ha pins s σ H _ I h) λv s1 ⟨x,H1,I1,r1,q1⟩=>?_);obtain⟨c,rfl,q1⟩:=pM.ex q1;cases r1;apply wpAny_truthy_bool ?_;cases c with
 |true=>exact hb pins s1 σ H1 Q I1 q1
 |false=>exact⟨.bl false,H1,I1,rfl,q1⟩
theorem Pw (ha:PE X a ta) (hb:PE X (.BoolOp .Or (b::rest) pos) tb):PE X (.BoolOp .Or (a::b::rest) pos) (Oq ta tb):=by
 intro pins s σ H Q I h;apply BoolOp_or (bM (ha pins s σ H _ I h) λv s1 ⟨x,H1,I1,r1,q1⟩=>?_);obtain⟨c,rfl,q1⟩:=pM.ex q1;cases r1;apply wpAny_truthy_bool ?_;cases c with
 |false=>exact hb pins s1 σ H1 Q I1 q1
 |true=>exact⟨.bl true,H1,I1,rfl,q1⟩
theorem Ar (ha:PE X a ta):PE X (.UnaryOp .Not a pos) (Jw ta):=by
 intro pins s σ H Q I h;apply UnaryOp_ (bM (ha pins s σ H _ I h) λv s1 ⟨x,H1,I1,r1,q1⟩=>?_);obtain⟨c,rfl,q1⟩:=pM.ex q1;cases r1;exact not_of (wpAny_truthy_bool ⟨.bl (!c),H1,I1,rfl,q1⟩)
def Ru (t:TT) (ta tb:TE):TE:=λσ H Q=>t σ H λc H1=>if c=true then ta σ H1 Q else tb σ H1 Q
theorem mP {c:Expr} (hc:PT X c tA) (ha:PE X a ta) (hb:PE X b tb):PE X (.IfExp c a b pos) (Ru tA ta tb):=by
 intro pins s σ H Q I h;apply wpAny_IfExp (bM (hc pins s σ H _ I h) λd s1 ⟨H1,I1,q1⟩=>?_);cases d with
 |true=>exact ha pins s1 σ H1 Q I1 q1
 |false=>exact hb pins s1 σ H1 Q I1 q1
end
end L2
namespace L2
open PySem PySem.Spec PyProof.Rows
def aL (K:AD) (H:Hp) (a:Addr) (xs:List V):Prop:=
 Rd H a (.lst xs)\/
  ∃(o:Obj) (aP:Array Value) (n:Nat),K.lookup a=some o/\o.cls= .type "list"/\o.dict=none/\o.data= .seq aP n/\aP.size<=sizeLine/\Vals xs aP.toList
def bC (K:AD) (H:Hp) (a:Addr) (xs:List V):Prop:=
 Rd H a (.tup xs)\/
  ∃(o:Obj) (aP:Array Value) (n:Nat),K.lookup a=some o/\o.cls= .type "tuple"/\o.data= .seq aP n/\aP.size<=sizeLine/\Vals xs aP.toList
def UP:Value->Option V
 | .none=>some .aY
 | .bool b=>some (.bl b)
 | .int i _=>some (.int i)
 | .str x _=>some (.str x)
 | .bytes b _=>some (.vW b)
 | .float b _=>some (.Ra b)
 | .ref a=>some (.ref a)
 | .type n=>some (.ty n)
 |_=>none
theorem RelV.abs {x:V} {u:Value} (r:RelV x u):UP u=some x:=by
 cases x with
 |aY=>cases r;rfl
 |bl _=>cases r;rfl
 |int _=>obtain⟨t,rfl⟩:=r;rfl
 |str _=>obtain⟨t,rfl⟩:=r;rfl
 |vW _=>obtain⟨t,rfl⟩:=r;rfl
 |Ra _=>obtain⟨t,rfl⟩:=r;rfl
 |ref _=>cases r;rfl
 |ty _=>cases r;rfl
theorem RelV.inj {x y:V} {u:Value} (r:RelV x u) (q:RelV y u):x=y:=AH (r.abs.symm.trans q.abs)
theorem Vals.inj:∀{xs ys:List V} {us:List Value},Vals xs us->Vals ys us->xs=ys
 |_,_,_,.nil,.nil=>rfl
 |_,_,_,.cons r t,.cons r' t'=>by rw[r.inj r',Vals.inj t t']
section
variable{X:Cx} {pins:List (Addr×Obj)} {σ:St} {H:Hp} {s:Shared} {a:Addr} {xs ys:List V}
theorem aL.of {K:AD} (h:H a=some (.lst xs)):aL K H a xs:= .inl (.inl h)
theorem bC.of {K:AD} (h:H a=some (.tup xs)):bC K H a xs:= .inl (.inl h)
theorem Inv.list (I:Inv X pins σ H s) (h:aL X.K H a xs):∃aP:List Value,Vals xs aP/\PlainL s.heap a aP.toArray/\xs.length<=sizeLine:=by
 rcases h with h|⟨o,aP,n,hk,hc,hd,hs,hz,r⟩
 .obtain⟨z,aP,n,r,e⟩:=h.ok I.b8;exact⟨aP,r, ⟨_,n,e,rfl,rfl,rfl⟩,z⟩
 .refine⟨aP.toList,r, ⟨o,n,I.t8 a o hk,hc,hd,by simpa using hs⟩,?_⟩;have e:=r.length;simp only[CW]at e;lia
theorem Inv.tuple (I:Inv X pins σ H s) (h:bC X.K H a xs):∃aP:List Value,Vals xs aP/\IsTup s.heap a aP.toArray/\xs.length<=sizeLine:=by
 rcases h with h|⟨o,aP,n,hk,hc,hs,hz,r⟩
 .obtain⟨z,aP,r,p⟩:=h.ok I.b8;exact⟨aP,r,p,z⟩
 .refine⟨aP.toList,r, ⟨o,I.t8 a o hk,hc,n,by simpa using hs⟩,?_⟩;have e:=r.length;simp only[CW]at e;omega
theorem Inv.Cm (I:Inv X pins σ H s) (h:aL X.K H a xs) (h':aL X.K H a ys):xs=ys:=by
 obtain⟨aP,r, ⟨o,n,e,_,_,d⟩,_⟩:=I.list h;obtain⟨its',r', ⟨o',n',e',_,_,d'⟩,_⟩:=I.list h';rw[e]at e';cases e';rw[d]at d';injection d' with d1 _;have:aP=its':=by simpa using congrArg Array.toList d1
 subst this;exact r.inj r'
end
abbrev Cx.nU (X:Cx) (E:Value->Shared->Prop):Cx:={X with xe:=E}
abbrev Cx.M0 (X:Cx):Cx:=X.nU λ_ _=>False
theorem Cx.Ok.nU {X:Cx} (ok:X.Ok) (E:Value->Shared->Prop):(X.nU E).Ok:=
 ⟨ok.mod,ok.kind,ok.glob,ok.blt,ok.above,ok.inj,ok.has,ok.N8,ok.hd,ok.frames,ok.rg,ok.Rb,ok.bs,ok.Fj,ok.zw,ok.zI,ok.lr,ok.K9⟩
theorem Cx.Ok.gu {X:Cx} {E:Value->Shared->Prop} (ok:(X.nU E).Ok):X.Ok:=
 ⟨ok.mod,ok.kind,ok.glob,ok.blt,ok.above,ok.inj,ok.has,ok.N8,ok.hd,ok.frames,ok.rg,ok.Rb,ok.bs,ok.Fj,ok.zw,ok.zI,ok.lr,ok.K9⟩
section
variable{X:Cx} {pins:List (Addr×Obj)} {σ:St} {H:Hp} {s:Shared} {E:Value->Shared->Prop}
theorem Inv.nU (I:Inv X pins σ H s) (E:Value->Shared->Prop):Inv (X.nU E) pins σ H s:=⟨I.ok.nU E,I.os,I.bare,I.base,I.loc,I.cell,I.free,I.fA,I.pin,I.b8,I.len⟩
theorem Inv.gu (I:Inv (X.nU E) pins σ H s):Inv X pins σ H s:=⟨I.ok.gu,I.os,I.bare,I.base,I.loc,I.cell,I.free,I.fA,I.pin,I.b8,I.len⟩
theorem SP.gu {D:Ends} {f:Flow} {s':Shared} (h:SP (X.nU E) pins D f s'):SP X pins D f s':=by
 cases f with
 |next=>obtain⟨σ',H',I,q⟩:=h;exact⟨σ',H',I.gu,q⟩
 |brk=>obtain⟨σ',H',I,q⟩:=h;exact⟨σ',H',I.gu,q⟩
 |cont=>obtain⟨σ',H',I,q⟩:=h;exact⟨σ',H',I.gu,q⟩
 |ret u=>obtain⟨v,σ',H',I,r,q⟩:=h;exact⟨v,σ',H',I.gu,r,q⟩
theorem vY.M0 {st:List Stmt} {t:TS} (h:vY X.M0 st t):vY X st t:=λpins s σ H D I hw=>
 wpAny_mono (h pins s σ H D (I.nU _) hw) (λ_ _ q=>q.gu) λ_ _ z=>CG z
end
section
variable{X:Cx} {st:Stmt} {rest:List Stmt} {t u:TS} {e:Expr} {te:TE} {pos:Pos}
def zM:TS:=λD σ H=>D.nx σ H
def zt (t u:TS):TS:=λD σ H=>t {D with nx:=u D} σ H
theorem Hi:vY X [] zM:=λ_ _ σ H _ I h=>wpAny_execs_nil ⟨σ,H,I,h⟩
theorem Bw (h1:PS X st t) (h2:vY X rest u):vY X (st::rest) (zt t u):=by
 intro pins s σ H D I h;apply wpAny_execs_cons (bM (h1 pins s σ H {D with nx:=u D} I h) λf s1 q=>?_);cases f with
 |next=>
  obtain⟨σ',H',I',q⟩:=q;exact h2 pins s1 σ' H' D I' q
 |ret v=>exact q
 |brk=>exact q
 |cont=>exact q
theorem Hh (h1:PS X st t):vY X [st] t:=by
 intro pins s σ H D I h;apply wpAny_execs_cons (bM (h1 pins s σ H D I h) λf s1 q=>?_);cases f with
 |next=>exact wpAny_execs_nil q
 |ret v=>exact q
 |brk=>exact q
 |cont=>exact q
theorem Inv.quiet {pins:List (Addr×Obj)} {σ:St} {H:Hp} {s:Shared} (I:Inv X pins σ H s):interactive X.env=false:=by simp[interactive,I.ok.kind]
def zO (te:TE):TS:=λD σ H=>te σ H λ_ H1=>D.nx σ H1
theorem au (he:PE X e te) (hs:swapsWith e none pos.line X.env=pure false:=by rfl):PS X (.Expr e pos) (zO te):=by
 intro pins s σ H D I h;exact wpAny_Expr_any (bM (he pins s σ H _ I h) λv s1 ⟨x,H1,I1,r1,q1⟩=>⟨σ,H1,I1,q1⟩) I.quiet hs
def Oo (te:TE):TS:=λD σ H=>te σ H D.rt
theorem ao (he:PE X e te):PS X (.Return (some e) pos) (Oo te):=by
 intro pins s σ H D I h;exact wpAny_Return_some (bM (he pins s σ H _ I h) λv s1 ⟨x,H1,I1,r1,q1⟩=>⟨x,σ,H1,I1,r1,q1⟩)
def Ju:TS:=λD _ H=>D.rt .aY H
theorem qr:PS X (.Return none pos) Ju:=λ_ _ σ H _ I h=>wpAny_Return_none ⟨.aY,σ,H,I,rfl,h⟩
def Ft (c:TT) (t u:TS):TS:=λD σ H=>c σ H λb H1=>if b=true then t D σ H1 else u D σ H1
theorem aw {c:Expr} {a b:List Stmt} {tc:TT} (hc:PT X c tc) (ha:vY X a t) (hb:vY X b u):PS X (.If c a b pos) (Ft tc t u):=by
 intro pins s σ H D I h;apply wpAny_If (bM (hc pins s σ H _ I h) λd s1 ⟨H1,I1,q1⟩=>?_);cases d with
 |true=>exact ha pins s1 σ H1 D I1 q1
 |false=>exact hb pins s1 σ H1 D I1 q1
end
abbrev TG:=V->St->Hp->(St->Hp->Prop)->Prop
def PG (X:Cx) (target:Expr) (t:TG):Prop:=
 ∀(pins:List (Addr×Obj)) (s:Shared) (σ:St) (H:Hp) (v:V) (u:Value) (Q:St->Hp->Prop),Inv X pins σ H s->RelV v u->t v σ H Q->
  wpAny (model X.prog X.w) X.A (assign target X.env u) (λ_ s'=>∃σ' H',Inv X pins σ' H' s'/\Q σ' H') X.xe s
abbrev Rj:=V->V->Hp->VK->Prop
def SU (X:Cx) (op:Operator) (t:Rj):Prop:=
 ∀(pins:List (Addr×Obj)) (s:Shared) (σ:St) (H:Hp) (x y:V) (v u:Value) (Q:VK),Inv X pins σ H s->RelV x v->RelV y u->t x y H Q->
  wpAny (model X.prog X.w) X.A (inplaceOp op v u) (EP X pins σ Q) X.xe s
section
variable{X:Cx} {pos:Pos}
def gq (i:Nat):TG:=λv σ H Q=>Q (σ.set i (some v)) H
theorem bI {i:Nat} {x:Str} (hN:X.N.Nodup) (hi:X.N[i]? =some x) (hx:Loc X.env.scope x) (hf:X.fn x=true\/X.env.scope.names.lookup x=some .local:=by first|exact .inl rfl|exact .inr rfl|assumption):PG X (.Name x pos) (gq i):=by
 intro pins s σ H v u Q I r h;exact wpAny_assign_Name (mL I hN hi hx r (λs' I'=>⟨_,H,I',h⟩) hf)
def Fu (te:TE) (g:TG):TS:=λD σ H=>te σ H λx H1=>g x σ H1 D.nx
theorem Mj {i:Nat} {x:Str} {e:Expr} {te:TE} {pos':Pos} (hN:X.N.Nodup) (hi:X.N[i]? =some x) (hx:Loc X.env.scope x) (he:PE X e te) (hs:swapsWith e (some (.Name x pos')) pos.line X.env=pure false:=by rfl) (hf:X.fn x=true\/X.env.scope.names.lookup x=some .local:=by first|exact .inl rfl|exact .inr rfl|assumption):
  PS X (.Assign [.Name x pos'] e pos) (Fu te (gq i)):=by
 intro pins s σ H D I h;apply wpAny_Assign_Name (bM (he pins s σ H _ I h) λv s1 ⟨y,H1,I1,r1,q1⟩=>?_) hs;exact mL I1 hN hi hx r1 (λs2 I2=>⟨_,H1,I2,q1⟩) hf
def Ow (i:Nat) (te:TE) (ti:Rj):TS:=λD σ H=>Jq σ[i]? λx=>te σ H λy H1=>ti x y H1 λz H2=>D.nx (σ.set i (some z)) H2
theorem eD {i:Nat} {x:Str} {e:Expr} {te:TE} {op:Operator} {ti:Rj} {pos':Pos} (hN:X.N.Nodup) (hi:X.N[i]? =some x) (hx:Loc X.env.scope x) (he:PE X e te) (ho:SU X op ti) (hf:X.fn x=true\/X.env.scope.names.lookup x=some .local:=by first|exact .inl rfl|exact .inr rfl|assumption):
  PS X (.AugAssign (.Name x pos') op e pos) (Ow i te ti):=by
 intro pins s σ H D I h;obtain⟨v,e1,h⟩:=Jq.ex h;obtain⟨m,hn,hl⟩:=I.loc;have WR:Nn X.env.scope x:=by rcases hx with k|k;exact .inl k;exact .inr (.inl k)
 obtain⟨u,r,l⟩:=hl i x v hi e1 WR;apply wpAny_AugAssign_Name ?_
 have go:wpAny (model X.prog X.w) X.A (eval e X.env) (λw s₂=>wpAny (model X.prog X.w) X.A (inplaceOp op u w) (λr s₃=>wpAny (model X.prog X.w) X.A (storeName X.env x r) (λ_=>SP X pins D .next) X.xe s₃) X.xe s₂) X.xe s:=by
  apply bM (he pins s σ H _ I h) λw s1 ⟨y,H1,I1,r1,q1⟩=>?_;apply bM (ho pins s1 σ H1 v y u w _ I1 r r1 q1) λz s2 ⟨zv,H2,I2,r2,q2⟩=>?_;exact mL I2 hN hi hx r2 (λs3 I3=>⟨_,H2,I3,q2⟩) hf
 rcases l with⟨hk,hm⟩|⟨hk,c,hc,v9⟩
 .exact wpAny_loadName_local I.ok.kind hk hn hm go
 .rcases hk with hk|hk
  .exact wpAny_loadName_cell I.ok.kind hk hc v9 go
  .rcases hx with k|k
   .have:X.env.scope.names.lookup x=some .free:=hk;rw[k]at this;cases this
   .have:X.env.scope.names.lookup x=some .free:=hk;rw[k]at this;cases this
def RV (f:Int->Int->Int):Rj:=λx y H Q=>jC x λi=>jC y λj=>Q (.int (f i j)) H
theorem gw:SU X .Add (RV λi j=>i+j):=by
 intro pins s σ H x y v u Q I r1 r2 h;obtain⟨i,j,e1,e2,q⟩:=Oa.ex h;subst e1;subst e2;obtain⟨t,rfl⟩:=r1;obtain⟨t',rfl⟩:=r2;exact iadd_int ⟨.int _,H,I.tok _, ⟨_,rfl⟩,q⟩
theorem uW:SU X .Sub (RV λi j=>i-j):=by
 intro pins s σ H x y v u Q I r1 r2 h;obtain⟨i,j,e1,e2,q⟩:=Oa.ex h;subst e1;subst e2;obtain⟨t,rfl⟩:=r1;obtain⟨t',rfl⟩:=r2;exact isub_int ⟨.int _,H,I.tok _, ⟨_,rfl⟩,q⟩
end
section
variable{X:Cx} {pos:Pos}
inductive L7 (c:TT) (tb:TS) (D:Ends) (σ:St) (H:Hp):Prop
 |i (W:Nat->St->Hp->Prop) (_:(∃m,W m σ H)) (_:∀m σ H,W m σ H->c σ H λb H1=>if b=true then∃N:St->Hp->Prop, (∀σ' H',N σ' H'->∃m',m'<m/\W m' σ' H')/\tb {D with nx:=N,ct:=N,bk:=D.nx} σ H1 else D.nx σ H1)
theorem bE {c:Expr} {body:List Stmt} {tc:TT} {tb:TS} (hp:PassesOwn (model X.prog X.w) X.A X.env X.xe) (hc:PT X c tc) (hb:vY X body tb):PS X (.While c body [] pos) (L7 tc tb):=by
 intro pins s σ H D I h;obtain⟨W, ⟨m0,w0⟩,turn⟩:=h;apply wpAny_While (codeAny_whileLoop (λn s'=>∃σ' H',Inv X pins σ' H' s'/\W n σ' H') ?_ m0 ⟨σ,H,I,w0⟩);rintro n s1 ⟨σ1,H1,I1,w1⟩;apply wpAny_passesOwn hp (bM (hc pins s1 σ1 H1 _ I1 (turn n σ1 H1 w1)) λb s2 ⟨H2,I2,q2⟩=>?_);cases b with
 |true=>
  obtain⟨N,hN,q2⟩:=q2;rw[iP rfl];apply wpAny_passesOwn hp (bM (hb pins s2 σ1 H2 _ I2 q2) λf s3 q3=>?_);cases f with
  |next=>
   obtain⟨σ3,H3,I3,n3⟩:=q3;obtain⟨m',hm,w3⟩:=hN σ3 H3 n3;exact⟨m',hm,σ3,H3,I3,w3⟩
  |cont=>
   obtain⟨σ3,H3,I3,n3⟩:=q3;obtain⟨m',hm,w3⟩:=hN σ3 H3 n3;exact⟨m',hm,σ3,H3,I3,w3⟩
  |brk=>exact q3
  |ret v=>exact q3
 |false=>
  rw[iN AR];exact wpAny_execs_nil ⟨σ1,H2,I2,q2⟩
end
structure It where
 go:Nat->Hp->Prop
 Io:Nat->Hp->V->Hp->Prop
 stop:Nat->Hp->Prop
def oa (X:Cx) (pins:List (Addr×Obj)) (H:Hp) (b:Addr):Prop:=
 H b=none/\b≠X.env.locals/\b∉X.fs/\(b∈X.ex\/X.s₀.heap.objs.size<=b)/\(∀x c,X.env.cells.lookup x=some c->c≠b)/\∀p∈X.pn++pins,p.1≠b
theorem Inv.LL {X:Cx} {pins:List (Addr×Obj)} {σ:St} {H H':Hp} {s:Shared} {b:Addr} (I:Inv X pins σ H s) (hb:s.heap.objs.size<=b) (hn:H' b=none):oa X pins H' b:=by
 apply⟨hn,Nat.ne_of_gt (BB I.lt hb),I.Ti hb,.inr (AY I.sz hb),λx c e z=>?_,λp hp z=>?_⟩
 .obtain⟨v,q⟩:=I.cell x c e;exact absurd (BB q.lt (by rw[z];exact hb)) (CQ _)
 .exact absurd (BB (Heap.lt_size (I.pin p hp).1) (by rw[z];exact hb)) (CQ _)
structure Turn (P:Program) (w:World) (K:AD) (tg:Expr) (J:It) (fp:List Addr) (it:Addr) (tn:Nat->Heap->Prop):Prop where
 mem:it∈fp
 obj:∀i h,tn i h->∀b∈fp,∃o,h.get? b=some o/\∀v,o.data≠.cell v
 keep:∀i h h',tn i h->(∀b∈fp,∀o,h.get? b=some o->h'.get? b=some o)->tn i h'
 item:∀(X:Cx),X.prog=P->X.w=w->X.K=K->X.calm=true->∀(i:Nat) (pins:List (Addr×Obj)) (s:Shared) (σ:St) (H:Hp) (E:Value->Shared->Prop),Inv X pins σ H s->(∀b∈fp,oa X pins H b)->tn i s.heap->J.go i H->
  wpAny (model P w) X.A (pyNext (.ref it)) (λr s1=>∃u,r=some u/\
   wpAny (model P w) X.A (letOwnedTupleGo tg (.ref it) u) (λ_ s2=>∃x H',Inv X pins σ H' s2/\RelV x u/\J.Io i H x H'/\tn (i+1) s2.heap/\∀b∈fp,H' b=none) E s1) E s
 done:∀(X:Cx),X.prog=P->X.w=w->X.K=K->X.calm=true->∀(i:Nat) (pins:List (Addr×Obj)) (s:Shared) (σ:St) (H:Hp) (E:Value->Shared->Prop),Inv X pins σ H s->(∀b∈fp,oa X pins H b)->tn i s.heap->J.stop i H->
  wpAny (model P w) X.A (pyNext (.ref it)) (λr s1=>r=none/\Inv X pins σ H s1) E s
 self:∀(A:Around) (i:Nat) (s:Shared) (Q:Value->Shared->Prop) (E:Value->Shared->Prop),tn i s.heap->Q (.ref it) s->wpAny (model P w) A (pyIter (.ref it)) Q E s
abbrev TI:=St->Hp->(It->Hp->Prop)->Prop
def WH (X:Cx) (pins:List (Addr×Obj)) (σ:St) (tg:Expr) (R:It->Hp->Prop) (RU:Value) (s2:Shared):Prop:=
 ∃(it:Addr) (fp:List Addr) (tn:Nat->Heap->Prop) (J:It) (H':Hp),RU= .ref it/\Inv X pins σ H' s2/\Turn X.prog X.w X.K tg J fp it tn/\tn 0 s2.heap/\(∀b∈fp,oa X pins H' b)/\R J H'
def PI (X:Cx) (tg iter:Expr) (wi:TI):Prop:=
 ∀(pins:List (Addr×Obj)) (s:Shared) (σ:St) (H:Hp) (R:It->Hp->Prop),Inv X pins σ H s->wi σ H R->
  wpAny (model X.prog X.w) X.A (eval iter X.env) (λv s1=>wpAny (model X.prog X.w) X.A (pyIter v) (WH X pins σ tg R) X.xe s1) X.xe s
theorem z0 {M:Model} {A:Around} {E:Value->Shared->Prop} {s:Shared} {tg:Expr} {it:Addr} {u:Value} {o:Obj} {n:String} {vs:Array Value} {Q:Unit->Shared->Prop} (ho:s.heap.get? it=some o) (hc:o.cls= .type n) (hd:o.data= .fields vs)
  (hn:["enumerate","zip","dict_itemiterator","dict_reverseitemiterator","odict_iterator","itertools.zip_longest","itertools.pairwise"].contains n=false) (hQ:Q () s):wpAny M A (letOwnedTupleGo tg (.ref it) u) Q E s:=by
 unfold letOwnedTupleGo
 cases tg<;>first
  |exact wpAny_pure hQ
  |(cases u<;>first
    |exact wpAny_pure hQ
    |(apply wpAny_bind (wpAny_load ho ?_)
      rw[hc,hd];show wpAny M A (if(["enumerate","zip","dict_itemiterator","dict_reverseitemiterator","odict_iterator","itertools.zip_longest","itertools.pairwise"].contains n&&vs[0]? ==some (rawInt _))=true then _ else _) Q E s
      rw[iN (by intro h;rw[hn,E7]at h;cases h)]
      exact wpAny_pure hQ))
def zm (K:AD) (a:Addr):It:=
 ⟨λi H=>∃xs x,aL K H a xs/\xs[i]? =some x,λi H x H'=>H'=H/\∀xs,aL K H a xs->xs[i]? =some x,λi H=>∃xs,aL K H a xs/\xs.length<=i⟩
theorem xV {P:Program} {w:World} {K:AD} {tg:Expr} (a it:Addr):Turn P w K tg (zm K a) [it] it (λi h=>h.IsListIter it a i) where
 mem:=by simp
 obj:=λi h st b hb=>by
  have e:b=it:=by simpa using hb
  subst e;obtain⟨o,e,c,d⟩:=st;exact⟨o,e,λv z=>by rw[d]at z;cases z⟩
 keep:=λi h h' st k=>st.at λo e=>k it (by simp) o e
 item:=by
  intro X hP hw hK hc i pins s σ H E I hf st hg;subst hP hw hK;obtain⟨xs,x,hq,hx⟩:=hg;obtain⟨aP,rv,p,hz⟩:=I.list hq;obtain⟨u,hu,ru⟩:=rv.get hx;obtain⟨f0,f1,f2,f3,f4,f5⟩:=hf it (by simp);apply wpAny_pyNext_list_item st p.isList (x:=u) (by simpa using hu) λh' Iq sb=>?_;have I1:Inv X pins σ H {s with heap:=h'}:=I.turned (t':=s.toks) (λb o hb e=>(sb.2 b hb).trans e) f0 f1 f3 f4 f5;obtain⟨o,e,c,d⟩:=id Iq;exact⟨u,rfl,z0 (s:={s with heap:=h'}) e c d nofun ⟨x,H,I1,ru, ⟨rfl,λys hy=>by rw[I.Cm hy hq];exact hx⟩,Iq,λb hb=>(hf b hb).1⟩⟩
 done:=by
  intro X hP hw hK hc i pins s σ H E I hf st hg;subst hP hw hK;obtain⟨xs,hq,hx⟩:=hg;obtain⟨aP,rv,p,hz⟩:=I.list hq;obtain⟨f0,f1,f2,f3,f4,f5⟩:=hf it (by simp);have hl:=rv.length;exact wpAny_pyNext_list_end (I.ok.hd hc) st p.isList (by simp;lia) λh' eb=>⟨rfl,I.turned (t':=s.toks) (λb o hb e=>eb b o hb e) f0 f1 f3 f4 f5⟩
 self:=λ_ _ _ _ _ st h=>wpAny_pyIter_listiter st h
end L2
namespace L2
open PySem PySem.Spec PyProof.Rows
section
variable{X:Cx} {tg:Expr}
def rS (K:AD) (tl:TE):TI:=λσ H R=>tl σ H λx H1=>∃a,x= .ref a/\(∃xs,aL K H1 a xs)/\R (zm K a) H1
theorem bV {l:Expr} {tl:TE} (hl:PE X l tl):PI X tg l (rS X.K tl):=by
 intro pins s σ H R I h;apply bM (hl pins s σ H _ I h) λv s1 ⟨x,H1,I1,r1,q1⟩=>?_;obtain⟨a,e, ⟨xs,hq⟩,q⟩:=q1;subst e;cases r1;obtain⟨aP,rv,p,hz⟩:=I1.list hq;apply wpAny_pyIter_list p.isList ?_;apply⟨s1.heap.objs.size, [s1.heap.objs.size],_,_,H1,rfl,I1.kept (t':=s1.toks) λb o e=>Heap.get?_push_of_some _ e,xV a _, ⟨_,Heap.get?_push_size _ rfl,rfl,rfl⟩,λb hb=>?_,q⟩;have e:b=s1.heap.objs.size:=by simpa using hb
 subst e;exact I1.LL (AE _) (I1.b8.fresh (AE _))
def Ll (wi:TI) (g:TG) (tb:TS):TS:=λD σ H=>wi σ H λJ H1=>∃W:Nat->Nat->St->Hp->Prop, (∃m,W 0 m σ H1)/\∀i m σ H,W i m σ H->
 (J.stop i H/\D.nx σ H)\/(J.go i H/\∃N:St->Hp->Prop, (∀σ' H',N σ' H'->∃m',m'<m/\W (i+1) m' σ' H')/\∀x H',J.Io i H x H'->g x σ H' λσ2 H2=>tb {D with nx:=N,ct:=N,bk:=D.nx} σ2 H2)
def mB (fp:List Addr) (h:Heap):List (Addr×Obj):=fp.filterMap λb=>(h.get? b).map λo=>(b,o)
theorem iC {fp:List Addr} {h:Heap} {b:Addr} {o:Obj} (hb:b∈fp) (e:h.get? b=some o):(b,o)∈mB fp h:=G9.mpr ⟨b,hb,by rw[e];rfl⟩
theorem yg {fp:List Addr} {h:Heap} {p:Addr×Obj} (hp:p∈mB fp h):p.1∈fp/\h.get? p.1=some p.2:=by
 obtain⟨b,hb,e⟩:=G9.mp hp;cases q:h.get? b with
 |none=>rw[q]at e;cases e
 |some o=>
  rw[q]at e;have e':(b,o)=p:=AH e;subst e';exact⟨hb,q⟩
theorem Inv.pinned {pins:List (Addr×Obj)} {σ:St} {H:Hp} {s:Shared} {fp:List Addr} (I:Inv X pins σ H s) (hf:∀b∈fp,oa X pins H b) (ho:∀b∈fp,∃o,s.heap.get? b=some o/\∀v,o.data≠.cell v):Inv X (pins++mB fp s.heap) σ H s:=
 I.wO λp hp=>(AU.mp hp).elim (λz=>I.pin p (BU _ z)) λz=>by
  obtain⟨hb,e⟩:=yg z;obtain⟨f0,f1,f2,_⟩:=hf p.1 hb;obtain⟨o,e',d⟩:=ho p.1 hb;rw[e]at e';cases e';exact⟨e,f0,f1,f2,d⟩
theorem Inv.jg {pins pl:List (Addr×Obj)} {σ:St} {H:Hp} {s:Shared} (I:Inv X (pins++pl) σ H s):Inv X pins σ H s:=I.wO λp hp=>I.pin p (BU _ (C0 _ hp))
theorem dy {iter:Expr} {body:List Stmt} {wi:TI} {g:TG} {tb:TS} {pos:Pos} (hp:PassesOwn (model X.prog X.w) X.A X.env X.xe) (hc:X.calm=true) (hi:PI X tg iter wi) (hg:PG X tg g) (hb:vY X body tb)
  (hs:∀x,foldedSetIterable iter X.env x=pure x:=by intro _;rfl):PS X (.For tg iter body [] pos) (Ll wi g tb):=by
 intro pins s σ H D I h;apply wpAny_For (bM (hi pins s σ H _ I h) λv s1 h1=>bM h1 λRU s2 h2=>?_) hs;obtain⟨it,fp,tn,J,H2,e,I2,T,Qm,f2,W, ⟨m0,w0⟩,turn⟩:=h2;subst e;have uB:∀{H':Hp}, (∀b∈fp,H' b=none)->∀b∈fp,oa X pins H' b:=λhn b hb=>⟨hn b hb, (f2 b hb).2⟩
 apply codeAny_forLoop_any (λn s'=>∃i σ' H',Inv X pins σ' H' s'/\tn i s'.heap/\(∀b∈fp,H' b=none)/\W i n σ' H') ?_ m0 ⟨0,σ,H2,I2,Qm,λb hb=>(f2 b hb).1,w0⟩;rintro n s3 ⟨i,σ3,H3,I3,Ql,Wl,w3⟩;rcases turn i n σ3 H3 w3 with⟨stop,qn⟩|⟨go,N,hN,step⟩
 .refine wpAny_passesOwn hp (bM (T.done X rfl rfl rfl hc i pins s3 σ3 H3 X.xe I3 (uB Wl) Ql stop) λr s4 ⟨hr,I4⟩=>?_);subst hr;exact wpAny_execs_nil ⟨σ3,H3,I4,qn⟩
 .refine wpAny_passesOwn hp (bM (T.item X rfl rfl rfl hc i pins s3 σ3 H3 X.xe I3 (uB Wl) Ql go) λr s4 ⟨u,hr,h4⟩=>?_);subst hr;apply wpAny_passesOwn hp (bM h4 λ_ s5 ⟨x,H5,I5,r5,y5,MV,Zt⟩=>?_);have ZS:=I5.pinned (uB Zt) (T.obj _ _ MV);apply wpAny_passesOwn hp (bM (hg _ s5 σ3 H5 x u _ ZS r5 (step x H5 y5)) λ_ s6 ⟨σ6,H6,I6,q6⟩=>?_);apply wpAny_passesOwn hp (bM (hb _ s6 σ6 H6 _ I6 q6) λf s7 q7=>?_)
  have again:∀{σ7:St} {H7:Hp},Inv X (pins++mB fp s5.heap) σ7 H7 s7->N σ7 H7->∃m,m<n/\∃i σ' H',Inv X pins σ' H' s7/\tn i s7.heap/\(∀b∈fp,H' b=none)/\W i m σ' H':=λ{σ7 H7} I7 n7=>by
   obtain⟨m',hm,w7⟩:=hN σ7 H7 n7;apply⟨m',hm,i+1,σ7,H7,I7.jg,T.keep _ _ _ MV λb hb o e=>(I7.pin (b,o) (BU _ (BU _ (iC hb e)))).1,λb hb=>?_,w7⟩;obtain⟨o,e,d⟩:=T.obj _ _ MV b hb;exact(I7.pin (b,o) (BU _ (BU _ (iC hb e)))).2.1
  cases f with
  |next=>obtain⟨σ7,H7,I7,n7⟩:=q7;exact again I7 n7
  |cont=>obtain⟨σ7,H7,I7,n7⟩:=q7;exact again I7 n7
  |brk=>obtain⟨σ7,H7,I7,q7⟩:=q7;exact⟨σ7,H7,I7.jg,q7⟩
  |ret v=>obtain⟨x7,σ7,H7,I7,r7,q7⟩:=q7;exact⟨x7,σ7,H7,I7.jg,r7,q7⟩
end
theorem jm {K:AD} {a:Addr} {xs:List V} {g:TG} {tb:TS} {D:Ends} {σ:St} {H:Hp} (Pv:Nat->St->Hp->Prop) (h0:Pv 0 σ H) (hl:∀i σ H,i<=xs.length->Pv i σ H->aL K H a xs)
  (hs:∀i x σ H,xs[i]? =some x->Pv i σ H->g x σ H λσ2 H2=>tb {D with nx:=Pv (i+1),ct:=Pv (i+1),bk:=D.nx} σ2 H2) (hd:∀σ H,Pv xs.length σ H->D.nx σ H):
  ∃W:Nat->Nat->St->Hp->Prop, (∃m,W 0 m σ H)/\∀i m σ H,W i m σ H->
   ((zm K a).stop i H/\D.nx σ H)\/((zm K a).go i H/\∃N:St->Hp->Prop, (∀σ' H',N σ' H'->∃m',m'<m/\W (i+1) m' σ' H')/\∀x H', (zm K a).Io i H x H'->g x σ H' λσ2 H2=>tb {D with nx:=N,ct:=N,bk:=D.nx} σ2 H2):=by
 apply⟨λi m σ H=>m=xs.length-i/\i<=xs.length/\Pv i σ H, ⟨xs.length,by simp,A0 _,h0⟩,?_⟩;rintro i m σ H ⟨rfl,hi,p⟩;have q:=hl i σ H hi p
 by_cases gc:i<xs.length
 .refine .inr ⟨⟨xs,xs[i],q,by simp[gc]⟩,Pv (i+1),λσ' H' p'=>⟨xs.length-(i+1),by omega,rfl,gc,p'⟩,λx H' y=>?_⟩;obtain⟨e,y⟩:=y;subst e;exact hs i x σ _ (y xs q) p
 .have e:i=xs.length:=by lia
  subst e;exact .inl ⟨⟨xs,q,AE _⟩,hd σ H p⟩
end L2
namespace L2
open PySem PySem.Spec PyProof.Rows
abbrev R2:=V->V->Hp->VK->Prop
def ip (X:Cx) (f:Value->Value->Sem Value) (r:R2):Prop:=
 ∀(pins:List (Addr×Obj)) (s:Shared) (σ:St) (H:Hp) (x y:V) (v u:Value) (Q:VK),Inv X pins σ H s->RelV x v->RelV y u->r x y H Q->
  wpAny (model X.prog X.w) X.A (f v u) (EP X pins σ Q) X.xe s
def SS (X:Cx) (f:Value->Sem Value) (r:V->Hp->VK->Prop):Prop:=
 ∀(pins:List (Addr×Obj)) (s:Shared) (σ:St) (H:Hp) (x:V) (v:Value) (Q:VK),Inv X pins σ H s->RelV x v->r x H Q->
  wpAny (model X.prog X.w) X.A (f v) (EP X pins σ Q) X.xe s
def hZ (X:Cx) (f:Value) (r:List V->Hp->VK->Prop):Prop:=
 ∀(pins:List (Addr×Obj)) (s:Shared) (σ:St) (H:Hp) (xs:List V) (us:List Value) (Q:VK),Inv X pins σ H s->Vals xs us->r xs H Q->
  wpAny (model X.prog X.w) X.A (call f us) (EP X pins σ Q) X.xe s
def UR (X:Cx) (r:V->Hp->(Bool->Hp->Prop)->Prop):Prop:=
 ∀(pins:List (Addr×Obj)) (s:Shared) (σ:St) (H:Hp) (x:V) (v:Value) (Q:Bool->Hp->Prop),Inv X pins σ H s->RelV x v->r x H Q->
  wpAny (model X.prog X.w) X.A (truthy v) (TP X pins σ Q) X.xe s
def Ip (r:R2) (ta tb:TE):TE:=λσ H Q=>ta σ H λx H1=>tb σ H1 λy H2=>r x y H2 Q
def UZ (r:V->Hp->VK->Prop) (ta:TE):TE:=λσ H Q=>ta σ H λx H1=>r x H1 Q
def rI (C:Int->Int->Prop) (g:Int->Int->V):R2:=λx y H Q=>jC x λi=>jC y λj=>C i j/\Q (g i j) H
def Dr (g:Int->Int->V):R2:=λx y H Q=>jC x λi=>jC y λj=>Q (g i j) H
def rU (g:Int->V):V->Hp->VK->Prop:=λx H Q=>jC x λi=>Q (g i) H
section
variable{X:Cx} {a b c:Expr} {ta tb tc:TE} {pos:Pos}
theorem LR (ha:PE X a ta) (hb:PE X b tb) {pins:List (Addr×Obj)} {s:Shared} {σ:St} {H:Hp} {R:V->V->Hp->Prop} (I:Inv X pins σ H s)
  (h:ta σ H λx H1=>tb σ H1 λy H2=>R x y H2) {Q:Value->Shared->Prop} {f:Value->Value->Sem Value}
  (hf:∀v u s2 x y H2,Inv X pins σ H2 s2->RelV x v->RelV y u->R x y H2->wpAny (model X.prog X.w) X.A (f v u) Q X.xe s2):
  wpAny (model X.prog X.w) X.A (eval a X.env) (λv s₁=>wpAny (model X.prog X.w) X.A (eval b X.env) (λu s₂=>wpAny (model X.prog X.w) X.A (f v u) Q X.xe s₂) X.xe s₁) X.xe s:=by
 apply bM (ha pins s σ H _ I h) λv s1 ⟨x,H1,I1,r1,q1⟩=>?_;apply bM (hb pins s1 σ H1 _ I1 q1) λu s2 ⟨y,H2,I2,r2,q2⟩=>?_;exact hf v u s2 x y H2 I2 r1 r2 q2
theorem ay {op:Operator} {r:R2} (ho:ip X (binaryOp op) r) (ha:PE X a ta) (hb:PE X b tb):PE X (.BinOp a op b pos) (Ip r ta tb):=by
 intro pins s σ H Q I h;exact wpAny_BinOp (LR ha hb I h λv u s2 x y H2 I2 rx ry q=>ho pins s2 σ H2 x y v u Q I2 rx ry q)
theorem dM {op:UnaryOp} {r:V->Hp->VK->Prop} (ho:SS X (unaryOp op) r) (ha:PE X a ta):PE X (.UnaryOp op a pos) (UZ r ta):=by
 intro pins s σ H Q I h;exact UnaryOp_ (bM (ha pins s σ H _ I h) λv s1 ⟨x,H1,I1,r1,q1⟩=>ho pins s1 σ H1 x v Q I1 r1 q1)
theorem RF {f:Value->Value->Sem Value} {C:Int->Int->Prop} {g:Int->Int->Int}
  (rule:∀(i j:Int) (t u:Tok) (s:Shared) (Q:Value->Shared->Prop) (E:Value->Shared->Prop),C i j->Q (.int (g i j) s.toks) {s with toks:=s.toks+1}->wpAny (model X.prog X.w) X.A (f (.int i t) (.int j u)) Q E s):
  ip X f (rI C λi j=> .int (g i j)):=by
 intro pins s σ H x y v u Q I rx ry h;obtain⟨i,j,rfl,rfl,hc,q⟩:=Oa.ex h;obtain⟨t,rfl⟩:=rx;obtain⟨t',rfl⟩:=ry;exact rule i j t t' s _ _ hc ⟨.int (g i j),H,I.tok _, ⟨_,rfl⟩,q⟩
theorem OH {f:Value->Value->Sem Value} {g:Int->Int->Int}
  (rule:∀(i j:Int) (t u:Tok) (s:Shared) (Q:Value->Shared->Prop) (E:Value->Shared->Prop),Q (.int (g i j) s.toks) {s with toks:=s.toks+1}->wpAny (model X.prog X.w) X.A (f (.int i t) (.int j u)) Q E s):
  ip X f (Dr λi j=> .int (g i j)):=by
 intro pins s σ H x y v u Q I rx ry h;obtain⟨i,j,rfl,rfl,q⟩:=Oa.ex h;obtain⟨t,rfl⟩:=rx;obtain⟨t',rfl⟩:=ry;exact rule i j t t' s _ _ ⟨.int (g i j),H,I.tok _, ⟨_,rfl⟩,q⟩
theorem Fx {f:Value->Value->Sem Value} {g:Int->Int->Bool}
  (rule:∀(i j:Int) (t u:Tok) (s:Shared) (Q:Value->Shared->Prop) (E:Value->Shared->Prop),Q (.bool (g i j)) s->wpAny (model X.prog X.w) X.A (f (.int i t) (.int j u)) Q E s):
  ip X f (Dr λi j=> .bl (g i j)):=by
 intro pins s σ H x y v u Q I rx ry h;obtain⟨i,j,rfl,rfl,q⟩:=Oa.ex h;obtain⟨t,rfl⟩:=rx;obtain⟨t',rfl⟩:=ry;exact rule i j t t' s _ _ ⟨.bl (g i j),H,I,rfl,q⟩
def UU (i j:Int):Prop:=0<j/\j<1073741824
def LY (i j:Int):Prop:=(-(2 ^ 64)<i/\i<2 ^ 64)\/(-(2 ^ 64)<j/\j<2 ^ 64)
theorem LY.ok {i j:Int} (h:LY i j):IntMulOk i j:=by
 rcases h with⟨h1,h2⟩|⟨h1,h2⟩
 .exact .of_left (intBits_le_64 h1 h2)
 .exact .of_right (intBits_le_64 h1 h2)
theorem op_add:ip X (binaryOp .Add) (Dr λi j=> .int (i+j)):=OH λ_ _ _ _ _ _ _ q=>add_int q
theorem op_sub:ip X (binaryOp .Sub) (Dr λi j=> .int (i-j)):=OH λ_ _ _ _ _ _ _ q=>sub_int q
theorem op_mul:ip X (binaryOp .Mult) (rI LY λi j=> .int (i*j)):=RF λ_ _ _ _ _ _ _ hc q=>mul_int q hc.ok
theorem op_fdiv:ip X (binaryOp .FloorDiv) (rI UU λi j=> .int (i/j)):=RF λi j _ _ _ _ _ hc q=>by
 have h1:(0:Int)<j:=hc.1;have h2:j<1073741824:=hc.2;exact floordiv_int (by lia) (by rw[Int.fdiv_eq_ediv_of_nonneg i (by lia)];exact q) (.inl (PyProof.noPylong_small (by omega)))
theorem op_mod:ip X (binaryOp .Mod) (rI (λ_ j=>0<j) λi j=> .int (i % j)):=RF λi j _ _ _ _ _ hc q=>by
 have h1:(0:Int)<j:=hc;exact mod_int' (by lia) (by rw[Int.fmod_eq_emod_of_nonneg i (by lia)];exact q)
theorem WT {f:Value->Sem Value} {g:Int->Int}
  (rule:∀(i:Int) (t:Tok) (s:Shared) (Q:Value->Shared->Prop) (E:Value->Shared->Prop),Q (.int (g i) s.toks) {s with toks:=s.toks+1}->wpAny (model X.prog X.w) X.A (f (.int i t)) Q E s):
  SS X f (rU λi=> .int (g i)):=by
 intro pins s σ H x v Q I rx h;obtain⟨i,rfl,q⟩:=jC.ex h;obtain⟨t,rfl⟩:=rx;exact rule i t s _ _ ⟨.int (g i),H,I.tok _, ⟨_,rfl⟩,q⟩
theorem cG:SS X (unaryOp .USub) (rU λi=> .int (-i)):=WT λ_ _ _ _ _ q=>neg_int q
end
def Oy:V->V->Bool
 | .aY,.aY=>true| .aY,.int _=>true| .int _,.aY=>true| .aY,.bl _=>true| .bl _,.aY=>true| .aY,.str _=>true| .str _,.aY=>true
 | .int _,.int _=>true| .bl _,.bl _=>true| .str _,.str _=>true| .vW _,.vW _=>true
 | .int _,.str _=>true| .str _,.int _=>true| .bl _,.str _=>true| .str _,.bl _=>true
 |_,_=>false
def Lc (x y:V) (p:Bool->Prop):Prop:=match x,y with| .int i,.int j=>p (decide (i=j))| .str i,.str j=>p (decide (i=j))|x,y=>Oy x y=true/\p (decide (x=y))
theorem Lc.ex {x y:V} {p:Bool->Prop} (h:Lc x y p):Oy x y=true/\p (decide (x=y)):=by
 unfold Lc at h
 split at h
 .exact⟨rfl,by simp only[V.int.injEq];exact h⟩
 .exact⟨rfl,by simp only[V.str.injEq];exact h⟩
 .exact h
def Qr:R2:=λx y H Q=>Lc x y λb=>Q (.bl b) H
def RE:R2:=λx y H Q=>Lc x y λb=>Q (.bl (!b)) H
theorem xf {i j:Int}:decide (V.int i=V.int j)=(i==j):=by
 rw[C6];simp
theorem Be {i j:Bool}:decide (V.bl i=V.bl j)=(i==j):=by
 rw[C6];simp
theorem xc {i j:Str}:decide (V.str i=V.str j)=(i==j):=by
 rw[C6];simp
theorem xg {i j:Array UInt8}:decide (V.vW i=V.vW j)=(i.toList==j.toList):=by
 rw[C6];cases i;cases j;simp
section
variable{X:Cx} {a b c:Expr} {ta tb tc:TE} {pos:Pos}
theorem a7 {pins:List (Addr×Obj)} {σ:St} {H:Hp} {s:Shared} {Q:VK} {k k':Bool} (I:Inv X pins σ H s) (q:Q (.bl k) H) (e:k=k'):EP X pins σ Q (.bool k') s:=by
 subst e;exact⟨.bl k,H,I,rfl,q⟩
theorem op_eq:ip X (compareOp .Eq) Qr:=by
 intro pins s σ H x y v u Q I rx ry h;obtain⟨hs,q⟩:=Lc.ex h;cases x with
 |aY=>
  cases rx;cases y with
  |aY=>cases ry;exact IT (a7 I q (by simp))
  |bl j=>cases ry;exact IU (a7 I q (by simp))
  |int j=>obtain⟨t',rfl⟩:=ry;exact JC (a7 I q (by simp))
  |str j=>obtain⟨t',rfl⟩:=ry;exact JD (a7 I q (by simp))
  |_=>exact absurd (show false=true from hs) AR
 |bl i=>
  cases rx;cases y with
  |aY=>cases ry;exact IV (a7 I q (by simp))
  |bl j=>cases ry;exact eq_bool (a7 I q Be)
  |str j=>obtain⟨t',rfl⟩:=ry;exact IW (a7 I q (by simp))
  |_=>exact absurd (show false=true from hs) AR
 |int i=>
  obtain⟨t,rfl⟩:=rx;cases y with
  |aY=>cases ry;exact JE (a7 I q (by simp))
  |int j=>obtain⟨t',rfl⟩:=ry;exact eq_int (a7 I q xf)
  |str j=>obtain⟨t',rfl⟩:=ry;exact JF (a7 I q (by simp))
  |_=>exact absurd (show false=true from hs) AR
 |str i=>
  obtain⟨t,rfl⟩:=rx;cases y with
  |aY=>cases ry;exact JG (a7 I q (by simp))
  |bl j=>cases ry;exact IX (a7 I q (by simp))
  |int j=>obtain⟨t',rfl⟩:=ry;exact JH (a7 I q (by simp))
  |str j=>obtain⟨t',rfl⟩:=ry;exact eq_str (a7 I q xc)
  |_=>exact absurd (show false=true from hs) AR
 |vW i=>
  obtain⟨t,rfl⟩:=rx;cases y with
  |vW j=>obtain⟨t',rfl⟩:=ry;exact PySem.W.eq_bytes (a7 I q xg)
  |_=>exact absurd (show false=true from hs) AR
 |_=>cases y<;>exact absurd (show false=true from hs) AR
theorem op_ne:ip X (compareOp .NotEq) RE:=by
 intro pins s σ H x y v u Q I rx ry h;obtain⟨hs,q⟩:=Lc.ex h;cases x with
 |aY=>
  cases rx;cases y with
  |aY=>cases ry;exact IY (a7 I q (by simp))
  |bl j=>cases ry;exact IZ (a7 I q (by simp))
  |int j=>obtain⟨t',rfl⟩:=ry;exact JI (a7 I q (by simp))
  |str j=>obtain⟨t',rfl⟩:=ry;exact JK (a7 I q (by simp))
  |_=>exact absurd (show false=true from hs) AR
 |bl i=>
  cases rx;cases y with
  |aY=>cases ry;exact I0 (a7 I q (by simp))
  |bl j=>cases ry;exact ne_bool (a7 I q (congrArg not Be))
  |str j=>obtain⟨t',rfl⟩:=ry;exact JA (a7 I q (by simp))
  |_=>exact absurd (show false=true from hs) AR
 |int i=>
  obtain⟨t,rfl⟩:=rx;cases y with
  |aY=>cases ry;exact JL (a7 I q (by simp))
  |int j=>obtain⟨t',rfl⟩:=ry;exact ne_int (a7 I q (congrArg not xf))
  |str j=>obtain⟨t',rfl⟩:=ry;exact JM (a7 I q (by simp))
  |_=>exact absurd (show false=true from hs) AR
 |str i=>
  obtain⟨t,rfl⟩:=rx;cases y with
  |aY=>cases ry;exact JN (a7 I q (by simp))
  |bl j=>cases ry;exact JB (a7 I q (by simp))
  |int j=>obtain⟨t',rfl⟩:=ry;exact JO (a7 I q (by simp))
  |str j=>obtain⟨t',rfl⟩:=ry;exact ne_str (a7 I q (congrArg not xc))
  |_=>exact absurd (show false=true from hs) AR
 |vW i=>
  obtain⟨t,rfl⟩:=rx;cases y with
  |vW j=>obtain⟨t',rfl⟩:=ry;exact PySem.W.ne_bytes (a7 I q (congrArg not xg))
  |_=>exact absurd (show false=true from hs) AR
 |_=>cases y<;>exact absurd (show false=true from hs) AR
theorem op_lt:ip X (compareOp .Lt) (Dr λi j=> .bl (decide (i<j))):=Fx λ_ _ _ _ _ _ _ q=>lt_int q
theorem op_le:ip X (compareOp .LtE) (Dr λi j=> .bl (decide (i<=j))):=Fx λ_ _ _ _ _ _ _ q=>le_int q
theorem op_gt:ip X (compareOp .Gt) (Dr λi j=> .bl (decide (j<i))):=Fx λ_ _ _ _ _ _ _ q=>gt_int q
theorem op_ge:ip X (compareOp .GtE) (Dr λi j=> .bl (decide (j<=i))):=Fx λ_ _ _ _ _ _ _ q=>ge_int q
theorem op_isN:ip X (compareOp .Is) (λx y H Q=>y= .aY/\Q (.bl (decide (x= .aY))) H):=by
 intro pins s σ H x y v u Q I rx ry h;obtain⟨rfl,q⟩:=h;cases ry;apply is_none_gen (a7 I q ?_)
 cases x<;>first
  |(cases rx;rfl)
  |(obtain⟨t,rfl⟩:=rx;rfl)
theorem op_notN:ip X (compareOp .IsNot) (λx y H Q=>y= .aY/\Q (.bl (!decide (x= .aY))) H):=by
 intro pins s σ H x y v u Q I rx ry h;obtain⟨rfl,q⟩:=h;cases ry;apply isnot_none_gen (a7 I q ?_)
 cases x<;>first
  |(cases rx;rfl)
  |(obtain⟨t,rfl⟩:=rx;rfl)
theorem dk (b:Expr) {op:CmpOp} (h:op≠.In:=by decide) (h2:op≠.NotIn:=by decide):behindInMarks op b=false:=by
 have e1:(op==CmpOp.In)=false:=by cases op<;>first|rfl|exact absurd rfl h
 have e2:(op==CmpOp.NotIn)=false:=by cases op<;>first|rfl|exact absurd rfl h2
 cases b<;>simp[behindInMarks,e1,e2]
theorem lL {op:CmpOp} {r:R2} (ho:ip X (compareOp op) r) (ha:PE X a ta) (hb:PE X b tb) (hm:behindInMarks op b=false):PE X (.Compare a [op] [b] pos) (Ip r ta tb):=by
 intro pins s σ H Q I h;exact wpAny_Compare1 (LR ha hb I h λv u s2 x y H2 I2 rx ry q=>ho pins s2 σ H2 x y v u Q I2 rx ry q) hm
def rM (t:TE):TT:=λσ H Q=>t σ H λx H'=>pM x λk=>Q k H'
theorem cD {op:CmpOp} {r:R2} (ho:ip X (compareOp op) r) (ha:PE X a ta) (hb:PE X b tb) (hm:behindInMarks op b=false):PT X (.Compare a [op] [b] pos) (rM (Ip r ta tb)):=by
 intro pins s σ H Q I h
 apply wpAny_isTrue_Compare1 (bM (ha pins s σ H _ I h) λv s1 ⟨x,H1,I1,r1,q1⟩=>bM (hb pins s1 σ H1 _ I1 q1) λu s2 ⟨y,H2,I2,r2,q2⟩=>
  bM (ho pins s2 σ H2 x y v u _ I2 r1 r2 q2) λc s3 ⟨z,H3,I3,r3,q3⟩=>?_) hm
 obtain⟨k,rfl,q3⟩:=pM.ex q3;cases r3;exact wpAny_truthy_bool ⟨H3,I3,q3⟩
def uK (r r':R2) (ta tb tc:TE):TE:=λσ H Q=>ta σ H λx H1=>tb σ H1 λy H2=>r x y H2 λz H3=>pM z λk=>
 (if k=true then tc σ H3 λw' H4=>r' y w' H4 Q else Q (.bl false) H3)
theorem ji {op jB:CmpOp} {r r':R2} (ho:ip X (compareOp op) r) (rp:ip X (compareOp jB) r') (ha:PE X a ta) (hb:PE X b tb) (hc:PE X c tc)
  (hm:lastMarks [op,jB] [b,c]=false:=by with_unfolding_all rfl):PE X (.Compare a [op,jB] [b,c] pos) (uK r r' ta tb tc):=by
 intro pins s σ H Q I h
 apply Compare_chain (bM (ha pins s σ H _ I h) λv s1 ⟨x,H1,I1,r1,q1⟩=>chain_link (bM (hb pins s1 σ H1 _ I1 q1) λu s2 ⟨y,H2,I2,r2,q2⟩=>
  bM (ho pins s2 σ H2 x y v u _ I2 r1 r2 q2) λd s3 ⟨z,H3,I3,r3,q3⟩=>?_)) hm
 obtain⟨k,rfl,q3⟩:=pM.ex q3;cases r3;apply wpAny_truthy_bool ?_;cases k with
 |false=>exact ite_ff ⟨.bl false,H3,I3,rfl,q3⟩
 |true=>exact ite_tt (chain_last (bM (hc pins s3 σ H3 _ I3 q3) λw' s4 ⟨z',H4,I4,r4,q4⟩=>rp pins s4 σ H4 y z' u w' Q I4 r2 r4 q4))
theorem dq {op jB:CmpOp} {r r':R2} (ho:ip X (compareOp op) r) (rp:ip X (compareOp jB) r') (ha:PE X a ta) (hb:PE X b tb) (hc:PE X c tc)
  (hm:lastMarks [op,jB] [b,c]=false:=by with_unfolding_all rfl):PT X (.Compare a [op,jB] [b,c] pos) (rM (uK r r' ta tb tc)):=by
 intro pins s σ H Q I h
 apply isTrue_chain (bM (ha pins s σ H _ I h) λv s1 ⟨x,H1,I1,r1,q1⟩=>test_link (bM (hb pins s1 σ H1 _ I1 q1) λu s2 ⟨y,H2,I2,r2,q2⟩=>
  bM (ho pins s2 σ H2 x y v u _ I2 r1 r2 q2) λd s3 ⟨z,H3,I3,r3,q3⟩=>?_)) hm
 obtain⟨k,rfl,q3⟩:=pM.ex q3;cases r3;apply wpAny_truthy_bool ?_;cases k with
 |false=>
  have q':=q3
  skip
  exact ite_ff ⟨H3,I3,q'⟩
 |true=>
  apply ite_tt (test_last (bM (hc pins s3 σ H3 _ I3 q3) λw' s4 ⟨z',H4,I4,r4,q4⟩=>bM (rp pins s4 σ H4 y z' u w' _ I4 r2 r4 q4) λd' s5 ⟨z2,H5,I5,r5,q5⟩=>?_));obtain⟨k2,rfl,q5⟩:=pM.ex q5;cases r5;exact wpAny_truthy_bool ⟨H5,I5,q5⟩
def Pd (K:AD) (x:V) (H:Hp) (k:Bool):Prop:=
 match x with
 | .aY=>k=false
 | .bl b=>k=b
 | .int i=>k=(i !=0)
 | .str y=>y.length<=sizeLine/\k=((y.length:Int) !=0)
 | .vW y=>y.size<=sizeLine/\k=((y.size:Int) !=0)
 | .ref p=>(∃xs,aL K H p xs/\k=!xs.isEmpty)\/(∃xs,bC K H p xs/\k=!xs.isEmpty)\/∃aC,H p=some (.dK aC)/\k=!aC.isEmpty
 |_=>False
theorem vJ {κ:Type} {aC:List (κ×V)} {vs:List (κ×Value)} (r:KV aC vs):(!vs.isEmpty)=!aC.isEmpty:=by
 cases r<;>rfl
theorem ng {xs:List V} {aP:List Value} (r:Vals xs aP):(!aP.toArray.isEmpty)=!xs.isEmpty:=by
 cases r<;>simp
theorem mC:(sizeLine:Nat)<2 ^ 63:=by rw[sizeLine_eq];decide
theorem L6:UR X (λx H Q=>∃k,Pd X.K x H k/\Q k H):=by
 intro pins s σ H x v Q I rx h;obtain⟨k,e,q⟩:=h;have hl:=mC;have hs:sizeLine=16777216:=sizeLine_eq;cases x with
 |aY=>
  cases rx;have e':k=false:=e;subst e';exact truthy_none ⟨H,I,q⟩
 |bl b=>
  cases rx;have e':k=b:=e;subst e';exact wpAny_truthy_bool ⟨H,I,q⟩
 |int i=>
  obtain⟨t,rfl⟩:=rx;have e':k=(i !=0):=e;subst e';exact PySem.P.truthy_int ⟨H,I,q⟩
 |str y=>
  obtain⟨t,rfl⟩:=rx;obtain⟨hy,e'⟩:y.length<=sizeLine/\k=((y.length:Int) !=0):=e;subst e';exact PySem.P.truthy_str (by lia) ⟨H,I.tok _,q⟩
 |vW y=>
  obtain⟨t,rfl⟩:=rx;obtain⟨hy,e'⟩:y.size<=sizeLine/\k=((y.size:Int) !=0):=e;subst e';exact PySem.W.truthy_bytes (by nofun) ⟨H,I.tok _,q⟩
 |ref p=>
  cases rx;have e':(∃xs,aL X.K H p xs/\k=!xs.isEmpty)\/(∃xs,bC X.K H p xs/\k=!xs.isEmpty)\/∃aC,H p=some (.dK aC)/\k=!aC.isEmpty:=e;rcases e' with⟨xs,hx,e'⟩|⟨xs,hx,e'⟩|⟨aC,hx,e'⟩
  .subst e';obtain⟨aP,r,pl,hz⟩:=I.list hx;have hlen:=r.length;exact wpAny_truthy_list pl.isList (by simp only[AJ];omega) ⟨H,I.tok _,by rw[ng r];exact q⟩
  .subst e';obtain⟨aP,r,pl,hz⟩:=I.tuple hx;have hlen:=r.length;exact truthy_tuple pl (by simp only[AJ];omega) ⟨H,I.tok _,by rw[ng r];exact q⟩
  .subst e';obtain⟨hz,hS,vs,r,m⟩:aC.length<=sizeLine/\(p==sysModules)=false/\∃vs,KV aC vs/\s.heap.DictOf (bw X.prog X.w) p vs:=I.b8 p _ hx;have hlen:aC.length=vs.length:=Paired.length r;exact wpAny_truthy_dict hS m (by omega) ⟨H,I.tok _,by rw[vJ r];exact q⟩
 |_=>exact(show False from e).elim
theorem dP (ha:PE X a ta) (he:∀whole,isTrue a X.env whole=(do let v <-whole;standAt a.pos;holding [v] (truthy v))):
  PT X a (λσ H Q=>ta σ H λx H'=>∃k,Pd X.K x H' k/\Q k H'):=by
 intro pins s σ H Q I h;exact isTrue_plain (bM (ha pins s σ H _ I h) λv s1 ⟨x,H1,I1,r1,q1⟩=>L6 pins s1 σ H1 x v Q I1 r1 q1) (he _)
theorem op_add_str:ip X (binaryOp .Add) (λx y H Q=>∃i j,x= .str i/\y= .str j/\i.length+j.length<=sizeLine/\Q (.str (i++j)) H):=by
 intro pins s σ H x y v u Q I rx ry h;obtain⟨i,j,rfl,rfl,hz,q⟩:=h;obtain⟨t,rfl⟩:=rx;obtain⟨t',rfl⟩:=ry;exact add_str (λt' tk=>⟨.str (i++j),H,I.tok _, ⟨_,rfl⟩,q⟩) hz
theorem vals1 {x:V} {us:List Value} (r:Vals [x] us):∃u,us=[u]/\RelV x u:=by
 cases r with
 |cons r1 r2=>cases r2;exact⟨_,rfl,r1⟩
theorem qS:hZ X (.type "str") (λxs H Q=>ue xs λx=>jC x λi=>i.natAbs.log2<1920/\Q (.str (toString i)) H):=by
 intro pins s σ H xs us Q I r h;obtain⟨y,rfl,h1⟩:=ue.ex h;obtain⟨i,rfl,hz,q⟩:=jC.ex h1;obtain⟨u,rfl,t,rfl⟩:=vals1 r;exact PySem.P.str_of_int hz ⟨.str _,H,I.tok _, ⟨_,rfl⟩,q⟩
theorem De:hZ X (.builtin "ord") (λxs H Q=>ue xs λx=>Fl x λx=>x.length=1/\Q (.int (x.cps.getD 0 0:Nat)) H):=by
 intro pins s σ H xs us Q I r h;obtain⟨y,rfl,h1⟩:=ue.ex h;obtain⟨x,rfl,hz,q⟩:=Fl.ex h1;obtain⟨u,rfl,t,rfl⟩:=vals1 r;exact ord_of_one hz ⟨.int _,H,I.tok _, ⟨_,rfl⟩,q⟩
end
end L2
namespace L2
open PySem PySem.Spec PyProof.Rows
structure uF (h:Heap) (x dx C:Addr) (mA:Str->Option Value):Prop where
 obj:h.get? x=some (C5 C dx)
 ns:h.Ns1 dx mA
 ne:dx≠x
theorem yk {h:Heap} {dx:Addr} {mA:Str->Option Value} (n:h.Ns1 dx mA):∃od,h.get? dx=some od/\∀name,E8 name od=some (mA name):=by
 obtain⟨o,es,ep,ho,hd,hk,_,hm⟩:=n;apply⟨o,ho,λname=>?_⟩;have e:=hm name;unfold nsFind findBy at e;rw[<-Array.find?_toList]at e;unfold E8;rw[hd];dsimp only
 split
 .rename_i y q
  rw[q]at e;exact congrArg some e
 .rename_i q
  rw[q]at e
  have a:es.toList.any (·.refKey)=false:=by
   rw[HE];intro y hy;obtain⟨z,t,LD⟩:=hk y (Array.mem_toList_iff.mp hy);simp[DictEntry.refKey,LD]
  have a':¬es.toList.any (·.refKey)=true:=by rw[a];exact AR
  rw[iN a'];exact congrArg some e
theorem uF.look {h:Heap} {x dx C:Addr} {mA:Str->Option Value} (I:uF h x dx C mA):∃od,PySem.W.InstAt h x (C5 C dx) C (some od)/\∀name,E8 name od=some (mA name):=
 let⟨od,ho,hl⟩:=yk I.ns
 ⟨od, ⟨I.obj,rfl,rfl,ho⟩,hl⟩
section
variable{prog:Program} {w:World} {A:Around} {E:Value->Shared->Prop} {s:Shared} {K:AD} {x dx C f:Addr} {mA:Str->Option Value} {name:Str} {v:Value}
theorem get_map {expr:Bool} {Q:Value->Shared->Prop} (X:K.In s.heap) (I:uF s.heap x dx C mA) (hg:EO K C name=true) (hh:FN K C=true)
  (ha:C1 K (.ref C) name=some none) (hv:mA name=some v) (M6:HP v=true) (h:Q v {s with toks:=s.toks+1}):
  wpAny (model prog w) A (getAttr (.ref x) name expr) Q E s:=by
 obtain⟨od,J,hl⟩:=I.look;exact PySem.W.get_value X J (EZ hg).1 (PySem.W.findObj_own hh ha rfl (by rw[hl,hv])) M6 h
theorem Cv {pl:Sem Bool} {Q:Value×List Value->Shared->Prop} (X:K.In s.heap) (I:uF s.heap x dx C mA) (hg:EO K C name=true)
  (hf:C1 K (.ref C) name=some (some (.ref f))) (ht:HF K (.ref f)=true) (hv:mA name=none) (h:Q (.ref f, [.ref x]) s):
  wpAny (model prog w) A (getMethod (.ref x) name pl) Q E s:=by
 obtain⟨od,J,hl⟩:=I.look;exact PySem.W.method_fn X J (EZ hg).1 (EZ hg).2 hf (beq_iff_eq.mp ht) (by show(E8 name od).map (·.isSome)=some false;rw[hl,hv];rfl) h
theorem Gx {ns:List Str} {Q:Unit->Shared->Prop} (X:K.In s.heap) (I:uF s.heap x dx C mA)
  (hs:C1 K (.ref C) "__setattr__"=some (some (.builtin "object.__setattr__"))) (hp:HG K C=true) (ht:GK K C name=some none) (hh:FN K C=true)
  (hw:HD mA ns) (hsz:ns.length<=sizeLine)
  (h:∀h',uF h' x dx C (λy=>if y=name then some v else mA y)->Heap.SameBut dx s.heap h'->Q () {s with heap:=h',toks:=s.toks+2}):
  wpAny (model prog w) A (setAttr (.ref x) name v) Q E s:=by
 obtain⟨od,J,hl⟩:=I.look;apply PySem.W.set_plain X J hs (PySem.W.osa_open (s:={s with toks:=s.toks+1}) (r:=none) X J hp ht λb=>?_);obtain⟨cd,hc,qY⟩:=PySem.W.any_some hh;have hx:s.heap.get? x=some ⟨.ref C,some dx,.plain,#[]⟩:=I.obj;apply wpAny_bind (wpAny_pure (wpAny_bind (wpAny_bind (wpAny_loadPart hx (wpAny_bind (J9 (s:={s with toks:=s.toks+1}) (PySem.W.looks_clsIn X hc) ?_))))));rw[qY];apply wpAny_pure (a:=some dx) (wpAny_bind (wpAny_pure (wpAny_bind ?_)));apply wpAny_nsSet1 (s:={s with toks:=s.toks+1}) I.ns λh' QM KW=>?_;obtain⟨oD,esD,epD,Yl,YJ,YO⟩:=QM.count (KI name v hw);apply wpAny_bind (wpAny_lookBehind Yl (by rw[YJ];exact pastItsLine_dict (AY YO (by rw[AA];nofun))) ?_);exact wpAny_pure (h _ ⟨(KW.2 _ (G3 I.ne)).trans I.obj,QM,I.ne⟩ KW)
theorem Cj {R:Result->Shared->Prop} {vs:List Value} {kw:List (Str×Value)} (X:K.In s.heap) (hm:IC K C=true)
  (hi:C1 K (.ref C) "__init__"=some (some (.ref f))) (hf:PySem.W.typeIn K (.ref f)=some (.type "function"))
  (h:codeAny (model prog w) (A.under (.builtin "type.__call__" ⟨.ref C::vs,kw⟩)) (.call (.ref f) ⟨.ref (s.heap.objs.size+1)::vs,kw⟩) (PySem.W.InitBack (s.heap.objs.size+1) R)
   {s with heap:=(s.heap.push CI).push (C5 C s.heap.objs.size)}):
  codeAny (model prog w) A (.call (.ref C) ⟨vs,kw⟩) R s:=by
 obtain⟨hh,g,d,t,os⟩:=s;exact PySem.W.make_core (PySem.W.makes_of X hm) (PySem.W.looks_findIn X hi) (λself=>PySem.W.bind_fn X self hf) (.inl rfl) h
end
def bU (f:Str) (v:V):List (Str×V)->List (Str×V)
 |[]=>[(f,v)]
 |(g,x)::r=>if g=f then(g,v)::r else(g,x)::bU f v r
theorem kJ (f g:Str) (v:V):∀fs:List (Str×V), (bU f v fs).lookup g=if g=f then some v else fs.lookup g
 |[]=>by
  show C2 g [(f,v)]=_
  by_cases h:g=f
  .have hb:(g==f)=true:=beq_iff_eq.mpr h;simp only[C2,hb,iP h]
  .have hb:(g==f)=false:=beq_eq_false_iff_ne.mpr h;simp only[C2,hb,iN h]
 |(k,x)::r=>by
  have ih:=kJ f g v r;rw[show bU f v ((k,x)::r)=(if k=f then(k,v)::r else(k,x)::bU f v r)from rfl]
  by_cases hk:k=f
  .rw[iP hk]
   by_cases h:g=k
   .have hb:(g==k)=true:=beq_iff_eq.mpr h;simp only[C2,hb,iP (h.trans hk)]
   .have hb:(g==k)=false:=beq_eq_false_iff_ne.mpr h;simp only[C2,hb,iN (λe:g=f=>h (e.trans hk.symm))]
  .rw[iN hk]
   by_cases h:g=k
   .have hb:(g==k)=true:=beq_iff_eq.mpr h;simp only[C2,hb,iN (λe:g=f=>hk (h.symm.trans e))]
   .have hb:(g==k)=false:=beq_eq_false_iff_ne.mpr h;simp only[C2,hb];exact ih
theorem jV (f:Str) (v:V):∀fs:List (Str×V),f∈(bU f v fs).map (·.1)/\∀g,g∈fs.map (·.1)->g∈(bU f v fs).map (·.1)
 |[]=>⟨by simp[bU],λg h=>by simp at h⟩
 |(k,x)::r=>by
  obtain⟨i1,i2⟩:=jV f v r;rw[show bU f v ((k,x)::r)=(if k=f then(k,v)::r else(k,x)::bU f v r)from rfl]
  by_cases hk:k=f
  .rw[iP hk];subst hk;exact⟨by simp,λg h=>by simpa using h⟩
  .rw[iN hk];apply⟨?_,λg h=>?_⟩
   .rw[AI];exact BG _ i1
   .rw[AI]at h ⊢;rcases AG.mp h with e|e
    .exact AG.mpr (.inl e)
    .exact BG _ (i2 g e)
theorem kL (f:Str) (v:V):∀fs:List (Str×V), (bU f v fs).length<=fs.length+1
 |[]=>by simp[bU]
 |(k,x)::r=>by
  have ih:=kL f v r;rw[show bU f v ((k,x)::r)=(if k=f then(k,v)::r else(k,x)::bU f v r)from rfl]
  by_cases hk:k=f
  .rw[iP hk,AA,AA];nofun
  .rw[iN hk,AA,AA];nofun
theorem fQ.some_of {v:V} {o:Option Value} (r:fQ (some v) o):∃u,o=some u/\RelV v u:=by
 cases o with
 |none=>exact(show False from r).elim
 |some u=>exact⟨u,rfl,r⟩
theorem fQ.none_of {o:Option Value} (r:fQ none o):o=none:=by
 cases o with
 |none=>rfl
 |some u=>exact(show False from r).elim
theorem yy {v:V} {u:Value} (r:RelV v u):HP u=true:=by
 cases v with
 |aY=>cases(show u=Value.none from r);rfl
 |bl b=>cases(show u=Value.bool b from r);rfl
 |int i=>obtain⟨t,e⟩:=(show∃t,u=Value.int i t from r);cases e;rfl
 |str x=>obtain⟨t,e⟩:=(show∃t,u=Value.str x t from r);cases e;rfl
 |vW b=>obtain⟨t,e⟩:=(show∃t,u=Value.bytes b t from r);cases e;rfl
 |Ra b=>obtain⟨t,e⟩:=(show∃t,u=Value.float b t from r);cases e;rfl
 |ref a=>cases(show u=Value.ref a from r);rfl
 |ty n=>cases(show u=Value.type n from r);rfl
section
variable{P:Program} {w:World} {H H':Hp} {h h':Heap} {a C dx:Addr} {fs Zs:List (Str×V)}
theorem qA (b8:iS P w H h) (e:H a=some (.ins C dx fs)):∃mA,uF h a dx C mA/\(∀f,fQ (fs.lookup f) (mA f))/\HD mA (fs.map (·.1))/\fs.length<=1000/\H dx=some (.own a):=by
 obtain⟨d,z,ne,ob,mA,n,r,q⟩:=(show cf P w H h a (.ins C dx fs)from b8 a _ e)
 exact⟨mA, ⟨ob,n,ne⟩,r,q,z,d⟩
end
structure oB (K:AD) (C:Addr):Prop where
 pg:EO K C Str.empty=true
 hd:FN K C=true
 po:HG K C=true
 sa:C1 K (.ref C) "__setattr__"=some (some (.builtin "object.__setattr__"))
theorem oB.get {K:AD} {C:Addr} (c:oB K C) (f:Str):EO K C f=true:=c.pg
def aH (K:AD) (C:Addr) (f:Str):Prop:=C1 K (.ref C) f=some none
theorem aH.Pk {K:AD} {C:Addr} {f:Str} (n:aH K C f):GK K C f=some none:=by
 unfold GK;rw[show C1 K (.ref C) f=some none from n];rfl
structure Meth (K:AD) (C:Addr) (m:Str) (f:Addr):Prop where
 at_:C1 K (.ref C) m=some (some (.ref f))
 fn:HF K (.ref f)=true
 kp:EE K (.ref f)=true
section
variable{X:Cx} {pins:List (Addr×Obj)} {σ:St} {H:Hp} {s:Shared} {a C dx:Addr} {fs:List (Str×V)} {f:Str} {v:V} {A:Around} {E:Value->Shared->Prop}
theorem vL {b:Bool} {Q:Value->Shared->Prop} (I:Inv X pins σ H s) (e:H a=some (.ins C dx fs)) (c:oB X.K C) (n:aH X.K C f) (l:fs.lookup f=some v)
  (h:∀u s',Inv X pins σ H s'->RelV v u->Q u s'):wpAny (model X.prog X.w) A (getAttr (.ref a) f b) Q E s:=by
 obtain⟨mA,O,r,_,_,_⟩:=qA I.b8 e;obtain⟨u,hu,ru⟩:=fQ.some_of (v:=v) (o:=mA f) (by rw[<-l];exact r f);exact get_map I.t8 O (c.get f) c.hd n hu (yy ru) (h u _ (I.tok _) ru)
theorem nj {m:Str} {g:Addr} {pl:Sem Bool} {Q:Value×List Value->Shared->Prop} (I:Inv X pins σ H s) (e:H a=some (.ins C dx fs)) (c:oB X.K C) (k:Meth X.K C m g) (l:fs.lookup m=none)
  (h:Q (.ref g, [.ref a]) s):wpAny (model X.prog X.w) A (getMethod (.ref a) m pl) Q E s:=by
 obtain⟨mA,O,r,_,_,_⟩:=qA I.b8 e;have hn:mA m=none:=fQ.none_of (by rw[<-l];exact r m);exact Cv I.t8 O (c.get m) k.at_ k.fn hn h
theorem vq {y:V} {u:Value} {Q:Unit->Shared->Prop} (I:Inv X pins σ H s) (e:H a=some (.ins C dx fs)) (c:oB X.K C) (n:aH X.K C f) (hl:fs.length<1000) (ry:RelV y u)
  (h:∀s',Inv X pins σ (upd H a (.ins C dx (bU f y fs))) s'->Q () s'):wpAny (model X.prog X.w) A (setAttr (.ref a) f u) Q E s:=by
 obtain⟨mA,O,r,wi,_,ho⟩:=qA I.b8 e;have hz:(fs.map (·.1)).length<=sizeLine:=by rw[AF,sizeLine_eq];nofun
 apply Gx I.t8 O c.sa c.po n.Pk c.hd wi hz λh' O' sb=>h _ ?_;have hd:∃o,h'.get? dx=some o:=let⟨o,_,_,e',_⟩:=O'.ns; ⟨o,e'⟩;apply I.write (x:=a) (e:=dx) (by rw[e];exact E9) (.inr ho) (λb q hb z=>(sb.2 b hb).trans z) hd ?_;apply⟨by rw[ae O.ne];exact ho,?_,O.ne,O'.obj,_,O'.ns,λg=>?_,λg hg=>?_⟩
 .have:=kL f y fs;nofun
 .show fQ ((bU f y fs).lookup g) (if g=f then some u else mA g)
  rw[kJ]
  by_cases q:g=f
  .rw[iP q,iP q];exact ry
  .rw[iN q,iN q];exact r g
 .by_cases q:g=f
  .rw[q];exact(jV f y fs).1
  .refine(jV f y fs).2 g (wi g λz=>hg ?_);show(if g=f then some u else mA g)=none
   rw[iN q];exact z
theorem Inv.made (I:Inv X pins σ H s):Inv X pins σ (upd (upd H s.heap.objs.size (.own (s.heap.objs.size+1))) (s.heap.objs.size+1) (.ins C s.heap.objs.size []))
  {s with heap:=(s.heap.push CI).push (C5 C s.heap.objs.size)}:=by
 have e1:(s.heap.push CI).get? s.heap.objs.size=some CI:=Heap.get?_push_size s.heap rfl
 have e2:((s.heap.push CI).push (C5 C s.heap.objs.size)).get? (s.heap.objs.size+1)=some (C5 C s.heap.objs.size):=by
  have:=Heap.get?_push_size (s.heap.push CI) (o:=C5 C s.heap.objs.size) rfl
  rwa [Heap.size_push]at this
 have e3:(s.heap.push CI).Ns s.heap.objs.size (λ_=>none):=⟨CI,#[],_,e1,rfl, (λe he=>absurd he (by simp)),λ_=>rfl⟩
 have I1:=I.laid (a:=s.heap.objs.size) (o:= .own (s.heap.objs.size+1)) (h':=s.heap.push CI) (t':=s.toks) (λb u q=>Heap.get?_push_of_some _ q) (AE _) ⟨_,e1⟩;apply I1.laid (a:=s.heap.objs.size+1) (o:= .ins C s.heap.objs.size []) (t':=s.toks) (λb u q=>Heap.get?_push_of_some _ q) (F8 (Heap.size_push _ _)) ?_;have ne:s.heap.objs.size≠s.heap.objs.size+1:=B9 (CO _);apply⟨by rw[ae ne,aa],A0 _,ne,e2,λ_=>none, (Heap.Ns1.of_empty e3).at λo q=>Heap.get?_push_of_some _ q,λ_=>E9,λy hy=>absurd rfl hy⟩
theorem Ij {prog:Program} {w:World} {env:Env} {e:Expr} {f:Str} {pos:Pos} {s:Shared} {Q:Value->Shared->Prop} (hb:attributeBase e f env (eval e env)=eval e env)
  (h:wpAny (model prog w) A (eval e env) (λo s₁=>wpAny (model prog w) A (getAttr o f true) Q E s₁) E s):wpAny (model prog w) A (eval (.Attribute e f pos) env) Q E s:=
 Attribute_any_ h (by rw[arm_eval_Attribute,hb])
end
inductive FE (K:AD) (H:Hp) (a:Addr) (f:Str) (p:V->Prop):Prop
 |i (C dx:Addr) (fs:List (Str×V)) (_:H a=some (.ins C dx fs)) (_:oB K C) (_:aH K C f) (v:V) (_:fs.lookup f=some v) (_:p v)
inductive ME (H:Hp) (a C:Addr) (m:Str) (r:Prop):Prop
 |i (dx:Addr) (fs:List (Str×V)) (_:H a=some (.ins C dx fs)) (_:fs.lookup m=none) (_:r)
inductive SF (K:AD) (H:Hp) (a:Addr) (f:Str) (p:Addr->Addr->List (Str×V)->Prop):Prop
 |i (C dx:Addr) (fs:List (Str×V)) (_:H a=some (.ins C dx fs)) (_:oB K C) (_:aH K C f) (_:fs.length<1000) (_:p C dx fs)
def zu (K:AD) (ta:TE) (f:Str):TE:=λσ H Q=>ta σ H λx H1=>iT x λa=>FE K H1 a f λv=>Q v H1
def Oz (K:AD) (ta tv:TE) (f:Str):TS:=λD σ H=>tv σ H λy H1=>ta σ H1 λx H2=>iT x λa=>SF K H2 a f λC dx fs=>
 D.nx σ (upd H2 a (.ins C dx (bU f y fs)))
section
variable{X:Cx} {o e value:Expr} {f:Str} {pos pos' S4:Pos} {ta tv:TE}
theorem ak (he:PE X e ta) (hb:attributeBase e f X.env (eval e X.env)=eval e X.env):PE X (.Attribute e f pos) (zu X.K ta f):=by
 intro pins s σ H Q I h;apply Ij hb (bM (he pins s σ H _ I h) λu s1 ⟨x,H1,I1,rx,q⟩=>?_);obtain⟨a,rfl,C,dx,fs,ea,c,n,v,l,q⟩:=iT.ex q;obtain rfl:u=Value.ref a:=rx;exact vL I1 ea c n l λu' s2 I2 ru=>⟨v,H1,I2,ru,q⟩
theorem aT (ha:PE X o ta) (hv:PE X value tv) (hs:swapsWith value (some (.Attribute o f pos')) pos.line X.env=pure false):PS X (.Assign [.Attribute o f pos'] value pos) (Oz X.K ta tv f):=by
 intro pins s σ H D I h;apply plainObj_wpAny_Assign_Attribute (bM (hv pins s σ H _ I h) λu s1 ⟨y,H1,I1,ry,q⟩=>bM (ha pins s1 σ H1 _ I1 q) λov s2 ⟨x,H2,I2,rx,q2⟩=>?_) hs;obtain⟨a,rfl,C,dx,fs,ea,c,n,l,q2⟩:=iT.ex q2;obtain rfl:ov=Value.ref a:=rx;exact vq I2 ea c n l ry λs3 I3=>⟨σ,_,I3,q2⟩
end
section
variable{X:Cx} {pins:List (Addr×Obj)} {σ:St} {H:Hp} {s:Shared} {A:Around} {E:Value->Shared->Prop} {Q:Value->Shared->Prop} {c:Value} {b:Bool}
end
end L2
namespace L2
open PySem PySem.Spec PyProof.Rows
structure dJ (k:Nat) (A:Around):Prop where
 hd:A.handled=none
 dp:A.depth+3*k+5<recursionLimit
 un:A.units+16*k+200<cLine
theorem dJ.mono {j k:Nat} {A:Around} (r:dJ k A) (h:j<=k):dJ j A:=⟨r.hd,by have:=r.dp;lia,by have:=r.un;lia⟩
theorem dJ.deeper {k:Nat} {A:Around} (r:dJ (k+1) A) (env:Env):dJ k (A.deeper env):=
 ⟨r.hd,by have:=r.dp;show A.depth+1+3*k+5<_;lia,by have:=r.un;show A.units+3+16*k+200<_;lia⟩
theorem vC {A:Around} {C:Addr} {us:List Value} {kw:List (Str×Value)}:(A.under (.builtin "type.__call__" ⟨.ref C::us,kw⟩)).depth=A.depth+1:=by
 first|rfl|simp[Around.under,Code.weight,Code.isCreation,Code.isGuard,Code.isCaller,Code.frames,Code.isFrame,guardIds]
theorem vB {A:Around} {C:Addr} {us:List Value} {kw:List (Str×Value)}:(A.under (.builtin "type.__call__" ⟨.ref C::us,kw⟩)).units=A.units+1:=by
 first|rfl|simp[Around.under,Code.cUnits,Code.frames,Code.isFrame]
theorem dJ.make {k:Nat} {A:Around} (r:dJ (k+1) A) (C:Addr) (us:List Value) (kw:List (Str×Value)):dJ k (A.under (.builtin "type.__call__" ⟨.ref C::us,kw⟩)):=
 ⟨r.hd,by have:=r.dp;rw[vC];lia,by have:=r.un;rw[vB];lia⟩
theorem dJ.depth {k:Nat} {A:Around} (r:dJ k A):A.depth<recursionLimit:=by have:=r.dp;lia
theorem dJ.units {k:Nat} {A:Around} (r:dJ k A):A.units+64<cLine:=by have:=r.un;lia
def uA:TA:=λ_ H Q=>Q [] H
def oE (ta:TE) (tr:TA):TA:=λσ H Q=>ta σ H λx H1=>tr σ H1 λxs H2=>Q (x::xs) H2
section
variable{X:Cx} {e:Expr} {es:List Expr} {te:TE} {t:TA} {pos:Pos}
theorem Au:PA X [] uA:=λ_ _ _ _ H Q I h=>Calls.spliced_nil ⟨[],H,I,.nil,h⟩
theorem wU (ha:PE X e te) (hr:PA X es t) (hs:starEach (e::es) X.env=(false,eval e X.env)::starEach es X.env:=by rfl):PA X (e::es) (oE te t):=by
 intro pos pins s σ H Q I h;rw[hs];show wpAny _ _ (spliced ((false,eval e X.env)::backTo pos (starEach es X.env))) _ _ s
 apply Calls.spliced_cons (bM (ha pins s σ H _ I h) λu s1 ⟨x,H1,I1,r1,q1⟩=>?_);exact bM (hr pos pins s1 σ H1 _ I1 q1) λus s2 ⟨xs,H2,I2,r2,q2⟩=>⟨x::xs,H2,I2,.cons r1 r2,q2⟩
def Lk (t:TA):TE:=λσ H Q=>t σ H λxs H1=>xs.length<=sizeLine/\∀p,H1 p=none->Q (.ref p) (upd H1 p (.tup xs))
def Ou (t:TA):TE:=λσ H Q=>t σ H λxs H1=>xs.length<=sizeLine/\∀p,H1 p=none->Q (.ref p) (upd H1 p (.lst xs))
theorem br {x1} (h:PA X es t):PE X (.Tuple es x1 pos) (Lk t):=by
 intro pins s σ H Q I hq;apply wpAny_Tuple_spliced (bM (h pos pins s σ H _ I hq) λus s1 ⟨xs,H1,I1,r,z,q⟩=>⟨by rw[<-r.length];exact z,?_⟩);have hf:H1 s1.heap.objs.size=none:=I1.b8.fresh (AE _);apply⟨.ref s1.heap.objs.size,upd H1 s1.heap.objs.size (.tup xs),I1.laid (t':=s1.toks) (λb u e=>Heap.get?_push_of_some _ e) (AE _) ?_,rfl,q _ hf⟩;exact⟨z,us,r, ⟨_,Heap.get?_push_size _ rfl,rfl,_,rfl⟩⟩
theorem aM (h:PA X es t):PE X (.List es pos) (Ou t):=by
 intro pins s σ H Q I hq;apply wpAny_List_spliced (bM (h pos pins s σ H _ I hq) λus s1 ⟨xs,H1,I1,r,z,q⟩=>⟨by rw[<-r.length];exact z,?_⟩);have hf:H1 s1.heap.objs.size=none:=I1.b8.fresh (AE _);apply⟨.ref s1.heap.objs.size,upd H1 s1.heap.objs.size (.lst xs),I1.laid (t':=s1.toks) (λb u e=>Heap.get?_push_of_some _ e) (AE _) ?_,rfl,q _ hf⟩;exact⟨z,us,0,r,Heap.get?_push_size _ rfl⟩
end
abbrev Sp:=List V->Hp->VK->XK->Prop
abbrev Ei:=List Env->Hp->Shared->XK->Value->Shared->Prop
structure uG (P:Program) (w:World) (K:AD) (mg:Str->Option Value) (base:Heap) (A:Around) (outer:List Env) (s:Shared) (H:Hp):Prop where
 frames:A.frames=some outer
 mod:Mod K mg base
 bs:∀b o,base.get? b=some o->s.heap.get? b=some o/\H b=none
 Fj:base.objs.size<=s.heap.objs.size
 lr:s.heap.FunFrames base outer
 K9:∀b∈zj outer,H b=none
 b8:iS P w H s.heap
 bare:AllBare s.gens
def CE (outer:List Env) (P:Program) (w:World) (H:Hp) (s:Shared) (Q:VK) (u:Value) (s':Shared):Prop:=
 ∃v H',s'.os=s.os/\AllBare s'.gens/\Un (zj outer) [] H H' s.heap s'.heap/\iS P w H' s'.heap/\RelV v u/\Q v H'
def CR (CX:Ei) (outer:List Env) (P:Program) (w:World) (H:Hp) (s:Shared) (Q:VK) (E:XK) (r:Result) (s':Shared):Prop:=
 match r with
 | .ok (.ret u)=>CE outer P w H s Q u s'
 | .ok _=>False
 | .error e=>CX outer H s E e s'
structure aI (P:Program) (w:World) (K:AD) (mg:Str->Option Value) (base:Heap) (CX:Ei) (k:Nat) (f:Addr) (fd:FuncData) (ps:List Str) (sp:Sp):Prop where
 len:∀vs H Q E,sp vs H Q E->vs.length=ps.length
 run:∀(A:Around) (outer:List Env) (s:Shared) (H:Hp) (args:Args) (us:List Value) (vs:List V) (Q:VK) (E:XK),dJ k A->uG P w K mg base A outer s H->BindsTo s fd args (ps.zip us)->Vals vs us->sp vs H Q E->
  codeAny (model P w) A (.call (.ref f) args) (CR CX outer P w H s Q E) s
theorem uG.make {P:Program} {w:World} {K:AD} {mg:Str->Option Value} {base:Heap} {A:Around} {outer:List Env} {s:Shared} {H:Hp} (e:uG P w K mg base A outer s H) (C:Addr) (us:List Value) (kw:List (Str×Value)):
  uG P w K mg base (A.under (.builtin "type.__call__" ⟨.ref C::us,kw⟩)) outer s H:=⟨by first|exact e.frames|(simpa [Around.under,Code.envs,Code.isFrame,pushEnvs]using e.frames),e.mod,e.bs,e.Fj,e.lr,e.K9,e.b8,e.bare⟩
section
variable{X:Cx} {pins:List (Addr×Obj)} {σ:St} {H:Hp} {s s':Shared}
theorem Inv.O8 (I:Inv X pins σ H s):uG X.prog X.w X.K X.mg X.base X.A X.stack s H:=
 ⟨I.ok.frames,I.ok.mod,I.bs,AY I.ok.Fj I.sz,I.stack,I.wF,I.b8,I.bare⟩
theorem Inv.after {Q:VK} {u:Value} (I:Inv X pins σ H s) (h:CE X.stack X.prog X.w H s Q u s'):EP X pins σ Q u s':=by
 obtain⟨v,H',os,bare,un,b8,r,q⟩:=h;obtain⟨hh,g,d,t,Xl⟩:=s';obtain rfl:Xl=s.os:=os;exact⟨v,H',I.call (h':=hh) (g':=g) (d':=d) (t':=t) (ch:=[]) un b8 bare (λb z=>absurd z (by simp)),r,q⟩
end
def Jx (sp:Sp) (iR:List V) (E:XK) (t:TA):TE:=λσ H Q=>t σ H λvs H1=>sp (vs++iR) H1 Q E
def rN (C:Addr) (m:Str) (sp:Sp) (iR:List V) (E:XK) (ta:TE) (t:TA):TE:=λσ H Q=>ta σ H λx H1=>iT x λa=>ME H1 a C m (
 t σ H1 λvs H2=>sp (.ref a::(vs++iR)) H2 Q E)
def zN (C:Addr) (sp:Sp) (iR:List V) (E:XK) (t:TA):TE:=λσ H Q=>t σ H λvs H1=>∀x dx,H1 x=none->H1 dx=none->dx≠x->
 sp (.ref x::(vs++iR)) (upd (upd H1 dx (.own x)) x (.ins C dx [])) (λv H2=>v= .aY/\Q (.ref x) H2) E
def Binds (K:AD) (fd:FuncData) (ps:List Str) (ds:List Value):Prop:=
 ∀(s:Shared) (us:List Value),K.In s.heap->(us++ds).length=ps.length->BindsTo s fd ⟨us, []⟩ (ps.zip (us++ds))
theorem Binds.all {K:AD} {fd:FuncData} {ps:List Str} (h:∀us:List Value,us.length=ps.length->bindArgs fd ⟨us, []⟩=pure (ps.zip us)):Binds K fd ps []:=λs us _ hl=>by
 rw[A6]at hl ⊢;exact .of_eq (h us hl)
def Passes (CX:Ei) (X:Cx) (E:XK):Prop:=∀(pins:List (Addr×Obj)) (σ:St) (H:Hp) (s:Shared) (e:Value) (s':Shared),Inv X pins σ H s->CX X.stack H s E e s'->X.xe e s'
section
variable{X:Cx} {CX:Ei} {k:Nat} {f C:Addr} {fd:FuncData} {ps:List Str} {sp:Sp} {iR:List V} {ds:List Value} {E:XK} {x m:Str} {p pos apos:Pos} {e o:Expr} {es:List Expr} {ta:TE} {t:TA}
theorem uN {pins:List (Addr×Obj)} {σ:St} {H:Hp} {s:Shared} {Q:VK} {us:List Value} {vs:List V} (F:aI X.prog X.w X.K X.mg X.base CX k f fd ps sp) (hr:dJ k X.A) (hb:Binds X.K fd ps ds) (hd:Vals iR ds) (hx:Passes CX X E)
  (I:Inv X pins σ H s) (r:Vals vs us) (h:sp (vs++iR) H Q E):wpAny (model X.prog X.w) X.A (call (.ref f) us) (EP X pins σ Q) X.xe s:=by
 have r2:Vals (vs++iR) (us++ds):=r.append hd;have hl:(us++ds).length=ps.length:=by rw[<-r2.length];exact F.len _ _ _ _ h
 apply wpAny_call (codeAny_mono (F.run X.A X.stack s H ⟨us, []⟩ (us++ds) (vs++iR) Q E hr I.O8 (hb s us I.t8 hl) r2 h) λr s' hq=>?_);cases r with
 |error e=>exact hx pins σ H s e s' I hq
 |ok fl=>
  cases fl with
  |ret u=>exact I.after hq
  |next=>exact CG hq
  |brk=>exact CG hq
  |cont=>exact CG hq
theorem Ho (F:aI X.prog X.w X.K X.mg X.base CX k f fd ps sp) (hr:dJ k X.A) (hg:Gl X x) (hm:X.mg x=some (.ref f)) (hk:EE X.K (.ref f)=true) (hb:Binds X.K fd ps ds) (hd:Vals iR ds) (hx:Passes CX X E)
  (ha:PA X (e::es) t) (Fc:(x==("__debug__":Str))=false:=by decide) (he:starEach (e::es) X.env=(false,eval e X.env)::starEach es X.env:=by rfl) (nP:(backTo pos (starEach es X.env)).any (·.1)=false:=by rfl):
  PE X (.Call (.Name x p) (e::es) [] pos) (Jx sp iR E t):=by
 intro pins s σ H Q I h;apply wpAny_Call_Name_kw (lN I hg hm ?_ Fc);apply FA (h₀:=X.base) I.ok.mod.NF hk (bM (ha pos pins s σ H _ I h) λus s1 ⟨vs,H1,I1,r,q⟩=>⟨I1.t8,?_⟩) he nP;exact uN F hr hb hd hx I1 r q
theorem Hl {pl:Sem Bool} (he:PE X o ta) (c:oB X.K C) (hm:Meth X.K C m f) (F:aI X.prog X.w X.K X.mg X.base CX k f fd ps sp) (hr:dJ k X.A) (hb:Binds X.K fd ps ds) (hd:Vals iR ds) (hx:Passes CX X E) (ha:PA X (e::es) t)
  (M7:starEach (e::es) X.env=(false,eval e X.env)::starEach es X.env:=by rfl) (nP:(backTo pos (starEach es X.env)).any (·.1)=false:=by rfl)
  (ht:eval (.Call (.Attribute o m apos) (e::es) [] pos) X.env=(do
   let ov <-eval o X.env
   standAt apos.atName
   let(f,first)<-holding [ov] (getMethod ov m pl)
   callWith pos f first (backTo pos (starEach (e::es) X.env)) (backToKw pos (keywordEach [] X.env))):=by rfl):
  PE X (.Call (.Attribute o m apos) (e::es) [] pos) (rN C m sp iR E ta t):=by
 intro pins s σ H Q I h;apply GP (pl:=pl) (bM (he pins s σ H _ I h) λu s1 ⟨x,H1,I1,rx,q⟩=>?_) ht;obtain⟨a,rfl,dx,fs,ea,l,q⟩:=iT.ex q;obtain rfl:u=Value.ref a:=rx;apply nj I1 ea c hm l ?_;apply FA (first:=[.ref a]) (h₀:=X.base) I.ok.mod.NF hm.kp (bM (ha pos pins s1 σ H1 _ I1 q) λus s2 ⟨vs,H2,I2,r,q2⟩=>⟨I2.t8,?_⟩) M7 nP;exact uN (us:= .ref a::us) (vs:= .ref a::vs) F hr hb hd hx I2 (.cons rfl r) q2
theorem Ca {pl:Sem Bool} (he:PE X o ta) (c:oB X.K C) (hm:Meth X.K C m f) (F:aI X.prog X.w X.K X.mg X.base CX k f fd ps sp) (hr:dJ k X.A) (hb:Binds X.K fd ps ds) (hd:Vals iR ds) (hx:Passes CX X E)
  (ht:eval (.Call (.Attribute o m apos) [] [] pos) X.env=(do
   let ov <-eval o X.env
   standAt apos.atName
   let(f,first)<-holding [ov] (getMethod ov m pl)
   callWith pos f first (backTo pos (starEach [] X.env)) (backToKw pos (keywordEach [] X.env))):=by rfl):
  PE X (.Call (.Attribute o m apos) [] [] pos) (rN C m sp iR E ta uA):=by
 intro pins s σ H Q I h;apply GP (pl:=pl) (bM (he pins s σ H _ I h) λu s1 ⟨x,H1,I1,rx,q⟩=>?_) ht;obtain⟨a,rfl,dx,fs,ea,l,q⟩:=iT.ex q;obtain rfl:u=Value.ref a:=rx;apply nj I1 ea c hm l ?_;exact G4 (first:=[.ref a]) I1.t8 hm.kp (uN (us:=[.ref a]) (vs:=[.ref a]) F hr hb hd hx I1 (.cons rfl .nil) q)
structure Mk (K:AD) (C f:Addr):Prop where
 makes:IC K C=true
 init:C1 K (.ref C) "__init__"=some (some (.ref f))
 fn:HF K (.ref f)=true
 kp:EE K (.ref C)=true
theorem sy {pins:List (Addr×Obj)} {σ:St} {H:Hp} {s:Shared} {Q:VK} {us:List Value} {vs:List V} (M:Mk X.K C f) (F:aI X.prog X.w X.K X.mg X.base CX k f fd ps sp) (hr:dJ (k+1) X.A) (hb:Binds X.K fd ps ds) (hd:Vals iR ds)
  (hx:Passes CX X E) (I:Inv X pins σ H s) (r:Vals vs us)
  (h:∀x dx,H x=none->H dx=none->dx≠x->sp (.ref x::(vs++iR)) (upd (upd H dx (.own x)) x (.ins C dx [])) (λv H2=>v= .aY/\Q (.ref x) H2) E):
  wpAny (model X.prog X.w) X.A (call (.ref C) us) (EP X pins σ Q) X.xe s:=by
 have hq:=h (s.heap.objs.size+1) s.heap.objs.size (I.b8.fresh (Nat.le_succ _)) (I.b8.fresh (AE _)) (B9 (CO _));have I2:=Inv.made (C:=C) I;have r2:Vals (V.ref (s.heap.objs.size+1)::(vs++iR)) (Value.ref (s.heap.objs.size+1)::(us++ds)):= .cons rfl (r.append hd)
 have hl:(Value.ref (s.heap.objs.size+1)::us++ds).length=ps.length:=by
  have e:=r2.length;rw[F.len _ _ _ _ hq]at e;exact e.symm
 apply wpAny_call (Cj (f:=f) I.t8 M.makes M.init (beq_iff_eq.mp M.fn) (codeAny_mono (F.run _ X.stack _ _ ⟨Value.ref (s.heap.objs.size+1)::us, []⟩ (Value.ref (s.heap.objs.size+1)::(us++ds)) _ _ E (hr.make C us [])
  (I2.O8.make C us []) (hb _ (Value.ref (s.heap.objs.size+1)::us) I2.t8 hl) r2 hq) λr s' uo=>?_))
 cases r with
 |error e=>exact hx pins σ _ _ e s' I2 uo
 |ok fl=>
  cases fl with
  |ret u=>
   obtain⟨v,H',I3,rv,ev,q3⟩:=I2.after uo;subst ev;exact⟨rv, ⟨V.ref (s.heap.objs.size+1),H',I3,rfl,q3⟩⟩
  |next=>exact CG uo
  |brk=>exact CG uo
  |cont=>exact CG uo
theorem Hm (M:Mk X.K C f) (F:aI X.prog X.w X.K X.mg X.base CX k f fd ps sp) (hr:dJ (k+1) X.A) (hg:Gl X x) (hm:X.mg x=some (.ref C)) (hb:Binds X.K fd ps ds) (hd:Vals iR ds) (hx:Passes CX X E)
  (ha:PA X (e::es) t) (Fc:(x==("__debug__":Str))=false:=by decide) (he:starEach (e::es) X.env=(false,eval e X.env)::starEach es X.env:=by rfl) (nP:(backTo pos (starEach es X.env)).any (·.1)=false:=by rfl):
  PE X (.Call (.Name x p) (e::es) [] pos) (zN C sp iR E t):=by
 intro pins s σ H Q I h;apply wpAny_Call_Name_kw (lN I hg hm ?_ Fc);apply FA (h₀:=X.base) I.ok.mod.NF M.kp (bM (ha pos pins s σ H _ I h) λus s1 ⟨vs,H1,I1,r,q⟩=>⟨I1.t8,?_⟩) he nP;exact sy M F hr hb hd hx I1 r q
theorem Cb (M:Mk X.K C f) (F:aI X.prog X.w X.K X.mg X.base CX k f fd ps sp) (hr:dJ (k+1) X.A) (hg:Gl X x) (hm:X.mg x=some (.ref C)) (hb:Binds X.K fd ps ds) (hd:Vals iR ds) (hx:Passes CX X E)
  (Fc:(x==("__debug__":Str))=false:=by decide):PE X (.Call (.Name x p) [] [] pos) (zN C sp iR E uA):=by
 intro pins s σ H Q I h;apply wpAny_Call_Name_kw (lN I hg hm ?_ Fc);exact G4 I.t8 M.kp (sy (us:=[]) M F hr hb hd hx I .nil h)
end
section
variable{X:Cx} {CX:Ei} {k:Nat} {f C:Addr} {fd:FuncData} {ps ks:List Str} {sp:Sp} {E:XK} {x m:Str} {p pos apos ZZ:Pos} {e o:Expr} {es:List Expr} {kws:List Keyword} {te ta:TE} {t tk:TA} {nm:Option Str}
variable{g:List Value->List Value->List Value} {gV:List V->List V->List V}
end
structure ar (N P:List Str) (sc:Scope):Prop where
 kind:sc.kind= .function
 co:sc.isCoroutine=false
 gen:sc.isGenerator=false
 nd:N.Nodup
 pre:N.take P.length=P
 par:∀x∈P,sc.names.lookup x=some .local\/sc.names.lookup x=some .cell
 Mq:∀y∈sc.names,y.2≠.free
theorem pA {kindOf:Str->Option NameKind} {x:Str}:∀{binds:List (Str×Value)} {m:Str->Option Value}, (∀v, (x,v)∉binds)->bindL kindOf binds m x=m x
 |[],_,_=>rfl
 |(n,v)::r,m,h=>by
  unfold bindL;rw[pA λw hw=>h w (BG _ hw)]
  split
  .have:x≠n:=by rintro rfl;exact h v CK
   simp[this]
  .rfl
theorem pC {kindOf:Str->Option NameKind} {x:Str}:∀{binds:List (Str×Value)} {m:Str->Option Value}, (∀v, (x,v)∉binds)->bindC kindOf binds m x=m x
 |[],_,_=>rfl
 |(n,v)::r,m,h=>by
  unfold bindC;rw[pC λw hw=>h w (BG _ hw)]
  split
  .rfl
  .have:x≠n:=by rintro rfl;exact h v CK
   simp[this]
theorem pB {kindOf:Str->Option NameKind} {x:Str} {v:Value}:∀{P:List Str} {vs:List Value} {i:Nat} {m:Str->Option Value},P.Nodup->P[i]? =some x->vs[i]? =some v->kindOf x=some .local->
  bindL kindOf (P.zip vs) m x=some v
 |[],_,_,_,_,h,_,_=>by simp at h
 |_::_, [],_,_,_,_,h,_=>by simp at h
 |p::P,w::vs,0,m,nd,h1,h2,hk=>by
  simp at h1 h2;subst h1;subst h2;show bindL kindOf ((p,w)::P.zip vs) m p=_
  unfold bindL;rw[pA λv hv=>(BD.mp nd).1 (GL hv).1,iP hk];simp
 |p::P,w::vs,i+1,m,nd,h1,h2,hk=>by
  show bindL kindOf ((p,w)::P.zip vs) m x=_
  unfold bindL;exact pB (i:=i) (BD.mp nd).2 (by simpa using h1) (by simpa using h2) hk
theorem pD {kindOf:Str->Option NameKind} {x:Str} {v:Value}:∀{P:List Str} {vs:List Value} {i:Nat} {m:Str->Option Value},P.Nodup->P[i]? =some x->vs[i]? =some v->kindOf x≠some .local->
  bindC kindOf (P.zip vs) m x=some v
 |[],_,_,_,_,h,_,_=>by simp at h
 |_::_, [],_,_,_,_,h,_=>by simp at h
 |p::P,w::vs,0,m,nd,h1,h2,hk=>by
  simp at h1 h2;subst h1;subst h2;show bindC kindOf ((p,w)::P.zip vs) m p=_
  unfold bindC;rw[pC λv hv=>(BD.mp nd).1 (GL hv).1,iN hk];simp
 |p::P,w::vs,i+1,m,nd,h1,h2,hk=>by
  show bindC kindOf ((p,w)::P.zip vs) m x=_
  unfold bindC;exact pD (i:=i) (BD.mp nd).2 (by simpa using h1) (by simpa using h2) hk
def start (N:List Str) (vs:List V):St:=vs.map some++List.replicate (N.length-vs.length) none
def rL (CX:Ei) (P:Program) (w:World) (K:AD) (mg:Str->Option Value) (base:Heap) (N:List Str) (qual:Str) (scope:Scope) (f:Addr) (cd:Value) (A:Around) (outer:List Env) (s:Shared) (H:Hp) (E:XK):Cx where
 prog:=P
 w:=w
 K:=K
 mg:=mg
 base:=base
 A:=A.deeper (envOfC qual scope s.heap.objs.size f cd)
 N:=N
 s₀:=s
 H₀:=H
 env:=envOfC qual scope s.heap.objs.size f cd
 outer:=outer
 stack:=envOfC qual scope s.heap.objs.size f cd::outer
 ex:=[]
 calm:=true
 fn:=λ_=>true
 pn:=[]
 xe:=λe s'=>wpAny (model P w) (A.deeper (envOfC qual scope s.heap.objs.size f cd)) (leaving (envOfC qual scope s.heap.objs.size f cd) e) (λ_ RC=>CX outer H s E e RC) (λe' RC=>CX outer H s E e' RC) s'
theorem tq {sc:Scope} {n:Nat} {x:Str} (h:sc.names.lookup x=some .cell):∃c, (cellsFrom n sc.names []).lookup x=some c:=by
 have q:=F9 sc.names n [] (.inl h);exact Option.isSome_iff_exists.mp q
theorem yo {CX:Ei} {P:Program} {w:World} {K:AD} {mg:Str->Option Value} {base:Heap} {N ps:List Str} {qual:Str} {scope:Scope} {f:Addr} {cd:Value} {A:Around} {outer:List Env} {s s1:Shared} {H:Hp} {E:XK} {us:List Value} {vs:List V}
  (S:ar N ps scope) (hd:A.handled=none) (e0:uG P w K mg base A outer s H) (hl:vs.length=ps.length) (r:Vals vs us)
  (x:InCallC s s.heap.objs.size (bindL (envOfC qual scope s.heap.objs.size f cd).kindOf (ps.zip us) λ_=>none) (cellsFrom (s.heap.objs.size+1) scope.names []) (bindC (envOfC qual scope s.heap.objs.size f cd).kindOf (ps.zip us) λ_=>none) s1):
  Inv (rL CX P w K mg base N qual scope f cd A outer s H E) [] (start N vs) H s1:=by
 have nP:ps.length<=N.length:=by have:=congrArg BJ S.pre;rw[AX]at this;lia
 obtain⟨h1,tk,rfl,hk⟩:=x.done;have Nz:∀b:Addr,b∉(rL CX P w K mg base N qual scope f cd A outer s H E).ex:=λb z=>absurd (show b∈([]:List Addr)from z) (by simp)
 apply⟨⟨e0.mod,S.kind,rfl,rfl,AE _,λy z c h1 h2=>?_,λy hy=>?_,λy c _ h=>?_,λ_=>hd,Around.frames_deeper e0.frames,.inr ⟨rfl,rfl⟩,λb z=>absurd z (Nz b),e0.bs,e0.Fj,λb _ _=>Nz b,λb z=>absurd z (Nz b),e0.lr,e0.K9⟩,
  rfl,e0.bare,Un.kept hk, ⟨_,x.toInCall.ns,λi y v h1 h2 h3=>?_⟩,λy c h=>⟨_,x.cell y c h⟩,e0.b8.fresh (AE _),λy c h=>?_,λp hp=>absurd (show p∈([]:List (Addr×Obj))from hp) (by simp),e0.b8.kept hk,?_⟩
 .exact name_of_addr x.apart (BF h1) (BF h2)
 .have hy:scope.names.lookup y=some .cell\/scope.names.lookup y=some .free:=hy;rcases hy with hy|hy
  .exact tq hy
  .exact absurd rfl (S.Mq _ (BF hy))
 .exact E5 (x.above y c (BF h))
 .have hi:i<vs.length:=by
   unfold start at h2
   by_cases hi:i<vs.length
   .exact hi
   .rw[BW (by simpa using hi)]at h2;rw[List.getElem?_replicate]at h2
    split at h2<;>cases h2
  have ha:vs[i]? =some v:=by
   unfold start at h2;rw[D0 (by simpa using hi),AV]at h2;cases e:vs[i]? with
   |none=>rw[e]at h2;cases h2
   |some a=>rw[e]at h2;cases h2;rfl
  obtain⟨u,hu,rv⟩:=r.get ha
  have hp:ps[i]? =some y:=by
   rw[<-S.pre,D5 (by lia)];exact h1
  have Vn:ps.Nodup:=by rw[<-S.pre];exact S.nd.sublist (List.take_sublist _ _)
  apply⟨u,rv,?_⟩;rcases S.par y (AO hp)with k|k
  .exact .inl ⟨k,pB Vn hp hu k⟩
  .obtain⟨c,e⟩:=tq (n:=s.heap.objs.size+1) k;apply .inr ⟨.inl k,c,e,?_⟩;have q:=x.cell y c e;rw[pD Vn hp hu (by show scope.names.lookup y≠_;rw[k];decide)]at q;exact q
 .exact e0.b8.fresh (E5 (x.above y c (BF h)))
 .unfold start;show _=N.length
  rw[AB,AF,List.length_replicate];lia
theorem P0 {CX:Ei} {P:Program} {w:World} {K:AD} {mg:Str->Option Value} {base:Heap} {k:Nat} {f:Addr} {name qual:Str} {params:Arguments} {body:List Stmt} {scope:Scope} {dV kV doc pm gZ ct oc:Value} {an od:Option Addr}
  {Ir:Array (Option Value)} {N ps:List Str} {sp:Sp} (lk:K.lookup f=some ⟨oc,od,.func (CZ name qual params body scope dV kV doc pm an gZ ct),Ir⟩) (nJ:GS K gZ qual=true) (S:ar N ps scope)
  (len:∀vs H Q E,sp vs H Q E->vs.length=ps.length)
  (rW:∀(A:Around) (outer:List Env) (s:Shared) (H:Hp) (vs:List V) (Q:VK) (E:XK),dJ k (A.deeper (envOfC qual scope s.heap.objs.size f gZ))->sp vs H Q E->
   ∃t,vY (rL CX P w K mg base N qual scope f gZ A outer s H E) body t/\t {nx:=λ_ H'=>Q .aY H',rt:=Q} (start N vs) H):
  aI P w K mg base CX (k+1) f (CZ name qual params body scope dV kV doc pm an gZ ct) ps sp:=by
 apply⟨len,λA outer s H args us vs Q E hr e0 hb r rl=>?_⟩;have hl:=len _ _ _ _ rl;have KX:K.In s.heap:=e0.mod.NF.keeps λb o e=>(e0.bs b o e).1;have lim:s.heap.NoLimit:=e0.mod.nolimit.keeps λb o e=>(e0.bs b o e).1
 have PR:∀y∈ps.zip us,scope.names.lookup y.1=some .local\/(scope.names.lookup y.1=some .cell/\((cellsFrom (s.heap.objs.size+1) scope.names []).lookup y.1).isSome=true):=λ⟨n,v⟩ hy=>by
  rcases S.par n (GL hy).1 with q|q
  .exact .inl q
  .exact .inr ⟨q,F9 _ _ _ (.inl q)⟩
 apply codeAny_call_function hr.depth (KX _ _ lk) rfl S.co S.gen rfl (PySem.W.codeRec_of KX nJ) (hb _ _ _ _ ?_);apply wpAny_newFunctionEnv_cells S.kind PR λenv he s1 x=>?_;subst he;apply⟨lim.keeps x.toInCall.keep,codeAny_func ?_⟩;obtain⟨t,ht,hq⟩:=rW A outer s H vs Q E (hr.deeper _) rl;have I:Inv (rL CX P w K mg base N qual scope f gZ A outer s H E) [] (start N vs) H s1:=yo S hr.hd e0 hl r x;apply wpAny_mono (ht [] s1 (start N vs) H _ I hq) (λfl s' hs=>?_) λe s' hs=>hs
 have fin:∀{σ':St} {H':Hp} {v:V} {u:Value},Inv (rL CX P w K mg base N qual scope f gZ A outer s H E) [] σ' H' s'->RelV v u->Q v H'->CE outer P w H s Q u s':=
  λ{σ' H' v u} J rv q=>⟨v,H',J.os,J.bare,J.base,J.b8,rv,q⟩
 cases fl with
 |ret u=>
  obtain⟨v,σ',H',J,rv,q⟩:=hs;exact fin J rv q
 |next=>
  obtain⟨σ',H',J,q⟩:=hs;exact fin (v:=V.aY) (u:=Value.none) J rfl q
 |brk=>
  obtain⟨_,_,_,q⟩:=hs;exact CG q
 |cont=>
  obtain⟨_,_,_,q⟩:=hs;exact CG q
end L2
namespace L2
open PySem PySem.Spec PyProof.Rows
section
variable{X:Cx} {x:Str} {p pos:Pos} {e:Expr} {es:List Expr} {t:TA} {id T:String} {r:List V->Hp->VK->Prop}
def Rv (r:List V->Hp->VK->Prop) (t:TA):TE:=λσ H Q=>t σ H λvs H1=>r vs H1 Q
theorem fE (hc:hZ X (.builtin id) r) (hg:Gl X x) (hm:X.mg x=none) (hv:bootBuiltins x=some (.builtin id)) (ha:PA X (e::es) t) (hn:x≠"__name__":=by decide) (Fc:(x==("__debug__":Str))=false:=by decide)
  (he:starEach (e::es) X.env=(false,eval e X.env)::starEach es X.env:=by rfl) (nP:(backTo pos (starEach es X.env)).any (·.1)=false:=by rfl):PE X (.Call (.Name x p) (e::es) [] pos) (Rv r t):=by
 intro pins s σ H Q I h;apply wpAny_Call_Name_kw (Ay I hg hm hv ?_ hn Fc);exact HQ (bM (ha pos pins s σ H _ I h) λus s1 ⟨vs,H1,I1,r1,q1⟩=>hc pins s1 σ H1 vs us Q I1 r1 q1) he nP
theorem gU (hc:hZ X (.type T) r) (hg:Gl X x) (hm:X.mg x=none) (hv:bootBuiltins x=some (.type T)) (ha:PA X (e::es) t) (hn:x≠"__name__":=by decide) (Fc:(x==("__debug__":Str))=false:=by decide)
  (he:starEach (e::es) X.env=(false,eval e X.env)::starEach es X.env:=by rfl) (nP:(backTo pos (starEach es X.env)).any (·.1)=false:=by rfl):PE X (.Call (.Name x p) (e::es) [] pos) (Rv r t):=by
 intro pins s σ H Q I h;apply wpAny_Call_Name_kw (Ay I hg hm hv ?_ hn Fc);exact IK (bM (ha pos pins s σ H _ I h) λus s1 ⟨vs,H1,I1,r1,q1⟩=>hc pins s1 σ H1 vs us Q I1 r1 q1) he nP
end
end L2
namespace HT
open PySem PyProof.Rows
section
open PySem.SeqAt
open PySem.AutoSeq1 (wpAny_loadPart')
open PySem.MeetsSeq PySem.MeetsSeq2 PySem.MeetsSeq3
end
section
variable{prog:Program} {w:World} {A:Around} {E:Value->Shared->Prop} {s:Shared}
theorem Ii {t b:Addr} {vs ws:List Value} {Q:Value->Shared->Prop} (ht:IsTup s.heap t vs.toArray) (hb:IsTup s.heap b ws.toArray) (hv:vs≠[])
  (h1:ws=[]->Q (.ref t) s) (h2:ws≠[]->Q (.ref s.heap.objs.size) {s with heap:=s.heap.push {cls:= .type "tuple",data:= .seq (vs++ws).toArray}})
  (hsz:vs.length+ws.length<=sizeLine):wpAny (model prog w) A (binaryOp .Add (.ref t) (.ref b)) Q E s:=by
 obtain⟨⟨cls,dd,data,sl⟩,ho,hc,n,hd⟩:=id ht;obtain⟨⟨aaa,Wy,data2,Qn⟩,Et,g8,n2,hd2⟩:=id hb;simp only at hc hd g8 hd2;subst hc hd g8 hd2;have e:vs.toArray++ws.toArray=(vs++ws).toArray:=by simp
 by_cases hw:ws=[]
 .exact concat_meets ⟨_,ho,rfl⟩ ⟨_,Et,rfl⟩ noFill_tuple_add seq_tuple_add GA F0 (FW _ _)
   (tuple_addW1 t b vs.toArray ws.toArray n n2 dd Wy sl Qn (by simpa using hv) (by simp[hw])) ⟨ho,Et,h1 hw⟩
 .refine concat_meets ⟨_,ho,rfl⟩ ⟨_,Et,rfl⟩ noFill_tuple_add seq_tuple_add GA F0 (FW _ _)
   (tuple_addW2 t b vs.toArray ws.toArray n n2 dd Wy sl Qn (by simpa using hv) (by simpa using hw) (by rw[AJ,AJ];exact hsz)) ⟨ho,Et,?_⟩
  rw[e];exact h2 hw
def rh (n d:Nat):Option Int->Nat
 |none=>d
 |some v=>if v<0 then(v+(n:Int)).toNat else min v.toNat n
theorem Gz (n d k:Nat):rh n d (some (k:Int))=min k n:=by
 show(if(k:Int)<0 then((k:Int)+(n:Int)).toNat else min (k:Int).toNat n)=min k n
 rw[iN (by lia),FO]
end
end HT
namespace L2
open PySem PySem.Spec PyProof.Rows
abbrev TO:=St->Hp->(Option Int->Hp->Prop)->Prop
def PO (X:Cx) (e:Option Expr) (t:TO):Prop:=
 ∀(pins:List (Addr×Obj)) (s:Shared) (σ:St) (H:Hp) (Q:Option Int->Hp->Prop),Inv X pins σ H s->t σ H Q->
  wpAny (model X.prog X.w) X.A (evalPart e X.env) (λu s'=>∃o H',Inv X pins σ H' s'/\IsPart u o/\Q o H') X.xe s
def wy:TO:=λ_ H Q=>Q none H
def Jv (t:TE):TO:=λσ H Q=>t σ H λx H1=>jC x λi=>Q (some i) H1
section
variable{X:Cx} {e:Expr} {te:TE} {lo hi:Option Expr} {tl th:TO} {pos p2:Pos}
theorem cE:PO X none wy:=by
 intro pins s σ H Q I h;rw[evalPart_none];exact wpAny_pure ⟨none,H,I,.none,h⟩
theorem aF (h:PE X e te):PO X (some e) (Jv te):=by
 intro pins s σ H Q I hw;rw[evalPart_some];apply bM (h pins s σ H _ I hw) λu s1 ⟨x,H1,I1,r1,q1⟩=>?_;obtain⟨i,rfl,q⟩:=jC.ex q1;obtain⟨t,rfl⟩:=r1;exact⟨some i,H1,I1,.int i t,q⟩
def WE (X:Cx) (r:V->Option Int->Option Int->Hp->VK->Prop):Prop:=
 ∀(pins:List (Addr×Obj)) (s:Shared) (σ:St) (H:Hp) (x:V) (v vl vu:Value) (lo hi:Option Int) (sl:Addr) (Q:VK),Inv X pins σ H s->RelV x v->s.heap.IsSliceOf sl vl vu .none->IsPart vl lo->IsPart vu hi->r x lo hi H Q->
  ∃T id,typeLookup (.type T) "__getitem__"=pure (some (.builtin id))/\s.TypeIs v T/\wpAny (model X.prog X.w) X.A (getItem v (.ref sl)) (EP X pins σ Q) X.xe s
def U0 (r:V->Option Int->Option Int->Hp->VK->Prop) (te:TE) (tl th:TO):TE:=λσ H Q=>te σ H λx H1=>tl σ H1 λl H2=>th σ H2 λu H3=>r x l u H3 Q
theorem aO {r:V->Option Int->Option Int->Hp->VK->Prop} (hr:WE X r) (he:PE X e te) (hl:PO X lo tl) (hu:PO X hi th):PE X (.Subscript e (.Slice lo hi none p2) pos) (U0 r te tl th):=by
 intro pins s σ H Q I h;apply Subscript_ (bM (he pins s σ H _ I h) λv s1 ⟨x,H1,I1,r1,q1⟩=>?_);apply wpAny_Slice (bM (hl pins s1 σ H1 _ I1 q1) λvl s2 ⟨l,H2,I2,pl,q2⟩=>bM (hu pins s2 σ H2 _ I2 q2) λvu s3 ⟨u,H3,I3,pu,q3⟩=>?_);rw[evalPart_none];apply wpAny_pure ?_;have I4:Inv X pins σ H3 {s3 with heap:=s3.heap.push {cls:= .type "slice",data:= .fields #[vl,vu,.none]}}:=I3.kept (t':=s3.toks) λb ob q=>Heap.get?_push_of_some _ q;obtain⟨T,id,hT,ht,hg⟩:=hr pins {s3 with heap:=s3.heap.push {cls:= .type "slice",data:= .fields #[vl,vu,.none]}} σ H3 x v vl vu l u s3.heap.objs.size Q I4 r1 (Heap.IsSliceOf.new ..) pl pu q3;show wpAny (model X.prog X.w) X.A (subscriptTail e (.Slice lo hi none p2) v (.ref s3.heap.objs.size)) (EP X pins σ Q) X.xe {s3 with heap:=s3.heap.push {cls:= .type "slice",data:= .fields #[vl,vu,.none]}}
 exact tail_any (ops:=[.ref s3.heap.objs.size,v]) ht hT hg (by with_unfolding_all rfl)
def cb (xs:List V) (lo hi:Option Int):List V:=(xs.drop (HT.rh xs.length 0 lo)).take (HT.rh xs.length xs.length hi-HT.rh xs.length 0 lo)
theorem t5 (xs:List V) (lo hi:Option Int):(cb xs lo hi).length<=xs.length:=by
 unfold cb;rw[AX,AM];lia
inductive Pr (K:AD) (x:V) (y:V) (H:Hp) (Q:VK):Prop
 |i (a b xs ys:_) (_:x= .ref a) (_:y= .ref b) (_:bC K H a xs) (_:bC K H b ys) (_:xs≠[]) (_:xs.length+ys.length<=sizeLine) (_:(ys=[]->Q (.ref a) H)) (_:(ys≠[]->∀p,H p=none->Q (.ref p) (upd H p (.tup (xs++ys)))))
theorem Vals.qv {xs:List V} {us:List Value} (r:Vals xs us):us=[]↔xs=[]:=by
 cases r with
 |nil=>simp
 |cons _ _=>simp
theorem op_catT:ip X (binaryOp .Add) (Pr X.K):=by
 intro pins s σ H x y v u Q I rx ry h;obtain⟨a,b,xs,ys,rfl,rfl,ha,hb,hx,hz,q1,q2⟩:=h;cases rx;cases ry;obtain⟨aP,r1,p1,_⟩:=I.tuple ha;obtain⟨iU,r2,p2,_⟩:=I.tuple hb;apply HT.Ii p1 p2 (λz=>hx (r1.qv.mp z)) (λz=>⟨.ref a,H,I,rfl,q1 (r2.qv.mp z)⟩) (λz=>?_) (by rw[<-r1.length,<-r2.length];exact hz);apply⟨.ref s.heap.objs.size,_,I.laid (t':=s.toks) (o:= .tup (xs++ys)) (λb ob q=>Heap.get?_push_of_some _ q) (AE _) ?_,rfl,q2 (λw=>z (r2.qv.mpr w)) _ (I.b8.fresh (AE _))⟩;exact⟨by rw[AB];exact hz,_,r1.append r2,IsTup.new _ _⟩
end
end L2
namespace L2
open PySem PySem.Spec PyProof.Rows
def Iv (n:Nat) (i:Int):Option Nat:=if 0<=i then(if i<n then some i.toNat else none)else if-(n:Int)<=i then some (i+n).toNat else none
def qZ {α:Type} (xs:List α) (i:Int):Option α:=(Iv xs.length i).bind λj=>xs[j]?
theorem Ib {n:Nat} {i:Int} {j:Nat} (h:Iv n i=some j):seqIndex? i n=some j/\j<n/\ -(n:Int)<=i/\i<n:=by
 unfold Iv at h
 by_cases h0:0<=i
 .rw[iP h0]at h
  by_cases h1:i<n
  .rw[iP h1]at h;have e:i.toNat=j:=AH h;exact⟨by rw[seqIndex_of h0 h1,e],by lia,by lia,h1⟩
  .rw[iN h1]at h;cases h
 .rw[iN h0]at h
  by_cases h1: -(n:Int)<=i
  .rw[iP h1]at h;have e:(i+n).toNat=j:=AH h;exact⟨by rw[seqIndex_neg (by lia) h1,e],by lia,h1,by lia⟩
  .rw[iN h1]at h;cases h
theorem qD {α:Type} {xs:List α} {i:Int} {v:α} (h:qZ xs i=some v):∃j,seqIndex? i xs.length=some j/\xs[j]? =some v/\j<xs.length/\ -(xs.length:Int)<=i/\i<xs.length:=by
 unfold qZ at h;cases e:Iv xs.length i with
 |none=>rw[e]at h;cases h
 |some j=>
  rw[e]at h;obtain⟨h1,h2,h3,h4⟩:=Ib e;exact⟨j,h1,h,h2,h3,h4⟩
theorem dG {α:Type} {xs:List α} {j:Nat} {v:α} (h:xs[j]? =some v):qZ xs (j:Int)=some v:=by
 have hj:j<xs.length:=(BN.mp h).1
 have e:Iv xs.length (j:Int)=some j:=by
  unfold Iv;rw[iP (by nofun),iP (by lia)];simp
 unfold qZ;rw[e];exact h
theorem jr {α:Type} (xs:List α) (v:α):qZ (xs++[v]) (-1)=some v:=by
 have hl:(xs++[v]).length=xs.length+1:=by simp
 have e:Iv (xs++[v]).length (-1)=some xs.length:=by
  unfold Iv;rw[hl,iN nofun,iP (by lia)];congr 1;lia
 unfold qZ;rw[e];show(xs++[v])[xs.length]? =some v
 simp
def Im (b:Expr):Prop:=∀o i,subscripted b false o i=operate [o,i] (getItem o i)
def Rm (X:Cx) (r:R2):Prop:=
 ∀(value slice:Expr) (pins:List (Addr×Obj)) (s:Shared) (σ:St) (H:Hp) (x y:V) (v u:Value) (Q:VK),Inv X pins σ H s->RelV x v->RelV y u->r x y H Q->
  subscripted slice false v u=operate [v,u] (getItem v u)->wpAny (model X.prog X.w) X.A (subscriptTail value slice v u) (EP X pins σ Q) X.xe s
def Oe (X:Cx) (id:String) (r:V->List V->Hp->VK->Prop):Prop:=
 ∀(pins:List (Addr×Obj)) (s:Shared) (σ:St) (H:Hp) (x:V) (xs:List V) (v:Value) (us:List Value) (Q:VK),Inv X pins σ H s->RelV x v->Vals xs us->r x xs H Q->
  wpAny (model X.prog X.w) X.A (call (.builtin id) (v::us)) (EP X pins σ Q) X.xe s
section
variable{X:Cx} {a b:Expr} {ta tb:TE} {pos:Pos}
theorem Py {r:R2} (hr:Rm X r) (ha:PE X a ta) (hb:PE X b tb) (hs:Im b):PE X (.Subscript a b pos) (Ip r ta tb):=by
 intro pins s σ H Q I h;exact Subscript_ (LR ha hb I h λv u s2 x y H2 I2 rx ry q=>hr a b pins s2 σ H2 x y v u Q I2 rx ry q (hs _ _))
inductive IL (S:List V->Prop) (c:Int) (p:V->Prop):Prop
 |i (xs:List V) (_:S xs) (v:V) (_:qZ xs c=some v) (_:p v)
def Ln (K:AD):R2:=λx y H Q=>iT x λp=>jC y λi=>IL (aL K H p) i λv=>Q v H
def OD (K:AD):R2:=λx y H Q=>iT x λp=>jC y λi=>IL (bC K H p) i λv=>Q v H
def OE:R2:=λx y H Q=>Fl x λz=>jC y λi=>∃c,z.length<=sizeLine/\qZ z.cps.toList i=some c/\Q (.str ⟨#[c]⟩) H
theorem aN:Rm X (Ln X.K):=by
 intro value slice pins s σ H x y v u Q I rx ry h hs;obtain⟨p,rfl,h⟩:=iT.ex h;obtain⟨i,rfl,xs,hq,z,he,q⟩:=jC.ex h;cases rx;obtain⟨t,rfl⟩:=ry;obtain⟨aP,r,pl,hz⟩:=I.list hq;obtain⟨j,h1,h2,h3,h4,h5⟩:=qD he;obtain⟨w,ew,y4⟩:=r.get h2;have hl:=r.length;have hn:=mC;have fin:EP X pins σ Q w s:=⟨z,H,I,y4,q⟩
 by_cases h0:0<=i
 .have hj:i.toNat=j:=by
   rw[seqIndex_of h0 h5]at h1;exact AH h1
  exact item_listR pl.isList h0 (by lia) (by rw[hj];simpa using ew) fin hs
 .have hj:(i+(aP.toArray.size:Int)).toNat=j:=by
   rw[seqIndex_neg (by lia) h4]at h1;rw[AJ,<-hl];exact AH h1
  exact subscriptTail_builtinR (x:=w) pl.isList.typeIs slot_list_getitem.lookup
   (wpAny_getItem_list_neg (Q:=λr s'=>r=w/\EP X pins σ Q r s') pl.isList (by omega) (by rw[AJ]<;>lia) (by lia) (by rw[hj];simpa using ew) ⟨rfl,fin⟩) hs
theorem cQ:Rm X (OD X.K):=by
 intro value slice pins s σ H x y v u Q I rx ry h hs;obtain⟨p,rfl,h⟩:=iT.ex h;obtain⟨i,rfl,xs,hq,z,he,q⟩:=jC.ex h;cases rx;obtain⟨t,rfl⟩:=ry;obtain⟨aP,r,pl,hz⟩:=I.tuple hq;obtain⟨j,h1,h2,h3,h4,h5⟩:=qD he;obtain⟨w,ew,y4⟩:=r.get h2;have hl:=r.length;have hn:=mC;have fin:EP X pins σ Q w s:=⟨z,H,I,y4,q⟩
 exact subscriptTail_builtinR (x:=w) pl.typeIs slot_tuple_getitem.lookup
  (getItem_tuple (j:=j) (Q:=λr s'=>r=w/\EP X pins σ Q r s') pl (by lia) (by lia) (by rw[AJ,<-hl];exact h1) (by simpa using ew) ⟨rfl,fin⟩) hs
theorem Az:Rm X OE:=by
 intro value slice pins s σ H x y v u Q I rx ry h hs;obtain⟨z,rfl,h⟩:=Fl.ex h;obtain⟨i,rfl,c,hz,he,q⟩:=jC.ex h;obtain⟨t,rfl⟩:=rx;obtain⟨t',rfl⟩:=ry;obtain⟨j,h1,h2,h3,h4,h5⟩:=qD he;have hl:z.cps.toList.length=z.length:=by simp[Str.length]
 rw[hl]at h1 h4 h5;have hn:=mC
 exact tail_any (typeIs_str s z t) slot_str_getitem.lookup (getItem_str (c:=c) (by
  have e1:decide (i< -(2 ^ 63:Int))=false:=decide_eq_false (by lia);have e2:decide (i≥2 ^ 63)=false:=decide_eq_false (by lia)
  rw[e1,e2,BY]) (by rw[h1];simpa using h2) ⟨.str ⟨#[c]⟩,H,I.tok _, ⟨_,rfl⟩,q⟩) hs
theorem qL (lo hi:Option Int) (n:Nat):(sliceBounds lo hi none n).1=((HT.rh n 0 lo:Nat):Int)/\(sliceBounds lo hi none n).2.1=((HT.rh n n hi:Nat):Int)/\(sliceBounds lo hi none n).2.2=1:=by
 apply⟨?_,?_,rfl⟩
 .cases lo with
  |none=>simp[sliceBounds,HT.rh]
  |some i=>
   simp only[sliceBounds,HT.rh,HR,show(1:Int)>0 by decide,if_true]
   by_cases h:i<0
   .simp only[h,if_true]<;>lia
   .simp only[h,if_false]<;>lia
 .cases hi with
  |none=>simp[sliceBounds,HT.rh]
  |some i=>
   simp only[sliceBounds,HT.rh,HR,show(1:Int)>0 by decide,if_true]
   by_cases h:i<0
   .simp only[h,if_true]<;>omega
   .simp only[h,if_false]<;>omega
theorem oq (aP:List Value) (lo hi:Option Int):slicePick aP.toArray lo hi none=((aP.drop (HT.rh aP.length 0 lo)).take (HT.rh aP.length aP.length hi-HT.rh aP.length 0 lo)).toArray:=by
 obtain⟨h1,h2,h3⟩:=qL lo hi aP.toArray.size;unfold slicePick;rw[h1,h2,h3];simp only[sliceRange_one,pick_run,AJ]<;>rfl
def OA (K:AD):V->Option Int->Option Int->Hp->VK->Prop:=λx lo hi H Q=>iT x λa=>∃xs,aL K H a xs/\∀p,H p=none->Q (.ref p) (upd H p (.lst (cb xs lo hi)))
theorem aW:WE X (OA X.K):=by
 intro pins s σ H x v vl vu lo hi sl Q I rx hs pl pu h;obtain⟨a,rfl,xs,hx,q⟩:=iT.ex h;cases rx;obtain⟨aP,r,ht,hz⟩:=I.list hx;have hlen:=r.length;apply⟨"list",_,slot_list_getitem.lookup,ht.isList.typeIs,?_⟩;apply wpAny_getItem_list_slice ht.isList hs pl pu .none (by simp) ?_ (by rw[AJ]<;>lia);rw[oq,<-hlen];apply⟨.ref s.heap.objs.size,_,I.laid (t':=s.toks) (o:= .lst (cb xs lo hi)) (λb ob q=>Heap.get?_push_of_some _ q) (AE _) ?_,rfl,q _ (I.b8.fresh (AE _))⟩;exact⟨AY (t5 xs lo hi) hz,_,0, (r.drop (HT.rh xs.length 0 lo)).take (HT.rh xs.length xs.length hi-HT.rh xs.length 0 lo),Heap.get?_push_size _ rfl⟩
def eU:V->Bool
 | .aY=>true
 | .bl _=>true
 | .int _=>true
 | .str _=>true
 |_=>false
def zk:V->V->Bool
 | .aY,.aY=>true
 | .bl a,.bl b=>a==b
 | .bl a,.int b=>(if a then 1 else 0)==b
 | .int a,.bl b=>a==(if b then 1 else 0)
 | .int a,.int b=>a==b
 | .str a,.str b=>a==b
 |_,_=>false
theorem MI {A:Around} {s:Shared} {y x:V} {u v:Value} (ry:RelV y u) (rx:RelV x v) (fy:eU y=true) (fx:eU x=true):SeqAt.EqAt A s u v (zk y x):=by
 cases y with
 |aY=>
  cases ry;cases x with
  |aY=>cases rx;exact SeqAt.EqAt.same _
  |bl b=>cases rx;exact SeqAt.EqAt.none_bool b
  |int b=>obtain⟨t,rfl⟩:=rx;exact SeqAt.EqAt.none_int b t
  |str b=>obtain⟨t,rfl⟩:=rx;exact SeqAt.EqAt.none_str b t
  |_=>exact absurd (show false=true from fx) AR
 |bl a=>
  cases ry;cases x with
  |aY=>cases rx;exact SeqAt.EqAt.bool_none a
  |bl b=>cases rx;exact SeqAt.EqAt.bool_bool a b
  |int b=>obtain⟨t,rfl⟩:=rx;exact SeqAt.EqAt.bool_int a b t
  |str b=>obtain⟨t,rfl⟩:=rx;exact SeqAt.EqAt.bool_str a b t
  |_=>exact absurd (show false=true from fx) AR
 |int a=>
  obtain⟨t',rfl⟩:=ry;cases x with
  |aY=>cases rx;exact SeqAt.EqAt.int_none a t'
  |bl b=>cases rx;exact SeqAt.EqAt.int_bool a t' b
  |int b=>obtain⟨t,rfl⟩:=rx;exact SeqAt.EqAt.int_int a t' b t
  |str b=>obtain⟨t,rfl⟩:=rx;exact SeqAt.EqAt.int_str a t' b t
  |_=>exact absurd (show false=true from fx) AR
 |str a=>
  obtain⟨t',rfl⟩:=ry;cases x with
  |aY=>cases rx;exact SeqAt.EqAt.str_none a t'
  |bl b=>cases rx;exact SeqAt.EqAt.str_bool a t' b
  |int b=>obtain⟨t,rfl⟩:=rx;exact SeqAt.EqAt.str_int a t' b t
  |str b=>obtain⟨t,rfl⟩:=rx;exact SeqAt.EqAt.str_str a t' b t
  |_=>exact absurd (show false=true from fx) AR
 |_=>exact absurd (show false=true from fy) AR
def ud (x:V) (u:Value):Bool:=match u with
 | .none=>zk .aY x
 | .bool b=>zk (.bl b) x
 | .int i _=>zk (.int i) x
 | .str z _=>zk (.str z) x
 |_=>false
theorem qd {x y:V} {u:Value} (r:RelV y u) (f:eU y=true):ud x u=zk y x:=by
 cases y with
 |aY=>cases r;rfl
 |bl b=>cases r;rfl
 |int i=>obtain⟨t,rfl⟩:=r;rfl
 |str z=>obtain⟨t,rfl⟩:=r;rfl
 |_=>exact absurd (show false=true from f) AR
theorem jb {x:V}:∀{xs:List V} {us:List Value},Vals xs us->xs.all eU=true->us.any (ud x)=xs.any λy=>zk y x
 |_,_,.nil,_=>rfl
 |y::xs,u::us,.cons r t,f=>by
  rw[JP,B6]at f;rw[CS,CS,qd r f.1,jb t f.2]
theorem fG {A:Around} {s:Shared} {x:V} {v:Value} (rx:RelV x v) (fx:eU x=true):∀{xs:List V} {us:List Value},Vals xs us->xs.all eU=true->∀u∈us,SeqAt.EqAt A s u v (ud x u)
 |_,_,.nil,_=>λu hu=>by cases hu
 |y::xs,u::us,.cons r t,f=>λu' hu=>by
  rw[JP,B6]at f;rcases AG.mp hu with rfl|hu
  .rw[qd r f.1];exact MI r rx f.1 fx
  .exact fG rx fx t f.2 u' hu
def xw (x:V) (xs:List V):Bool:=xs.any λy=>zk y x
inductive MX (K:AD) (neg:Bool) (x y:V) (H:Hp) (Q:VK):Prop
 |i (p:Addr) (xs:List V) (_:y= .ref p) (_:(aL K H p xs\/bC K H p xs)) (_:eU x=true) (_:xs.all eU=true) (_:Q (.bl (if neg then !xw x xs else xw x xs)) H)
theorem op_in_seq:ip X (compareOp .In) (MX X.K false):=by
 intro pins s σ H x y v u Q I rx ry h;obtain⟨p,xs,rfl,hq,fx,fs,q⟩:=h;cases ry;rcases hq with hq|hq
 .obtain⟨aP,r,pl,hz⟩:=I.list hq;apply SeqAt.in_listAt (ud x) pl.isList (λw hw=>fG rx fx r fs w (by simpa using hw)) ⟨.bl _,H,I,rfl,?_⟩;rw[show aP.toArray.any (ud x)=aP.any (ud x) by simp,jb r fs];exact q
 .obtain⟨aP,r,pl,hz⟩:=I.tuple hq;apply SeqAt.in_tupleAt (ud x) pl (λw hw=>fG rx fx r fs w (by simpa using hw)) ⟨.bl _,H,I,rfl,?_⟩;rw[show aP.toArray.any (ud x)=aP.any (ud x) by simp,jb r fs];exact q
theorem op_notIn_seq:ip X (compareOp .NotIn) (MX X.K true):=by
 intro pins s σ H x y v u Q I rx ry h;obtain⟨p,xs,rfl,hq,fx,fs,q⟩:=h;cases ry;rcases hq with hq|hq
 .obtain⟨aP,r,pl,hz⟩:=I.list hq;apply SeqAt.notIn_listAt (ud x) pl.isList (λw hw=>fG rx fx r fs w (by simpa using hw)) ⟨.bl _,H,I,rfl,?_⟩;rw[show aP.toArray.any (ud x)=aP.any (ud x) by simp,jb r fs];exact q
 .obtain⟨aP,r,pl,hz⟩:=I.tuple hq;apply SeqAt.notIn_tupleAt (ud x) pl (λw hw=>fG rx fx r fs w (by simpa using hw)) ⟨.bl _,H,I,rfl,?_⟩;rw[show aP.toArray.any (ud x)=aP.any (ud x) by simp,jb r fs];exact q
theorem qU:hZ X (.builtin "len") (λxs H Q=>ue xs λx=>iT x λp=>∃ys, (aL X.K H p ys\/bC X.K H p ys)/\Q (.int ys.length) H):=by
 intro pins s σ H xs us Q I r h;obtain⟨p,rfl,ys,hq,q⟩:=LS.ex h;obtain⟨u,rfl,rx⟩:=vals1 r;cases rx;have hn:=mC;rcases hq with hq|hq
 .obtain⟨aP,r',pl,hz⟩:=I.list hq;have hlen:=r'.length;exact Calls.call_len_list pl.isList (by simp only[AJ]<;>omega) ⟨.int ys.length,H,I.tok _, ⟨s.toks+1,by rw[AJ,hlen]⟩,q⟩
 .obtain⟨aP,r',pl,hz⟩:=I.tuple hq;have hlen:=r'.length;exact len_tuple pl (by simp only[AJ]<;>omega) ⟨.int ys.length,H,I.tok _, ⟨s.toks+1,by rw[AJ,hlen]⟩,q⟩
theorem qT:hZ X (.type "list") (λxs H Q=>ue xs λx=>iT x λp=>∃ys, (aL X.K H p ys\/bC X.K H p ys)/\∀l,H l=none->Q (.ref l) (upd H l (.lst ys))):=by
 intro pins s σ H xs us Q I r h;obtain⟨p,rfl,ys,hq,q⟩:=LS.ex h;obtain⟨u,rfl,rx⟩:=vals1 r;cases rx
 have fin:∀(aP:List Value),Vals ys aP->ys.length<=sizeLine->∀(h':Heap) (c':Nat), (∀b o',s.heap.get? b=some o'->h'.get? b=some o')->
   h'.get? s.heap.objs.size=some {cls:= .type "list",dict:=none,data:= .seq aP.toArray c',slots:=#[]}->EP X pins σ Q (.ref s.heap.objs.size) {s with heap:=h'}:=λaP r' hz h' c' kp e=>
  ⟨.ref s.heap.objs.size,_,I.laid (t':=s.toks) kp (AE _) (show cf X.prog X.w _ h' _ (.lst ys)from⟨hz,aP,c',r',e⟩),rfl,q _ (I.b8.fresh (AE _))⟩
 rcases hq with hq|hq
 .obtain⟨aP,r',pl,hz⟩:=I.list hq;have hlen:=r'.length;obtain⟨o,ho,hc,n,hd⟩:=pl.isList;exact call_list_seq p (.inl rfl) ho hc hd (λh' c' kp e=>fin aP r' hz h' c' kp e) (by simp only[AJ]<;>omega)
 .obtain⟨aP,r',pl,hz⟩:=I.tuple hq;have hlen:=r'.length;obtain⟨o,ho,hc,n,hd⟩:=pl;exact call_list_seq p (.inr rfl) ho hc hd (λh' c' kp e=>fin aP r' hz h' c' kp e) (by simp only[AJ]<;>omega)
theorem ou:hZ X (.type "tuple") (λxs H Q=>ue xs λx=>iT x λp=>∃ys, ((aL X.K H p ys/\∀l,H l=none->Q (.ref l) (upd H l (.tup ys)))\/(bC X.K H p ys/\Q (.ref p) H))):=by
 intro pins s σ H xs us Q I r h;obtain⟨p,rfl,ys,h⟩:=LS.ex h;obtain⟨u,rfl,rx⟩:=vals1 r;cases rx;rcases h with⟨hq,q⟩|⟨hq,q⟩
 .obtain⟨aP,r',pl,hz⟩:=I.list hq;have hlen:=r'.length;apply call_tuple_list pl.isList (λh' kp=>?_) (by simp only[AJ]<;>omega);have I1:Inv X pins σ H {s with heap:=h'}:=I.kept (t':=s.toks) kp
  have I2:Inv X pins σ (upd H h'.objs.size (.tup ys)) {s with heap:=h'.push {cls:= .type "tuple",data:= .seq aP.toArray}}:=
   I1.laid (t':=s.toks) (λb o e=>Heap.get?_push_of_some _ e) (AE _) (show cf X.prog X.w _ _ _ (.tup ys)from⟨hz,aP,r',IsTup.new _ _⟩)
  exact⟨.ref h'.objs.size,_,I2,rfl,q _ (I1.b8.fresh (AE _))⟩
 .obtain⟨aP,r',pl,hz⟩:=I.tuple hq;exact call_tuple_same pl ⟨.ref p,H,I,rfl,q⟩
def Qi (K:AD) (T:String) (x:V) (H:Hp):Prop:=match x with
 | .str _=>T="str"
 | .int _=>T="int"
 | .ref p=>(T="list"/\∃xs,aL K H p xs)\/(T="tuple"/\∃o,K.lookup p=some o/\o.cls= .type "tuple"/\o.dict=none)\/
   (T="dict"/\((∃aC,H p=some (.dK aC))\/∃aC,H p=some (.dT aC)))\/(T="set"/\∃S n,H p=some (.set S n))
 |_=>False
theorem Ak {pins:List (Addr×Obj)} {σ:St} {H:Hp} {s:Shared} {T:String} {x:V} {v:Value} (I:Inv X pins σ H s) (r:RelV x v) (ty:Qi X.K T x H):
  s.TypeIs v T/\∀a,v= .ref a->∃ob,s.heap.get? a=some ob/\ob.dict=none:=by
 cases x with
 |str z=>
  obtain⟨t,rfl⟩:=r;cases(show T="str" from ty);exact⟨typeIs_str s z t,λ_ e=>nomatch e⟩
 |int i=>
  obtain⟨t,rfl⟩:=r;cases(show T="int" from ty);exact⟨typeIs_int s i t,λ_ e=>nomatch e⟩
 |ref p=>
  cases r;rcases ty with⟨rfl,xs,hq⟩|⟨rfl,o,hk,hc,hd⟩|⟨rfl,hk⟩|⟨rfl,S,n,hk⟩
  .obtain⟨aP,_,pl,_⟩:=I.list hq;apply⟨pl.isList.typeIs,λa e=>?_⟩;cases e;obtain⟨o,n,e,c,hd,_⟩:=pl;exact⟨o,e,hd⟩
  .refine⟨⟨o,I.t8 p o hk,hc⟩,λa e=>?_⟩;cases e;exact⟨o,I.t8 _ o hk,hd⟩
  .have z:∃o,s.heap.get? p=some o/\o.ExactDict:=by
    rcases hk with⟨aC,hk⟩|⟨aC,hk⟩
    .obtain⟨_,_,_,_,o,_,_,e,ex,_⟩:=I.b8 p _ hk;exact⟨o,e,ex⟩
    .obtain⟨_,_,_,_,o,_,_,e,ex,_⟩:=I.b8 p _ hk;exact⟨o,e,ex⟩
   obtain⟨o,e,ex⟩:=z;apply⟨⟨o,e,ex.1⟩,λa e2=>?_⟩;cases e2;exact⟨o,e,ex.2.1⟩
  .obtain⟨o,_,_,_,e,ex,_⟩:=I.b8 p _ hk;apply⟨⟨o,e,ex.1⟩,λa e2=>?_⟩;cases e2;exact⟨o,e,ex.2.1⟩
 |_=>exact CG ty
def Ov (K:AD) (T:String) (r:V->List V->Hp->VK->Prop) (to:TE):TE:=λσ H Q=>to σ H λx H1=>Qi K T x H1/\r x [] H1 Q
def U2 (K:AD) (T:String) (r:V->List V->Hp->VK->Prop) (to:TE) (t:TA):TE:=λσ H Q=>to σ H λx H1=>Qi K T x H1/\t σ H1 λxs H2=>r x xs H2 Q
variable{o e:Expr} {es:List Expr} {to:TE} {t:TA} {name:Str} {apos fP:Pos} {T id:String} {r:V->List V->Hp->VK->Prop}
theorem uT (pa:PlainAttrs T) (slot:Slot T name id) (Jb:typeOf (.builtin id)=pure (.type "method_descriptor")) (hm:Oe X id r) (ho:PE X o to)
  (mq:attributeBase o name X.env (eval o X.env)=eval o X.env:=by rfl) (mm:(apos.endLine==fP.line)=true:=by rfl):PE X (.Call (.Attribute o name apos) [] [] fP) (Ov X.K T r to):=by
 intro pins s σ H Q I h;apply wpAny_Call_method0_late mq mm (bM (ho pins s σ H _ I h) λv s1 ⟨x,H1,I1,r1,ty,q1⟩=>?_);obtain⟨h1,h2⟩:=Ak I1 r1 ty;exact⟨T,id,pa,slot,Jb,h1,h2,Calls.callWith_builtin rfl (PySem.evalArgs_none (hm pins s1 σ H1 x [] v [] Q I1 r1 .nil q1))⟩
theorem Pz (pa:PlainAttrs T) (slot:Slot T name id) (Jb:typeOf (.builtin id)=pure (.type "method_descriptor")) (hm:Oe X id r) (ho:PE X o to) (ha:PA X (e::es) t)
  (mq:attributeBase o name X.env (eval o X.env)=eval o X.env:=by rfl)
  (Gg:((backTo fP (starEach (e::es) X.env)).all (λx=>!x.1)&&(backToKw fP (keywordEach [] X.env)).all (λx=>x.1.isSome)
   &&decide ((e::es).length+([]:List Keyword).length+(if([]:List Keyword).isEmpty then 0 else 1)<30))=true:=by rfl)
  (mm:(apos.endLine==fP.line)=true:=by rfl) (hs:starEach (e::es) X.env=(false,eval e X.env)::starEach es X.env:=by rfl) (MD:(backTo fP (starEach es X.env)).any (·.1)=false:=by rfl):
  PE X (.Call (.Attribute o name apos) (e::es) [] fP) (U2 X.K T r to t):=by
 intro pins s σ H Q I h;apply wpAny_Call_method_late mq Gg mm rfl (bM (ho pins s σ H _ I h) λv s1 ⟨x,H1,I1,r1,ty,q1⟩=>?_);obtain⟨h1,h2⟩:=Ak I1 r1 ty;apply⟨T,id,pa,slot,Jb,h1,h2,?_⟩;have hA:=ha fP pins s1 σ H1 _ I1 q1;rw[hs]at hA ⊢;apply Calls.callWith_builtin (by show(false||(backTo fP (starEach es X.env)).any (·.1))=false;rw[MD]<;>rfl) (Calls.evalArgs_plain ?_);exact bM hA λus s2 ⟨vs,H2,I2,r2,q2⟩=>hm pins s2 σ H2 x vs v us Q I2 r1 r2 q2
end
end L2
namespace L2
open PySem PySem.Spec PyProof.Rows
def Rl (X:Cx) (id:String) (r:V->List V->Hp->VK->Prop):Prop:=
 ∀(pins:List (Addr×Obj)) (s:Shared) (σ:St) (H:Hp) (x:V) (xs:List V) (v:Value) (us:List Value) (Q:VK),Inv X pins σ H s->RelV x v->Vals xs us->r x xs H Q->
  wpAny (model X.prog X.w) X.A (call (.builtin id) (v::us)) (EP X pins σ Q) X.xe s
theorem Vals.one:∀{x:V} {us:List Value},Vals [x] us->∃u,us=[u]/\RelV x u
 |_,_,.cons r .nil=>⟨_,rfl,r⟩
theorem Vals.zero:∀{us:List Value},Vals [] us->us=[]
 |_,.nil=>rfl
theorem Vals.dropLast {xs:List V} {us:List Value} (h:Vals xs us):Vals xs.dropLast us.dropLast:=by
 induction h with
 |nil=>exact .nil
 |cons r t ih=>
  cases t with
  |nil=>exact .nil
  |cons q t'=>exact .cons r ih
theorem Vals.reverse {xs:List V} {us:List Value} (h:Vals xs us):Vals xs.reverse us.reverse:=by
 induction h with
 |nil=>exact .nil
 |cons r t ih=>rw[BQ,BQ];exact Vals.append ih (.cons r .nil)
theorem vN {α:Type} (l:List α):l.eraseIdx (l.length-1)=l.dropLast:=by
 induction l with
 |nil=>rfl
 |cons a r ih=>
  cases r with
  |nil=>rfl
  |cons b r=>
   have e:(a::b::r).length-1=((b::r).length-1)+1:=by
    have h1:(a::b::r).length=r.length+2:=rfl;have h2:(b::r).length=r.length+1:=rfl;nofun
   rw[e,List.eraseIdx_cons_succ,ih]
   all_goals rfl
section
variable{X:Cx} {pins:List (Addr×Obj)} {σ:St} {H:Hp} {s:Shared} {l b:Addr} {xs ys zs:List V}
theorem Inv.Fz {aP its':List Value} {n:Nat} {f:Array Value->Array Value} {t':Nat} (I:Inv X pins σ H s) (hH:H l=some (.lst xs))
  (e:s.heap.get? l=some {cls:= .type "list",data:= .seq aP.toArray n}) (hf:f aP.toArray=its'.toArray) (hv:Vals ys its') (hz:ys.length<=sizeLine):
  Inv X pins σ (upd H l (.lst ys)) {s with heap:=s.heap.update l (Obj.mapSeq f),toks:=t'}:=by
 have q:=KP e f;rw[hf]at q;apply I.write (x:=l) (e:=l) (by rw[hH];exact trivial) (.inl rfl) (λb' u hb hu=>(Heap.get?_update_other s.heap (Obj.mapSeq f) (G3 hb)).trans hu) ⟨_,q⟩ ?_;exact⟨hz,its',_,hv,q⟩
theorem Inv.Tt {aP:List Value} {t':Nat} (I:Inv X pins σ H s) (hv:Vals ys aP) (hz:ys.length<=sizeLine):
  Inv X pins σ (upd H s.heap.objs.size (.lst ys)) {s with heap:=s.heap.push {cls:= .type "list",data:= .seq aP.toArray},toks:=t'}:=
 I.laid (λ_ _ q=>Heap.get?_push_of_some _ q) (AE _) ⟨hz,aP,0,hv,Heap.get?_push_size _ rfl⟩
theorem Inv.fresh (I:Inv X pins σ H s):H s.heap.objs.size=none:=I.b8.fresh (AE _)
theorem Inv.uD (I:Inv X pins σ H s) (hH:H l=some (.lst xs)):xs.length<=sizeLine/\∃(aP:List Value) (n:Nat),Vals xs aP/\xs.length=aP.length/\s.heap.get? l=some {cls:= .type "list",data:= .seq aP.toArray n}:=by
 obtain⟨z,aP,n,r,e⟩:=I.b8 l _ hH;exact⟨z,aP,n,r,r.length,e⟩
theorem sR {n:Nat} (h:n<=sizeLine):Builtin.List.listTooLong n=false:=by
 unfold Builtin.List.listTooLong;exact decide_eq_false (by nofun)
end
section
variable{X:Cx}
def wJ:V->List V->Hp->VK->Prop:=λx vs H Q=>iT x λl=>ue vs λy=>∃xs,H l=some (.lst xs)/\xs.length<sizeLine/\Q .aY (upd H l (.lst (xs++[y])))
theorem aU:Rl X "list.append" wJ:=by
 intro pins s σ H x vs v us Q I rx rv h;obtain⟨l,rfl,h⟩:=iT.ex h;obtain⟨y,rfl,xs,hH,hz,q⟩:=ue.ex h;cases rx;obtain⟨u,rfl,ru⟩:=rv.one;obtain⟨z,aP,n,r,hl,e⟩:=I.uD hH;apply call_meets F.slot_list_append ⟨_,e,rfl⟩ F.entry_list_append (F.args_list_append_2 _ _) (PySem.list_append l aP.toArray n u (by rw[AJ];lia)) ⟨e,?_⟩;apply⟨.aY,_,I.Fz (its':=aP++[u]) hH e (by simp) (r.append (.cons ru .nil)) ?_,rfl,q⟩;rw[AB,DS];nofun
def wI:V->List V->Hp->VK->Prop:=λx vs H Q=>iT x λl=>ue vs λy=>iT y λb=>∃xs zs,H l=some (.lst xs)/\H b=some (.lst zs)/\xs.length+zs.length<=sizeLine/\Q .aY (upd H l (.lst (xs++zs)))
theorem bp:Rl X "list.extend" wI:=by
 intro pins s σ H x vs v us Q I rx rv h;obtain⟨l,rfl,h1⟩:=iT.ex h;obtain⟨y,rfl,h2⟩:=ue.ex h1;obtain⟨b,rfl,xs,zs,hH,hB,hz,q⟩:=iT.ex h2;cases rx;obtain⟨u,rfl,ru⟩:=rv.one;cases ru;obtain⟨z,aP,n,r,hl,e⟩:=I.uD hH;obtain⟨z2,iU,n2,r2,nR,e2⟩:=I.uD hB;have hsz:aP.toArray.size+iU.toArray.size<=sizeLine:=by rw[AJ,AJ];lia
 have zW:¬(!aP.toArray.isEmpty&&Builtin.List.listTooLong (aP.toArray.size+iU.toArray.size))=true:=by
  rw[sR hsz,GU];exact AR
 apply call_meets F.slot_list_extend ⟨_,e,rfl⟩ F.entry_list_extend (F.args_list_extend_2 _ _)
  (AutoSeq1.list_extend_list_list_0 l aP.toArray n b iU.toArray n2 zW (by rw[AJ];lia) (by nofun)) ⟨e,e2,?_⟩
 apply⟨.aY,_,I.Fz (its':=aP++iU) hH e (by simp) (r.append r2) ?_,rfl,q⟩;rw[AB];nofun
def OB:V->List V->Hp->VK->Prop:=λx vs H Q=>iT x λl=>Oc vs <|∃xs y,H l=some (.lst xs)/\xs[xs.length-1]? =some y/\Q y (upd H l (.lst xs.dropLast))
theorem uV:Rl X "list.pop" OB:=by
 intro pins s σ H x vs v us Q I rx rv h;obtain⟨l,rfl,h1⟩:=iT.ex h;obtain⟨rfl,xs,y,hH,hy,q⟩:=Oc.ex h1;cases rx;have X1:=rv.zero;subst X1;obtain⟨z,aP,n,r,hl,e⟩:=I.uD hH;obtain⟨u,hu,ru⟩:=r.get hy
 have NI:aP.toArray[aP.toArray.size-1]? =some u:=by
  show aP.toArray[aP.length-1]? =some u
  rw[<-EL,<-hl];exact hu
 apply call_meets F.slot_list_pop ⟨_,e,rfl⟩ F.entry_list_pop (F.args_list_pop_1 _) (MeetsSeq.list_pop_last l aP.toArray n u NI (by rw[AJ];lia)) ⟨e,?_⟩;apply⟨y,_,I.Fz (its':=aP.dropLast) hH e ?_ r.dropLast ?_,ru,q⟩
 .show aP.toArray.eraseIdxIfInBounds (aP.toArray.size-1)=aP.dropLast.toArray
  rw[AJ,List.eraseIdxIfInBounds_toArray,vN]
 .rw[List.length_dropLast];nofun
inductive Tc (x:V) (y:V) (H:Hp) (Q:VK):Prop
 |i (l b xs zs:_) (_:x= .ref l) (_:y= .ref b) (_:H l=some (.lst xs)) (_:H b=some (.lst zs)) (_:xs.length+zs.length<=sizeLine) (_:∀p,H p=none->Q (.ref p) (upd H p (.lst (xs++zs))))
theorem op_cat:ip X (binaryOp .Add) Tc:=by
 intro pins s σ H x y v u Q I rx ry h;obtain⟨l,b,xs,zs,rfl,rfl,hH,hB,hz,q⟩:=h;cases rx;cases ry;obtain⟨z,aP,n,r,hl,e⟩:=I.uD hH;obtain⟨z2,iU,n2,r2,nR,e2⟩:=I.uD hB;apply PySem.P.add_list e e2 ?_ (by rw[AJ,AJ];omega);have ea:aP.toArray++iU.toArray=(aP++iU).toArray:=by simp
 rw[ea];exact⟨.ref _,_,I.Tt (t':=s.toks) (r.append r2) (by rw[AB];nofun),rfl,q _ I.fresh⟩
end
section
variable{prog:Program} {w:World} {A:Around} {E:Value->Shared->Prop} {s:Shared}
end
section
variable{X:Cx}
end
end L2
namespace L2
open PySem PySem.Spec PyProof.Rows
theorem Vals.Wz:∀{bs:List Bool} {us:List Value},Vals (bs.map V.bl) us->us=bs.map Value.bool
 |[],us,h=>by
  rw[DD]at h;cases h;rfl
 |b::bs,us,h=>by
  rw[AI]at h;cases h with
  |cons r t=>
   cases r;rw[Vals.Wz t,AI]
theorem Vals.Tb {a:Addr} {us:List Value} (r:Vals [V.ref a] us):us=[Value.ref a]:=by
 cases r with
 |cons r t=>
  cases t;cases r;rfl
section
variable{prog:Program} {w:World} {A:Around} {E:Value->Shared->Prop} {s:Shared} {l:Addr} {aP:List Value} {ns:List Int} {Q:Value->Shared->Prop}
end
section
variable{X:Cx}
end
section
variable{X:Cx}
inductive Mg (K:AD) (x:V) (xs:List V) (H:Hp) (Q:VK):Prop
 |i (a:Addr) (ys:List V) (y:V) (j:Nat) (z:V) (_:x=V.ref a) (_:xs=[y]) (_:aL K H a ys) (_:eU y=true) (_:ys.all eU=true) (_:ys[j]? =some z) (_:zk z y=true) (_:(∀(m:Nat) (z':V),m<j->ys[m]? =some z'->zk z' y=false)) (_:Q (.int (j:Nat)) H)
theorem w4 {ys:List V} (f:ys.all eU=true) {j:Nat} {z:V} (h:ys[j]? =some z):eU z=true:=DH.mp f z (AO h)
theorem Ci:Oe X "list.index" (Mg X.K):=by
 intro pins s σ H x xs v us Q I rx WZ h;obtain⟨a,ys,y,j,z,rfl,rfl,hs,fy,SG,hz,XJ,f7,q⟩:=h;cases rx;cases WZ with
 |cons ry rt=>
  rename_i uy ut
  cases rt;obtain⟨aP,rv, ⟨⟨cls,dd,data,sl⟩,n,ho,hc,VW,hd⟩,hlen⟩:=I.list hs;simp only at hc hd;subst hc hd;obtain⟨u,hu,ru⟩:=rv.get hz;obtain⟨Ew,YA⟩:=BN.mp hu;have hvl:=rv.length;have hj:j<aP.toArray.size:=by simpa using Ew
  have hsl:=sizeLine_eq
  apply call_meets PySem.F.slot_list_index ⟨_,ho,rfl⟩ PySem.F.entry_list_index (PySem.F.args_list_index_2 _ _)
   (SeqAt.list_indexAt a aP.toArray n dd sl uy (ud y) j hj (by omega) ?_ ?_) ⟨ho,λu' X3=>fG ry fy rv SG u' (by simpa using X3),?_⟩
  .have e1:aP.toArray[j]=u:=by simpa using YA
   rw[e1,qd ru (w4 SG hz)];exact XJ
  .intro m hm Yq;have hml:m<aP.length:=by simpa using hm
   have Yp:m<ys.length:=by lia
   have NI:ys[m]? =some ys[m]:=AN Yp;obtain⟨u2,X2,W0⟩:=rv.get NI;obtain⟨_,Yr⟩:=BN.mp X2;have e1:aP.toArray[m]=u2:=by simpa using Yr
   rw[e1,qd W0 (w4 SG NI)];exact f7 m _ Yq NI
  .exact⟨.int (j:Nat),H,I.tok _, ⟨_,rfl⟩,q⟩
end
section
variable{X:Cx}
end
theorem Cp {prog:Program} {w:World} {A:Around} {E:Value->Shared->Prop} {s:Shared} {l:Addr} {items:Array Value} {Q:Value->Shared->Prop} (hl:s.heap.IsList l items)
  (h:∀s₂:Shared,s₂={s with heap:=s.heap.push {cls:= .type "list_iterator",data:= .fields #[.ref l,.int 0 0]}}->
   (s₂.heap.IsListIter s.heap.objs.size l 0/\s₂.heap.IsList l items)->l≠s.heap.objs.size->Q (.ref s.heap.objs.size) s₂):wpAny (model prog w) A (pyIter (.ref l)) Q E s:=by
 have gc:l<s.heap.objs.size:=by obtain⟨_,e,_⟩:=hl;exact Heap.lt_size e
 exact wpAny_pyIter_list hl (h _ rfl ⟨⟨_,Heap.get?_push_size _ rfl,rfl,rfl⟩,hl.push _⟩ (B9 gc))
theorem tI {prog:Program} {w:World} {A:Around} {bs:List Bool} {aP:List Value} (e:aP=bs.map Value.bool):
  TruthOf prog w A (λi v=>aP.toArray[i]? =some v) (λi=>bs.getD i false):=λi v s Q E hv hq=>by
 have M6:aP[i]? =some v:=by simpa using hv
 rw[e,AV]at M6;obtain⟨b,hb,rfl⟩:=GB.mp M6;have hg:bs.getD i false=b:=by rw[List.getD_eq_getElem?_getD,hb]<;>rfl
 have uo:Q (bs.getD i false) s:=hq;rw[hg]at uo;exact wpAny_truthy_bool uo
theorem any_range:∀bs:List Bool, (J8 bs.length).any (λi=>bs.getD i false)=bs.any id
 |[]=>rfl
 |b::bs=>by
  rw[AA,List.range_succ_eq_map,CS,GC,CS,<-any_range bs]
  all_goals rfl
section
variable{X:Cx}
inductive Td (K:AD) (vs:List V) (H:Hp) (Q:VK):Prop
 |i (a:Addr) (bs:List Bool) (_:vs=[V.ref a]) (_:aL K H a (bs.map V.bl)) (_:Q (.bl (bs.any id)) H)
theorem ML (hc:X.calm=true):hZ X (.builtin "any") (Td X.K):=by
 intro pins s σ H vs us Q I r h;obtain⟨a,bs,rfl,hs,q⟩:=h;obtain⟨aP,rv,hl,_⟩:=I.list hs;rw[Vals.Tb r];have hb:=rv.Wz;apply call_any_walk (Cp hl.isList λs₂ e2 st dF=>?_);subst e2;apply⟨_,_,_,_,_,_,_,rfl,Walks.list (A:=X.A.in1) (I.ok.hd hc) _ a dF aP.toArray,st,tI hb,λh' tk hk=>?_⟩;apply⟨.bl _,H,I.kept λb o eo=>hk b o (λrH=>?_) (Heap.get?_push_of_some _ eo),?_,q⟩
 .rcases AG.mp rH with e1|rH
  .exact absurd (e1▸Heap.lt_size eo) (CQ _)
  .cases rH
 .show Value.bool _=Value.bool _
  rw[<-any_range,hb,AJ,AF]
end
mutual
inductive Dp (K:AD) (H:Hp):V->PyData->Prop
 |aY:Dp K H .aY .none
 |bl (b:Bool):Dp K H (.bl b) (.bool b)
 |int (i:Int):Dp K H (.int i) (.int i)
 |str (x:Str):Dp K H (.str x) (.str x)
 |lst {a:Addr} {xs:List V} {ds:List PyData}:aL K H a xs->mw K H xs ds->Dp K H (.ref a) (.list ds)
 |tup {a:Addr} {xs:List V} {ds:List PyData}:bC K H a xs->mw K H xs ds->Dp K H (.ref a) (.tuple ds)
inductive mw (K:AD) (H:Hp):List V->List PyData->Prop
 |nil:mw K H [] []
 |cons {v:V} {vs:List V} {d:PyData} {ds:List PyData}:Dp K H v d->mw K H vs ds->mw K H (v::vs) (d::ds)
end
section
variable{X:Cx} {pins:List (Addr×Obj)} {σ:St} {H:Hp} {s:Shared}
mutual
theorem Dp.reads (I:Inv X pins σ H s):∀(d:PyData) (v:V) (u:Value),Dp X.K H v d->RelV v u->∃as,Reads s.heap u d as
 | .none,_,_,h,r=>by
  cases h;cases r;exact⟨_,Reads.none⟩
 | .bool b,_,_,h,r=>by
  cases h;cases r;exact⟨_,Reads.bool b⟩
 | .int i,_,_,h,r=>by
  cases h;obtain⟨t,rfl⟩:=r;exact⟨_,Reads.int i t⟩
 | .str x,_,_,h,r=>by
  cases h;obtain⟨t,rfl⟩:=r;exact⟨_,Reads.str x t⟩
 | .list ds,_,_,h,r=>by
  cases h with
  |lst hs ha=>
   cases r;obtain⟨aP,rv, ⟨o,n,ho,hc,_,hd⟩,_⟩:=I.list hs;obtain⟨as,hr⟩:=Dp.readsAll I ds _ aP ha rv;exact⟨_,Reads.list ho hc hd hr⟩
 | .tuple ds,_,_,h,r=>by
  cases h with
  |tup hs ha=>
   cases r;obtain⟨aP,rv, ⟨o,ho,hc,n,hd⟩,_⟩:=I.tuple hs;obtain⟨as,hr⟩:=Dp.readsAll I ds _ aP ha rv;exact⟨_,Reads.tuple ho hc hd hr⟩
 | .dict _,_,_,h,_=>by cases h
theorem Dp.readsAll (I:Inv X pins σ H s):∀(ds:List PyData) (vs:List V) (us:List Value),mw X.K H vs ds->Vals vs us->∃as,ReadsAll s.heap us ds as
 |[],_,_,h,r=>by
  cases h;cases r;exact⟨_,ReadsAll.nil⟩
 |d::ds,_,_,h,r=>by
  cases h with
  |cons h1 h2=>
   cases r with
   |cons r1 r2=>
    obtain⟨as,q1⟩:=Dp.reads I d _ _ h1 r1;obtain⟨bs,q2⟩:=Dp.readsAll I ds _ _ h2 r2;exact⟨_,ReadsAll.cons q1 q2⟩
end
end
section
variable{X:Cx}
inductive OF (K:AD) (x:V) (y:V) (H:Hp) (Q:VK):Prop
 |i (d e:_) (_:Dp K H x d) (_:Dp K H y e) (_:SeqAt.shaped d=true) (_:SeqAt.shaped e=true) (_:Q (.bl (PyData.eqv d e)) H)
inductive OC (K:AD) (x:V) (y:V) (H:Hp) (Q:VK):Prop
 |i (d e:_) (_:Dp K H x d) (_:Dp K H y e) (_:SeqAt.shaped d=true) (_:SeqAt.shaped e=true) (_:Q (.bl (!PyData.eqv d e)) H)
theorem op_eqD (hu:X.A.units+64<cLine):ip X (compareOp .Eq) (OF X.K):=by
 intro pins s σ H x y v u Q I rx ry h;obtain⟨d,e,hd,he,sd,se,q⟩:=h;obtain⟨as,r1⟩:=Dp.reads I d x v hd rx;obtain⟨bs,r2⟩:=Dp.reads I e y u he ry;exact SeqAt.compareEq_shaped r1 r2 sd se hu ⟨.bl _,H,I,rfl,q⟩
theorem op_neD (hu:X.A.units+64<cLine):ip X (compareOp .NotEq) (OC X.K):=by
 intro pins s σ H x y v u Q I rx ry h;obtain⟨d,e,hd,he,sd,se,q⟩:=h;obtain⟨as,r1⟩:=Dp.reads I d x v hd rx;obtain⟨bs,r2⟩:=Dp.reads I e y u he ry;exact SeqAt.compareNe_shaped r1 r2 sd se hu ⟨.bl _,H,I,rfl,q⟩
end
end L2
namespace L2
open PySem PySem.Spec PyProof.Rows
abbrev Bi (h:Heap) (c:Addr) (v:Option Value):Prop:=h.IsCell c v
def Ta (scope sc:Scope):Scope:=
 {scope with names:=scope.names.map λ(n,k)=>if(k== .free&&sc.kind== .function&&sc.names.lookup n==some .cell)then(n,.cell)else(n,k)}
def bx (cells:List (Str×Addr)):List (Str×NameKind)->List (Str×Addr)->List (Str×Addr)
 |[],acc=>acc
 |(n,k)::r,acc=>if k== .free then bx cells r ((n, (cells.lookup n).getD 0)::acc)else bx cells r acc
theorem jy (env:Env) (f:Str×NameKind->List (Str×Addr)->Sem (ForInStep (List (Str×Addr))))
  (hf:∀n k c,f (n,k) c=if k== .free then(do let a <-cellOf env n;pure (.yield ((n,a)::c)))else pure (.yield c)):
  ∀(names:List (Str×NameKind)) (acc:List (Str×Addr)), (∀y∈names,y.2= .free->∃c,env.cells.lookup y.1=some c)->forIn names acc f=pure (bx env.cells names acc)
 |[],acc,_=>by rw[IP];rfl
 |(n,k)::r,acc,h=>by
  rw[List.forIn_cons,hf];have ih:=λacc=>jy env f hf r acc λy hy=>h y (BG _ hy);unfold bx
  by_cases hk:(k==NameKind.free)=true
  .rw[iP hk,iP hk];obtain⟨c,hc⟩:=h (n,k) CK (by simpa using hk);have e:cellOf env n=pure c:=by unfold cellOf;rw[hc]
   rw[e];have e2:(env.cells.lookup n).getD 0=c:=by rw[hc];rfl
   rw[e2];exact ih _
  .rw[iN hk,iN hk];exact ih _
theorem vP {scope:Scope} {env:Env} (h:∀y∈scope.names,y.2= .free->∃c,env.cells.lookup y.1=some c):closureFor scope env=pure (bx env.cells scope.names []):=by
 simp only[closureFor];rw[jy env _ (λn k c=>rfl) scope.names [] h];rfl
theorem mem_lookup {α:Type}:∀{l:List (Str×α)} {n:Str} {c:α}, (n,c)∈l->∃c',l.lookup n=some c'
 |(k,v)::r,n,c,h=>by
  rw[C9];cases hb:n==k with
  |true=>exact⟨_,rfl⟩
  |false=>
   rcases AG.mp h with e|h
   .cases e;simp at hb
   .exact mem_lookup h
theorem fg {cells:List (Str×Addr)}:∀{names:List (Str×NameKind)} {acc:List (Str×Addr)} {n:Str} {c:Addr}, (n,c)∈bx cells names acc->(n,c)∈acc\/((n,.free)∈names/\c=(cells.lookup n).getD 0)
 |[],_,_,_,h=> .inl h
 |(m,k)::r,acc,n,c,h=>by
  unfold bx at h
  split at h
  .rename_i hk
   have hk:k= .free:=by simpa using hk
   rcases fg h with h|⟨h1,h2⟩
   .rcases AG.mp h with e|h
    .cases e;exact .inr ⟨hk▸CK,rfl⟩
    .exact .inl h
   .exact .inr ⟨BG _ h1,h2⟩
  .rcases fg h with h|⟨h1,h2⟩
   .exact .inl h
   .exact .inr ⟨BG _ h1,h2⟩
theorem gK {cells:List (Str×Addr)}:∀{names:List (Str×NameKind)} {acc:List (Str×Addr)} {p:Str×Addr},p∈acc->p∈bx cells names acc
 |[],_,_,h=>h
 |(m,k)::r,acc,p,h=>by
  unfold bx
  split
  .exact gK (BG _ h)
  .exact gK h
theorem gJ {cells:List (Str×Addr)}:∀{names:List (Str×NameKind)} {acc:List (Str×Addr)} {n:Str}, (n,.free)∈names->(n, (cells.lookup n).getD 0)∈bx cells names acc
 |(m,k)::r,acc,n,h=>by
  unfold bx;rcases AG.mp h with e|h
  .cases e;exact gK CK
  .split
   .exact gJ h
   .exact gJ h
theorem fK:∀{names:List (Str×NameKind)} {h:Heap} {acc:List (Str×Addr)} {x:Str} {c:Addr}, (x,c)∈cellsFrom h.objs.size names acc->
  (x,c)∈acc\/((x,.cell)∈names/\h.objs.size<=c/\Bi (pushCells h names) c none)
 |[],_,_,_,_,h=> .inl h
 |(n,k)::r,h,acc,x,c,hm=>by
  unfold cellsFrom at hm;unfold pushCells
  split at hm
  .rename_i hk
   rw[iP hk];have hk:k= .cell:=by simpa using hk
   rw[<-Heap.size_push h {cls:= .type "cell",data:= .cell none}]at hm;rcases fK hm with hm|⟨h1,h2,h3⟩
   .rcases AG.mp hm with e|hm
    .cases e;exact .inr ⟨hk▸CK,AE _,_,pushCells_keeps r _ _ _ (Heap.get?_push_size _ rfl),rfl⟩
    .exact .inl hm
   .rw[Heap.size_push]at h2;exact .inr ⟨BG _ h1,EF h2,h3⟩
  .rename_i hk
   rw[iN hk];rcases fK hm with hm|⟨h1,h2,h3⟩
   .exact .inl hm
   .exact .inr ⟨BG _ h1,h2,h3⟩
theorem gY:∀{names:List (Str×NameKind)} {n:Nat} {acc:List (Str×Addr)} {p:Str×Addr},p∈acc->p∈cellsFrom n names acc
 |[],_,_,_,h=>h
 |(m,k)::r,n,acc,p,h=>by
  unfold cellsFrom
  split
  .exact gY (BG _ h)
  .exact gY h
theorem j0:∀{names:List (Str×NameKind)} {n:Nat} {acc:List (Str×Addr)} {x:Str}, (x,.cell)∈names->∃c, (x,c)∈cellsFrom n names acc
 |(m,k)::r,n,acc,x,h=>by
  unfold cellsFrom;rcases AG.mp h with e|h
  .cases e;exact⟨n,gY CK⟩
  .split
   .exact j0 h
   .exact j0 h
theorem jZ:∀{names:List (Str×NameKind)} {h:Heap} {acc:List (Str×Addr)} {x y:Str} {c:Addr}, (∀p∈acc,p.2<h.objs.size)->(∀x y c, (x,c)∈acc->(y,c)∈acc->x=y)->
  (x,c)∈cellsFrom h.objs.size names acc->(y,c)∈cellsFrom h.objs.size names acc->x=y
 |[],_,_,_,_,_,_,hi,h1,h2=>hi _ _ _ h1 h2
 |(n,k)::r,h,acc,x,y,c,hl,hi,h1,h2=>by
  unfold cellsFrom at h1 h2
  split at h1
  .rename_i hk
   rw[iP hk]at h2;rw[<-Heap.size_push h {cls:= .type "cell",data:= .cell none}]at h1 h2;apply jZ (h:=h.push _) (λp hp=>?_) (λx y c a b=>?_) h1 h2
   .rw[Heap.size_push];rcases AG.mp hp with rfl|hp
    .exact CO _
    .exact FP (hl p hp)
   .rcases AG.mp a with e|a<;>rcases AG.mp b with e'|b
    .cases e;cases e';rfl
    .cases e;exact absurd (hl _ b) (CQ _)
    .cases e';exact absurd (hl _ a) (CQ _)
    .exact hi _ _ _ a b
  .rename_i hk
   rw[iN hk]at h2;exact jZ hl hi h1 h2
theorem tR {M:Model} {A:Around} {E:Value->Shared->Prop} {s:Shared} {scope:Scope} {globals:Addr} {closure:List (Str×Addr)} {qual:Str} {func:Option Addr} {code:Value} {around:Env} {builtins:Addr} {Q:Env->Shared->Prop}
  (h:Q (newEnv scope s.heap.objs.size globals (cellsFrom (s.heap.objs.size+1) scope.names closure) qual func code (some around) builtins)
   {s with heap:=pushCells (s.heap.push {cls:= .type "dict",data:= .dict #[]}) scope.names}):
  wpAny M A (newFunctionEnv scope globals closure [] qual func code (some around) builtins) Q E s:=by
 simp only[newFunctionEnv,HA,if_true];apply wpAny_bind (wpAny_alloc ?_);apply wpAny_bind (wpAny_layCells _ (λn k c=>rfl) scope.names closure _ _ ?_);rw[show({s with heap:=s.heap.push {cls:= .type "dict",data:= .dict #[]}}:Shared).heap.objs.size=s.heap.objs.size+1 from Heap.size_push ..];rw[IP];exact wpAny_bind (wpAny_pure (wpAny_pure h))
theorem gG {sc:Scope}:∀{names:List (Str×NameKind)} {x:Str} {k:NameKind},
  (names.map λ(n,k)=>if(k==NameKind.free&&sc.kind== .function&&sc.names.lookup n==some .cell)then(n,NameKind.cell)else(n,k)).lookup x=some k->
  ∃k',names.lookup x=some k'/\(k=k'\/(k'= .free/\k= .cell))
 |[],_,_,h=>by simp at h
 |(n,k₀)::r,x,k,h=>by
  have ih:=@gG sc r x k;have h':C2 x ((if(k₀==NameKind.free&&sc.kind== .function&&sc.names.lookup n==some .cell)=true then(n,NameKind.cell)else(n,k₀))::(r.map _))=some k:=h;cases hx:x==n with
  |true=>
   simp only[C9,hx]
   by_cases hc:(k₀==NameKind.free&&sc.kind== .function&&sc.names.lookup n==some .cell)=true
   .rw[iP hc]at h';simp only[C9,hx]at h';cases h';simp only[B6,beq_iff_eq]at hc;exact⟨k₀,rfl,.inr ⟨hc.1.1,rfl⟩⟩
   .rw[iN hc]at h';simp only[C9,hx]at h';cases h';exact⟨_,rfl,.inl rfl⟩
  |false=>
   simp only[C9,hx]
   by_cases hc:(k₀==NameKind.free&&sc.kind== .function&&sc.names.lookup n==some .cell)=true
   .rw[iP hc]at h';simp only[C9,hx]at h';exact ih h'
   .rw[iN hc]at h';simp only[C9,hx]at h';exact ih h'
structure si (N:List Str) (sc scope:Scope) (own:List (Str×Nat)):Prop where
 kind:scope.kind= .function
 uniq:∀y∈scope.names,scope.names.lookup y.1=some y.2
 ix:∀p∈own,N[p.2]? =some p.1
 free:∀y∈scope.names,y.2= .free->sc.names.lookup y.1=some .cell\/sc.names.lookup y.1=some .free
 own:∀y∈scope.names,y.2= .local\/y.2= .cell->y.1∈own.map (·.1)\/y.1∉N
def wipe (σ:St):List Nat->St
 |[]=>σ
 |v::vs=>(wipe σ vs).set v none
theorem gC (σ:St):∀vs:List Nat, (wipe σ vs).length=σ.length
 |[]=>rfl
 |v::vs=>by unfold wipe;rw[List.length_set,gC σ vs]
theorem jP {σ:St} {i:Nat} {x:V}:∀{vs:List Nat}, (wipe σ vs)[i]? =some (some x)->σ[i]? =some (some x)/\i∉vs
 |[],h=>⟨h,by simp⟩
 |v::vs,h=>by
  unfold wipe at h
  by_cases hi:v=i
  .subst hi
   by_cases hv:v<(wipe σ vs).length
   .rw[ED hv]at h;cases h
   .rw[DC (by simpa using hv)]at h;cases h
  .rw[ES hi]at h;obtain⟨h1,h2⟩:=jP h;exact⟨h1,by simp only[AG,not_or];exact⟨λe=>hi e.symm,h2⟩⟩
abbrev Cx.pL (X:Cx) (s:Shared) (H:Hp) (scope:Scope) (df:Env) (fp:List Addr):Cx:={X with s₀:=s,H₀:=H,env:=df,outer:=X.stack,ex:=fp,fn:=λx=>scope.names.lookup x==some .cell,pn:=[],xe:=λ_ _=>False}
section
variable{X:Cx} {pins:List (Addr×Obj)} {σ:St} {H:Hp} {s:Shared}
theorem t6 {scope:Scope} {own:List (Str×Nat)} {fp:List Addr} (I:Inv X pins σ H s) (ok:si X.N X.env.scope scope own) (hN:X.N.Nodup) (xB:∀b∈fp,oa X pins H b/\b<s.heap.objs.size):
  Inv (X.pL s H scope (compEnvC scope (cellsFrom (s.heap.objs.size+1) scope.names (bx X.env.cells scope.names [])) s.heap.objs.size X.env) fp) [] (wipe σ (own.map (·.2))) H {s with heap:=pushCells (s.heap.push {cls:= .type "dict",data:= .dict #[]}) scope.names}:=by
 have oJ:∀y∈scope.names,y.2= .free->∃c,X.env.cells.lookup y.1=some c:=λy hy e=>by
  rcases ok.free y hy e with k|k
  .exact I.ok.has _ (.inl k)
  .exact I.ok.has _ (.inr k)
 generalize rV:compEnvC scope (cellsFrom (s.heap.objs.size+1) scope.names (bx X.env.cells scope.names [])) s.heap.objs.size X.env=df;have kp:∀b o,s.heap.get? b=some o->(pushCells (s.heap.push {cls:= .type "dict",data:= .dict #[]}) scope.names).get? b=some o:=λb o e=>pushCells_keeps _ _ _ _ (Heap.get?_push_of_some _ e);have hL:df.locals=s.heap.objs.size:=by rw[<-rV];rfl
 have K2:df.cells=cellsFrom (s.heap.objs.size+1) scope.names (bx X.env.cells scope.names []):=by rw[<-rV];rfl
 have RZ:df.scope=Ta scope X.env.scope:=by rw[<-rV];rfl
 rw[<-Heap.size_push s.heap {cls:= .type "dict",data:= .dict #[]}]at K2
 have cm:∀{y c}, (y,c)∈bx X.env.cells scope.names []->X.env.cells.lookup y=some c/\c<s.heap.objs.size:=λ{y c} hm=>by
  rcases fg hm with hm|⟨h1,rfl⟩
  .cases hm
  .obtain⟨c,hc⟩:=oJ _ h1 rfl;rw[hc];obtain⟨w,z⟩:=I.cell _ _ hc;exact⟨rfl,z.lt⟩
 have mem:∀{y c},df.cells.lookup y=some c->(X.env.cells.lookup y=some c/\c<s.heap.objs.size)\/(s.heap.objs.size+1<=c/\Bi (pushCells (s.heap.push {cls:= .type "dict",data:= .dict #[]}) scope.names) c none):=λ{y c} e=>by
  rw[K2]at e;rcases fK (BF e)with hm|⟨_,h2,h3⟩
  .exact .inl (cm hm)
  .rw[Heap.size_push]at h2;exact .inr ⟨h2,h3⟩
 have look:∀{y},scope.names.lookup y=some .free->∃c,df.cells.lookup y=some c/\X.env.cells.lookup y=some c:=λ{y} hl=>by
  have hy:(y,NameKind.free)∈scope.names:=BF hl;obtain⟨c',e'⟩:=mem_lookup (gY (names:=scope.names) (n:=(s.heap.push {cls:= .type "dict",data:= .dict #[]}).objs.size) (gJ (cells:=X.env.cells) (acc:=[]) hy));rw[<-K2]at e';apply⟨c',e',?_⟩;rw[K2]at e';rcases fK (BF e')with hm|⟨h1,_,_⟩
  .exact(cm hm).1
  .have:=ok.uniq _ h1;rw[hl]at this;cases this
 have Xm:(X.pL s H scope df fp).Ok:=by
  apply⟨I.ok.mod,by show df.scope.kind=_;rw[RZ];exact ok.kind,by show df.globals=_;rw[<-rV];exact I.ok.glob,by show df.builtins=_;rw[<-rV];exact I.ok.blt,by show s.heap.objs.size<=df.locals;rw[hL];exact AE _,
   λy z c e1 e2=>?_,λy hy=>?_,λy c z e=>?_,I.ok.hd,I.ok.frames,.inl rfl,λb hb=>⟨?_,λy c e z=>?_⟩,I.bs,AY I.ok.Fj I.sz,λb o e hb=>?_,λb hb z=>?_,I.stack,I.wF⟩
  .have e1:df.cells.lookup y=some c:=e1;have e2:df.cells.lookup z=some c:=e2;rw[K2]at e1 e2;apply jZ (λp hp=>?_) (λy z c a b=>I.ok.inj y z c (cm a).1 (cm b).1) (BF e1) (BF e2);rw[Heap.size_push];exact FP (cm (y:=p.1) (c:=p.2) hp).2
  .show∃c,df.cells.lookup y=some c
   have key:∀k,df.kindOf y=some k->(k= .cell\/k= .free)->∃c,df.cells.lookup y=some c:=λk hk Sb=>by
    unfold Env.kindOf at hk;rw[RZ]at hk;obtain⟨k',e,r⟩:=gG hk
    have:k'= .cell\/k'= .free:=by
     rcases r with rfl|⟨rfl,_⟩
     .exact Sb
     .exact .inr rfl
    rcases this with rfl|rfl
    .obtain⟨c,hm⟩:=j0 (n:=(s.heap.push {cls:= .type "dict",data:= .dict #[]}).objs.size) (acc:=bx X.env.cells scope.names []) (BF e);obtain⟨c',e'⟩:=mem_lookup hm;exact⟨c',by rw[K2];exact e'⟩
    .obtain⟨c,h1,_⟩:=look e;exact⟨c,h1⟩
   rcases hy with hy|hy
   .exact key _ hy (.inl rfl)
   .exact key _ hy (.inr rfl)
  .have z:(scope.names.lookup y==some NameKind.cell)=true:=z;have z:scope.names.lookup y=some .cell:=by simpa using z
   have e:df.cells.lookup y=some c:=e;rw[K2]at e;rcases fK (BF e)with hm|⟨_,h2,_⟩
   .rcases fg hm with hm|⟨h1,_⟩
    .cases hm
    .have q:=ok.uniq _ h1;rw[z]at q;cases q
   .rw[Heap.size_push]at h2;exact EF h2
  .show b≠df.locals
   rw[hL];exact B9 (xB b hb).2
  .have e:df.cells.lookup y=some c:=e;rcases mem e with⟨h1,_⟩|⟨h1,_⟩
   .exact(xB b hb).1.2.2.2.2.1 y c h1 z
   .have h2:s.heap.objs.size+1<=b:=by rw[<-z];exact h1
    exact absurd (BB (xB b hb).2 (EF h2)) (CQ _)
  .rcases(xB b hb).1.2.2.2.1 with z|z
   .exact I.ok.zw b o e z
   .exact absurd (BB (Heap.lt_size e) (AY I.ok.Fj z)) (CQ _)
  .rcases AG.mp (I.uM b z)with z|z
   .exact(xB b hb).1.2.1 z
   .exact(xB b hb).1.2.2.1 z
 apply⟨Xm,rfl,I.bare,Un.kept kp, ⟨λ_=>none,?_,λi y av e1 e2 e3=>?_⟩,λy c e=>?_,?_,λy c e=>?_,λp hp=>?_,I.b8.kept kp,by rw[gC];exact I.len⟩
 .show Heap.Ns _ df.locals _
  rw[hL];exact Heap.Ns.keeps (Heap.Ns.new ..) λb o e=>pushCells_keeps _ _ _ _ e
 .obtain⟨e2,dF⟩:=jP e2
  have yT:scope.names.lookup y=some .free/\(df.kindOf y=some .cell\/df.kindOf y=some .free):=by
   have key:∀k,df.scope.names.lookup y=some k->k= .local\/k= .cell\/k= .free->scope.names.lookup y=some .free/\(df.kindOf y=some .cell\/df.kindOf y=some .free):=λk hk Sb=>by
    have pK:=hk;rw[RZ]at hk;obtain⟨k',e,r⟩:=gG hk
    have no:¬(k'= .local\/k'= .cell):=λhh=>by
     rcases ok.own _ (BF e) hh with e'|e'
     .obtain⟨p,hp,Yc⟩:=BC.mp e';have e3:=ok.ix p hp;have:p.1=y:=Yc;rw[this]at e3;exact dF (BC.mpr ⟨p,hp,mS hN e3 e1⟩)
     .exact e' (AO e1)
    rcases r with rfl|⟨rfl,rfl⟩
    .rcases Sb with rfl|rfl|rfl
     .exact absurd (.inl rfl) no
     .exact absurd (.inr rfl) no
     .exact⟨e,.inr pK⟩
    .exact⟨e,.inl pK⟩
   have e3:Nn df.scope y:=e3;rcases e3 with e3|e3|e3
   .exact key _ e3 (.inl rfl)
   .exact key _ e3 (.inr (.inl rfl))
   .exact key _ e3 (.inr (.inr rfl))
  obtain⟨m,hn,hl⟩:=I.loc;have TJ:Nn X.env.scope y:=(ok.free _ (BF yT.1) rfl).elim (λk=> .inr (.inl k)) (λk=> .inr (.inr k));obtain⟨w,r,q⟩:=hl i y av e1 e2 TJ;apply⟨w,r,.inr ⟨yT.2,?_⟩⟩;obtain⟨c,h1,h2⟩:=look yT.1;rcases q with⟨k,_⟩|⟨_,c',e',z⟩
  .have k:X.env.scope.names.lookup y=some .local:=k;rcases ok.free _ (BF yT.1) rfl with k'|k'<;>rw[show X.env.scope.names.lookup y=_ from k']at k<;>cases k
  .rw[h2]at e';cases e';exact⟨c,h1,z.keeps kp⟩
 .have e:df.cells.lookup y=some c:=e;rcases mem e with⟨h1,_⟩|⟨_,z⟩
  .obtain⟨w,z⟩:=I.cell y c h1;exact⟨w,z.keeps kp⟩
  .exact⟨_,z⟩
 .show H df.locals=none
  rw[hL];exact I.b8.fresh (AE _)
 .have e:df.cells.lookup y=some c:=e;rcases mem e with⟨h1,_⟩|⟨h1,_⟩
  .exact I.fA y c h1
  .exact I.b8.fresh (EF h1)
 .exact absurd (show p∈([]:List (Addr×Obj))++[]from hp) (by simp)
theorem MP {E:Value->Shared->Prop} {D:Addr} {xs:List V} {y:V} {v:Value} {Q:Value->Shared->Prop} (I:Inv X pins σ H s) (hD:H D=some (.lst xs)) (hz:xs.length<sizeLine) (r:RelV y v)
  (h:∀s',Inv X pins σ (upd H D (.lst (xs++[y]))) s'->Q .none s'):wpAny (model X.prog X.w) X.A (call (.builtin "list.append") [.ref D,v]) Q E s:=by
 obtain⟨M4,aP,n,ri,e⟩:=I.b8 D _ hD;have hl:=ri.length;apply append_at (hsz:=by rw[AJ];omega) e λh' sb rp=>?_;apply h {s with heap:=h'} (I.write (t':=s.toks) (by rw[hD];trivial) (.inl rfl) (λb u hb q=>(sb.2 b hb).trans q) ⟨_,rp⟩ ⟨by rw[AB];exact hz,aP++[v],n+1,ri.append (.cons r .nil),?_⟩);rw[rp];simp
def Od (X:Cx) (ifs:List Expr) (t:TT):Prop:=
 ∀(pins:List (Addr×Obj)) (s:Shared) (σ:St) (H:Hp) (Q:Bool->Hp->Prop),Inv X pins σ H s->t σ H Q->
  wpAny (model X.prog X.w) X.A (forIn ifs true λc r=>if r=true then do let ok <-isTrue c X.env (eval c X.env);pure (EW ok)else pure (EW r)) (TP X pins σ Q) X.xe s
def Fs:TT:=λ_ H Q=>Q true H
theorem lJ:Od X [] Fs:=λ_ _ _ H _ I h=>wpAny_tests_nil ⟨H,I,h⟩
theorem wL {c:Expr} {t:TT} (h:PT X c t):Od X [c] t:=λpins s σ H Q I hw=>wpAny_tests_one (h pins s σ H Q I hw)
end
theorem xF {α:Type} {t:Sem α} {Q Q':α->Shared->Prop} {M:Model} {A:Around} {E:Value->Shared->Prop} {s:Shared} (h:wpAny M A t Q (λ_ _=>False) s) (hQ:∀a s,Q a s->Q' a s):wpAny M A t Q' E s:=wpAny_mono h hQ λ_ _ z=>CG z
theorem qR {prog:Program} {w:World} {A:Around} {R:Result->Shared->Prop} {s:Shared} {elt target iter:Expr} {ifs:List Expr} {scope:Scope} {pos:Pos} {it acc:Value} {env:Env} (I:Nat->Shared->Prop)
  (turn:∀n s,I n s->wpAny (model prog w) A (pyNext it) (λr s₁=>match r with
   |none=>R (.ok .next) s₁
   |some v=>wpAny (model prog w) A (letOwnedTupleGo target it v) (λ_ U4=>wpAny (model prog w) A (assign target env v) (λ_ s₂=>
     wpAny (model prog w) A (forIn ifs true λc r=>if r=true then do let ok <-isTrue c env (eval c env);pure (EW ok)else pure (EW r)) (λok s₃=>
      if ok=true then wpAny (model prog w) A (eval elt env) (λx s₄=>
       wpAny (model prog w) A (call (.builtin "list.append") [acc,x]) (λ_ s₅=>∃m,m<n/\I m s₅) (notedBy (model prog w) A env λe s'=>R (.error e) s') s₄) (notedBy (model prog w) A env λe s'=>R (.error e) s') s₃
      else∃m,m<n/\I m s₃) (notedBy (model prog w) A env λe s'=>R (.error e) s') s₂) (notedBy (model prog w) A env λe s'=>R (.error e) s') U4) (notedBy (model prog w) A env λe s'=>R (.error e) s') s₁) (notedBy (model prog w) A env λe s'=>R (.error e) s') s)
  (n:Nat) (h:I n s):
  codeAny (model prog w) A (.compLoop (.ListComp elt [⟨target,iter,ifs,0⟩] scope pos) 0 it acc env) R s:=by
 apply codeAny_loop rfl I (λn s hI=>?_) n h;show wpAny _ A ((compTurn (.ListComp elt [⟨target,iter,ifs,0⟩] scope pos) 0 it acc env).onRaise (λx=>do noteFrame x env;theTreesLotGoes x)) _ _ s
 apply wpAny_noted ?_;rw[compTurn_list];apply wpAny_bind (wpAny_standAt (wpAny_bind (wpAny_mono (turn n s hI) (λr s₁ h₁=>?_) λ_ _ h'=>h')));cases r with
 |none=>exact wpAny_pure h₁
 |some v=>
  apply wpAny_bind (wpAny_mono h₁ (λ_ U4 XI=>?_) λ_ _ h'=>h');apply wpAny_bind (wpAny_mono XI (λ_ s₂ h₂=>wpAny_bind (wpAny_mono h₂ (λok s₃ h₃=>?_) λ_ _ h'=>h')) λ_ _ h'=>h');cases ok with
  |false=>exact wpAny_pure ⟨rfl,h₃⟩
  |true=>
   exact wpAny_bind (wpAny_bind (wpAny_mono h₃ (λx s₄ h₄=>wpAny_bind (wpAny_mono h₄ (λ_ s₅ h₅=>wpAny_pure (wpAny_pure ⟨rfl,h₅⟩)) λ_ _ h'=>h')) λ_ _ h'=>h'))
section
variable{X:Cx}
def MU (wi:TI) (g:TG) (tt:TT) (te:TE) (vs:List Nat):TE:=λσ H Q=>wi σ H λJ H1=>∀D,H1 D=none->∃W:Nat->Nat->Hp->Prop, (∃m,W 0 m (upd H1 D (.lst [])))/\∀i m H,W i m H->
 (J.stop i H/\Q (.ref D) H)\/(J.go i H/\∃Nx:Hp->Prop, (∀H',Nx H'->∃m',m'<m/\W (i+1) m' H')/\∀x H',J.Io i H x H'->g x (wipe σ vs) H' λσ2 H2=>wipe σ2 vs=wipe σ vs/\tt σ2 H2 λb H3=>
  if b=true then te σ2 H3 λy H4=>∃acc,H4 D=some (.lst acc)/\acc.length<sizeLine/\Nx (upd H4 D (.lst (acc++[y])))else Nx H3)
theorem wX {pins:List (Addr×Obj)} {s:Shared} {σ:St} {H:Hp} {Q:VK} {elt tg iter:Expr} {ifs:List Expr} {scope:Scope} {own:List (Str×Nat)} {pos pos':Pos} {wi:TI} {g:TG} {tt:TT} {te:TE} {use:Option (Value->Sem Unit)} {Qf:Value->Shared->Prop}
  (hc:X.calm=true) (hN:X.N.Nodup) (I:Inv X pins σ H s) (hi:PI X tg iter wi) (ok:si X.N X.env.scope scope own)
  (hg:∀(s:Shared) (H:Hp) (C:Addr) (cl:List (Str×Addr)) (fp:List Addr),PG (X.pL s H scope (compEnvC scope cl C X.env) fp) tg g) (ht:∀(s:Shared) (H:Hp) (C:Addr) (cl:List (Str×Addr)) (fp:List Addr),Od (X.pL s H scope (compEnvC scope cl C X.env) fp) ifs tt)
  (he:∀(s:Shared) (H:Hp) (C:Addr) (cl:List (Str×Addr)) (fp:List Addr),PE (X.pL s H scope (compEnvC scope cl C X.env) fp) elt te) (hs:∀x,foldedSetIterable iter X.env x=pure x)
  (h:MU wi g tt te (own.map (·.2)) σ H Q)
  (Y0:∀D C s' m H',Inv X pins σ H' s'->Q (.ref D) H'->s'.heap.Ns C m->oa X pins H' C->compPost (model X.prog X.w) X.A X.xe use Qf (.ref D) C (.ok .next) s'):
  wpAny (model X.prog X.w) X.A (comprehension (.ListComp elt [⟨tg,iter,ifs,0⟩] scope pos) scope X.env pos' (newList []) false (eval iter X.env) use) Qf X.xe s:=by
 have oJ:∀y∈scope.names,y.2= .free->∃c,X.env.cells.lookup y.1=some c:=λy hy e=>by
  rcases ok.free y hy e with k|k
  .exact I.ok.has _ (.inl k)
  .exact I.ok.has _ (.inr k)
 apply wpAny_comprehension_free (use:=use) rfl hs (vP oJ) ok.kind (λy hy e=>by rw[ok.uniq y hy,e])
  (bM (hi pins s σ H _ I h) λxv s1 hx=>bM hx λRU s2 h2=>?_)
 obtain⟨it,fp,tn,J,H2,e,I2,T,Qm,f2,q⟩:=h2;subst e;apply wpAny_newObj_type (tR ?_) (by show 0<=sizeLine;decide);generalize hD:s2.heap.objs.size=D;have Y9:H2 D=none:=I2.b8.fresh (F8 hD);obtain⟨W, ⟨m0,w0⟩,turn⟩:=q D Y9;generalize ub:({s2 with heap:=s2.heap.push {cls:= .type "list",data:= .seq ([]:List Value).toArray}}:Shared)=s3
 have I3:Inv X pins σ (upd H2 D (.lst [])) s3:=by
  rw[<-ub];apply I2.laid (t':=s2.toks) (λb o e=>Heap.get?_push_of_some _ e) (F8 hD) ⟨A0 _, [],0,.nil,?_⟩;rw[<-hD];exact Heap.get?_push_size _ rfl
 have h3:s3.heap=s2.heap.push {cls:= .type "list",data:= .seq ([]:List Value).toArray}:=by rw[<-ub]
 have sz:∀b∈fp,b<s2.heap.objs.size:=λb hb=>by
  obtain⟨o,e,_⟩:=T.obj _ _ Qm b hb;exact Heap.lt_size e
 have f3:∀b∈fp,oa X pins (upd H2 D (.lst [])) b/\b<s3.heap.objs.size:=λb hb=>by
  have gc:=sz b hb;apply⟨⟨?_, (f2 b hb).2⟩,by rw[h3,Heap.size_push];exact FP gc⟩;rw[ae (by rw[<-hD];exact B9 gc)];exact(f2 b hb).1
 have Ql:tn 0 s3.heap:=T.keep _ _ _ Qm λb _ o e=>by rw[h3];exact Heap.get?_push_of_some _ e
 have I4:=t6 I3 ok hN f3;have pg:=hg s3 (upd H2 D (.lst [])) s3.heap.objs.size (cellsFrom (s3.heap.objs.size+1) scope.names (bx X.env.cells scope.names [])) fp;have pt:=ht s3 (upd H2 D (.lst [])) s3.heap.objs.size (cellsFrom (s3.heap.objs.size+1) scope.names (bx X.env.cells scope.names [])) fp;have pe:=he s3 (upd H2 D (.lst [])) s3.heap.objs.size (cellsFrom (s3.heap.objs.size+1) scope.names (bx X.env.cells scope.names [])) fp;show codeAny _ _ (.compStart (.ListComp elt [⟨tg,iter,ifs,0⟩] scope pos) 0 (.ref it) (.ref D) (compEnvC scope (cellsFrom (s3.heap.objs.size+1) scope.names (bx X.env.cells scope.names [])) s3.heap.objs.size X.env)) (compPost (model X.prog X.w) X.A X.xe use Qf (.ref D) s3.heap.objs.size) {s3 with heap:=pushCells (s3.heap.push {cls:= .type "dict",data:= .dict #[]}) scope.names}
 have Vk:∀b∈fp, (upd H2 D (.lst [])) b=none:=λb hb=>(f3 b hb).1.1;generalize YN:compEnvC scope (cellsFrom (s3.heap.objs.size+1) scope.names (bx X.env.cells scope.names [])) s3.heap.objs.size X.env=ce at I4 pg pt pe ⊢;have cL:ce.locals=s3.heap.objs.size:=by subst YN;rfl
 generalize Jn:upd H2 D (.lst [])=H3 at I3 I4 pg pt pe w0 Vk f3;generalize X6:({s3 with heap:=pushCells (s3.heap.push {cls:= .type "dict",data:= .dict #[]}) scope.names}:Shared)=s4 at I4 ⊢;have U5:tn 0 s4.heap:=T.keep _ _ _ Ql λb _ o e=>by rw[<-X6];exact pushCells_keeps _ _ _ _ (Heap.get?_push_of_some _ e)
 have uB:∀{σ':St} {H':Hp} {s':Shared},Inv (X.pL s3 H3 scope ce fp) [] σ' H' s'->(∀b∈fp,H' b=none)->∀b∈fp,oa (X.pL s3 H3 scope ce fp) [] H' b:=λ{σ' H' s'} I' hn b hb=>
  ⟨hn b hb, (I'.ok.Rb b hb).1,I'.ok.zI b hb,.inl hb,λx c e=>(I'.ok.Rb b hb).2 x c e,λp hp=>absurd (show p∈([]:List (Addr×Obj))++[]from hp) (by simp)⟩
 have loop:codeAny (model X.prog X.w) X.A (.compLoop (.ListComp elt [⟨tg,iter,ifs,0⟩] scope pos) 0 (.ref it) (.ref D) ce) (compPost (model X.prog X.w) X.A X.xe use Qf (.ref D) s3.heap.objs.size) s4:=by
  apply qR (λn s'=>∃i H',Inv (X.pL s3 H3 scope ce fp) [] (wipe σ (own.map (·.2))) H' s'/\tn i s'.heap/\(∀b∈fp,H' b=none)/\W i n H') ?_ m0 ⟨0,H3,I4,U5,Vk,w0⟩;rintro n s5 ⟨i,H5,I5,MV,n5,w5⟩;rcases turn i n H5 w5 with⟨stop,qq⟩|⟨go,Nx,Y3,step⟩
  .have td:=T.done (X.pL s3 H3 scope ce fp) rfl rfl rfl hc i [] s5 _ H5 (λ_ _=>False) I5 (uB I5 n5) MV stop;apply xF td λr s6 ⟨hr,I6⟩=>?_;subst hr;have I7:Inv X pins σ H5 s6:=I3.P6 (ch:=fp) I6.os I6.base I6.b8 I6.bare λb hb=>⟨(f3 b hb).1.2.2.2.1, (f3 b hb).1.2.1, (f3 b hb).1.2.2.2.2.1, (f3 b hb).1.2.2.2.2.2⟩
   have nC:H5 s3.heap.objs.size=none:=by
    have z:H5 ce.locals=none:=I6.free;rw[cL]at z;exact z
   obtain⟨m,hn,_⟩:=I6.loc;have hn:s6.heap.Ns ce.locals m:=hn;rw[cL]at hn;exact Y0 D s3.heap.objs.size s6 m H5 I7 qq hn (I3.LL (AE _) nC)
  .have ti:=T.item (X.pL s3 H3 scope ce fp) rfl rfl rfl hc i [] s5 _ H5 (λ_ _=>False) I5 (uB I5 n5) MV go;apply xF ti λr s6 ⟨u,hr,h6⟩=>?_;subst hr;apply xF h6 λ_ s7 ⟨x,H7,I7,r7,y7,Rw,n7⟩=>?_;have ZR:=I7.pinned (uB I7 n7) (T.obj _ _ Rw);apply xF (pg _ s7 _ H7 x u _ ZR r7 (step x H7 y7)) λ_ s8 ⟨σ8,H8,I8,VE,q8⟩=>?_;apply xF (pt _ s8 σ8 H8 _ I8 q8) λb s9 ⟨H9,I9,q9⟩=>?_
   have fin:∀{s':Shared} {H':Hp},Inv (X.pL s3 H3 scope ce fp) ([]++mB fp s7.heap) σ8 H' s'->Nx H'->∃m,m<n/\∃i H',Inv (X.pL s3 H3 scope ce fp) [] (wipe σ (own.map (·.2))) H' s'/\tn i s'.heap/\(∀b∈fp,H' b=none)/\W i m H':=λ{s' H'} I' nx=>by
    obtain⟨m',hm,w'⟩:=Y3 H' nx
    have OG:∀b∈fp,∀o,s7.heap.get? b=some o->s'.heap.get? b=some o/\H' b=none:=λb hb o e=>
     let z:=I'.pin (b,o) (BU _ (BU _ (iC hb e)))
     ⟨z.1,z.2.1⟩
    have hl:(wipe σ (own.map (·.2))).length=σ8.length:=by rw[<-VE,gC]
    apply⟨m',hm,i+1,H', (I'.jg (pins:=[])).weak hl (λj v e=>?_),T.keep _ _ _ Rw λb hb o e=>(OG b hb o e).1,λb hb=>?_,w'⟩
    .rw[<-VE]at e;exact(jP e).1
    .obtain⟨o,e,_⟩:=T.obj _ _ Rw b hb;exact(OG b hb o e).2
   cases b with
   |false=>
    simp only[BS,if_false]at q9 ⊢;exact fin I9 q9
   |true=>
    simp only[if_true]at q9 ⊢;apply xF (pe _ s9 σ8 H9 _ I9 q9) λz Dq ⟨yv,WJ,ZU,W2,acc,Uz,TB,nx⟩=>?_;exact MP (X:=X.pL s3 H3 scope ce fp) ZU Uz TB W2 λQp ZT=>fin ZT nx
 exact codeAny_compStart_list loop (T.self X.A 0 _ _ _ U5 loop)
theorem rO {elt tg iter:Expr} {ifs:List Expr} {scope:Scope} {own:List (Str×Nat)} {pos:Pos} {wi:TI} {g:TG} {tt:TT} {te:TE} (hc:X.calm=true) (hN:X.N.Nodup) (hi:PI X tg iter wi) (ok:si X.N X.env.scope scope own)
  (hg:∀(s:Shared) (H:Hp) (C:Addr) (cl:List (Str×Addr)) (fp:List Addr),PG (X.pL s H scope (compEnvC scope cl C X.env) fp) tg g) (ht:∀(s:Shared) (H:Hp) (C:Addr) (cl:List (Str×Addr)) (fp:List Addr),Od (X.pL s H scope (compEnvC scope cl C X.env) fp) ifs tt)
  (he:∀(s:Shared) (H:Hp) (C:Addr) (cl:List (Str×Addr)) (fp:List Addr),PE (X.pL s H scope (compEnvC scope cl C X.env) fp) elt te) (hs:∀x,foldedSetIterable iter X.env x=pure x:=by intro _;rfl):
  PE X (.ListComp elt [⟨tg,iter,ifs,0⟩] scope pos) (MU wi g tt te (own.map (·.2))):=by
 intro pins s σ H Q I h;rw[eval_ListComp];apply wX hc hN I hi ok hg ht he hs h λD C s' m H' I' q hn f=>⟨m,hn,λh'' sb=>?_⟩
 obtain⟨f0,f1,f2,f3,f4,f5⟩:=f;exact⟨.ref D,H',I'.turned (t':=s'.toks) (λb o hb e=>(sb.2 b hb).trans e) f0 f1 f3 f4 f5,rfl,q⟩
theorem Bx {i:Nat} {y:Str} {py:Pos} {elt tg iter:Expr} {ifs:List Expr} {scope:Scope} {own:List (Str×Nat)} {pos Ox:Pos} {wi:TI} {g:TG} {tt:TT} {te:TE} (hc:X.calm=true) (hN:X.N.Nodup) (hy:X.N[i]? =some y) (Vy:X.env.scope.names.lookup y=some .local)
  (X4:swapsWith (.ListComp elt [⟨tg,iter,ifs,0⟩] scope pos) (some (.Name y py)) Ox.line X.env=pure true) (hi:PI X tg iter wi) (ok:si X.N X.env.scope scope own)
  (hg:∀(s:Shared) (H:Hp) (C:Addr) (cl:List (Str×Addr)) (fp:List Addr),PG (X.pL s H scope (compEnvC scope cl C X.env) fp) tg g) (ht:∀(s:Shared) (H:Hp) (C:Addr) (cl:List (Str×Addr)) (fp:List Addr),Od (X.pL s H scope (compEnvC scope cl C X.env) fp) ifs tt)
  (he:∀(s:Shared) (H:Hp) (C:Addr) (cl:List (Str×Addr)) (fp:List Addr),PE (X.pL s H scope (compEnvC scope cl C X.env) fp) elt te) (hs:∀x,foldedSetIterable iter X.env x=pure x:=by intro _;rfl):
  PS X (.Assign [.Name y py] (.ListComp elt [⟨tg,iter,ifs,0⟩] scope pos) Ox) (Fu (MU wi g tt te (own.map (·.2))) (gq i)):=by
 intro pins s σ H D I h;rw[exec_Assign_Name_used _ _ _ _ X4];apply wpAny_bind (wpAny_standAt (wpAny_bind ?_));show wpAny _ X.A (do let _ <-comprehension (.ListComp elt [⟨tg,iter,ifs,0⟩] scope pos) scope X.env (firstIterPos [⟨tg,iter,ifs,0⟩] pos) (newList []) false (eval iter X.env) (some (assign (.Name y py) X.env))) _ _ s
 have h:MU wi g tt te (own.map (·.2)) σ H (λx H1=>gq i x σ H1 D.nx):=h;apply wpAny_bind (bM (wX (Qf:=λ_ s'=>SP X pins D .next s') hc hN I hi ok hg ht he hs h λL C s' m H' I' q hn f=>?_) λ_ s' hq=>wpAny_pure (wpAny_pure hq));show wpAny _ _ (assign (.Name y py) X.env (.ref L)) _ _ _
 apply wpAny_assign_Name (oT (v:=V.ref L) I' hN hy (.inl Vy) rfl (λs2 I2 ⟨a,sb,ha⟩=>?_) (.inr Vy));obtain⟨f0,f1,f2,f3,f4,f5⟩:=f
 have YW:C≠a:=by
  rcases ha with z|z
  .rw[z];exact f1
  .exact λe=>f4 y a z e.symm
 apply⟨m,hn.sameBut sb YW,λh3 WW=>?_⟩;exact⟨_,H',I2.turned (t':=s2.toks) (λb o hb e=>(WW.2 b hb).trans e) f0 f1 f3 f4 f5,q⟩
end
theorem Ia {K:AD} {a:Addr} {xs:List V} {g:TG} {tt:TT} {te:TE} {vs:List Nat} {σ:St} {H1:Hp} {D:Addr} {Qd:Hp->Prop} (Pv:Nat->Hp->Prop) (h0:Pv 0 (upd H1 D (.lst []))) (hl:∀i H,i<=xs.length->Pv i H->aL K H a xs)
  (hs:∀i x H,xs[i]? =some x->Pv i H->g x (wipe σ vs) H λσ2 H2=>wipe σ2 vs=wipe σ vs/\tt σ2 H2 λb H3=>
   if b=true then te σ2 H3 λy H4=>∃acc,H4 D=some (.lst acc)/\acc.length<sizeLine/\Pv (i+1) (upd H4 D (.lst (acc++[y])))else Pv (i+1) H3) (hd:∀H,Pv xs.length H->Qd H):
  ∃W:Nat->Nat->Hp->Prop, (∃m,W 0 m (upd H1 D (.lst [])))/\∀i m H,W i m H->
   ((zm K a).stop i H/\Qd H)\/((zm K a).go i H/\∃Nx:Hp->Prop, (∀H',Nx H'->∃m',m'<m/\W (i+1) m' H')/\∀x H', (zm K a).Io i H x H'->g x (wipe σ vs) H' λσ2 H2=>wipe σ2 vs=wipe σ vs/\tt σ2 H2 λb H3=>
    if b=true then te σ2 H3 λy H4=>∃acc,H4 D=some (.lst acc)/\acc.length<sizeLine/\Nx (upd H4 D (.lst (acc++[y])))else Nx H3):=by
 apply⟨λi m H=>m=xs.length-i/\i<=xs.length/\Pv i H, ⟨xs.length,by simp,A0 _,h0⟩,?_⟩;rintro i m H ⟨rfl,hi,p⟩;have q:=hl i H hi p
 by_cases gc:i<xs.length
 .refine .inr ⟨⟨xs,xs[i],q,by simp[gc]⟩,Pv (i+1),λH' p'=>⟨xs.length-(i+1),by omega,rfl,gc,p'⟩,λx H' y=>?_⟩;obtain⟨e,y⟩:=y;subst e;exact hs i x _ (y xs q) p
 .have e:i=xs.length:=by omega
  subst e;exact .inl ⟨⟨xs,q,AE _⟩,hd H p⟩
def Pc (N:List Str) (sc scope:Scope) (own:List (Str×Nat)):Bool:=
 (match scope.kind with| .function=>true|_=>false)&&(scope.names.all λy=>decide (scope.names.lookup y.1=some y.2))&&(own.all λp=>decide (N[p.2]? =some p.1))&&
  (scope.names.all λy=>match y.2 with
   | .free=>(match sc.names.lookup y.1 with|some .cell=>true|some .free=>true|_=>false)
   | .local=>decide (y.1∈own.map (·.1))||decide (y.1∉N)
   | .cell=>decide (y.1∈own.map (·.1))||decide (y.1∉N)
   |_=>true)
theorem fJ {N:List Str} {sc scope:Scope} {own:List (Str×Nat)} (h:Pc N sc scope own=true):si N sc scope own:=by
 unfold Pc at h;simp only[B6,DH,decide_eq_true_eq]at h;obtain⟨⟨⟨h1,h2⟩,h3⟩,h4⟩:=h;apply⟨?_,h2,h3,λy hy e=>?_,λy hy e=>?_⟩
 .split at h1
  .assumption
  .cases h1
 .have q:=h4 y hy;simp only[e]at q
  split at q<;>first|exact .inl (by assumption)|exact .inr (by assumption)|cases q
 .have q:=h4 y hy;rcases e with e|e<;>(simp only[e,D8,decide_eq_true_eq]at q;exact q)
end L2
namespace L2
open PySem PySem.Spec PyProof.Rows
section
variable{prog:Program} {w:World} {A:Around} {R:Result->Shared->Prop} {s:Shared} {elt t0 i0 t1 i1:Expr} {Z1 Z0:List Expr} {scope:Scope} {pos:Pos} {it acc:Value} {env:Env}
end
section
variable{X:Cx}
end
end L2
namespace L2
open PySem PySem.Spec PyProof.Rows
section
variable{κ:Type} [DecidableEq κ]
def cS (aC:List (κ×V)) (k:κ):Option V:=(aC.find? λkv=>decide (kv.1=k)).map (·.2)
def putK (aC:List (κ×V)) (k:κ) (v:V):List (κ×V):=
 if(aC.any λkv=>decide (kv.1=k))=true then aC.map (λkv=>if kv.1=k then(kv.1,v)else kv)else aC++[(k,v)]
theorem fD {p:κ×V} {r:List (κ×V)} {k:κ} (e:p.1=k):cS (p::r) k=some p.2:=by simp[cS,CY,e]
theorem cT {p:κ×V} {r:List (κ×V)} {k:κ} (e:¬p.1=k):cS (p::r) k=cS r k:=by simp[cS,CY,e]
theorem mI (k:κ):∀aC:List (κ×V), (aC.any λkv=>decide (kv.1=k))=(cS aC k).isSome
 |[]=>rfl
 |p::r=>by
  rw[CS]
  by_cases e:p.1=k
  .simp only[fD e,decide_eq_true e,JT,HA]
  .rw[cT e,decide_eq_false e,JQ];exact mI k r
theorem kK (aC:List (κ×V)) (k:κ) (v:V):(putK aC k v).length<=aC.length+1:=by
 unfold putK
 split
 .rw[AF];nofun
 .rw[AB,AA,BI];nofun
theorem sE {aC:List (κ×V)} {k:κ} (v:V) (h:cS aC k=none):putK aC k v=aC++[(k,v)]:=by
 unfold putK;rw[mI,h];exact iN nofun
theorem fQ.gW {o:Option V} {u:Option Value} (r:fQ o u):o.isSome=u.isSome:=by
 cases o with
 |none=>cases u with
  |none=>rfl
  |some _=>exact(show False from r).elim
 |some _=>cases u with
  |none=>exact(show False from r).elim
  |some _=>rfl
theorem fQ.getD {o:Option V} {u:Option Value} {d:V} {d':Value} (r:fQ o u) (rd:RelV d d'):RelV (o.getD d) (u.getD d'):=by
 cases o with
 |none=>cases u with
  |none=>exact rd
  |some _=>exact(show False from r).elim
 |some _=>cases u with
  |none=>exact(show False from r).elim
  |some _=>exact r
theorem KV.val {aC:List (κ×V)} {vs:List (κ×Value)} (r:KV aC vs) (k:κ):fQ (cS aC k) (valueAt vs k):=by
 unfold KV at r
 induction r with
 |nil=>exact E9
 |@cons p q ps qs h t ih=>
  obtain⟨h1,h2⟩:=h
  by_cases e:p.1=k
  .have e':q.1=k:=h1.symm.trans e;have b:valueAt (q::qs) k=some q.2:=by simp[valueAt,CY,e']
   rw[fD e,b];exact h2
  .have e':¬q.1=k:=λz=>e (h1.trans z);have b:valueAt (q::qs) k=valueAt qs k:=by simp[valueAt,CY,e']
   rw[cT e,b];exact ih
theorem KV.any {aC:List (κ×V)} {vs:List (κ×Value)} (r:KV aC vs) (k:κ):(aC.any λkv=>decide (kv.1=k))=vs.any λkv=>decide (kv.1=k):=by
 unfold KV at r
 induction r with
 |nil=>rfl
 |cons h t ih=>rw[CS,CS,ih,h.1]
theorem KV.Lm {aC:List (κ×V)} {vs:List (κ×Value)} (r:KV aC vs) (k:κ) {y:V} {u:Value} (ry:RelV y u):
  KV (aC.map λkv=>if kv.1=k then(kv.1,y)else kv) (vs.map λkv=>if kv.1=k then(kv.1,u)else kv):=by
 unfold KV at r ⊢
 induction r with
 |nil=>exact .nil
 |@cons p q ps qs h t ih=>
  rw[AI,AI];apply .cons ?_ ih;obtain⟨h1,h2⟩:=h
  by_cases e:p.1=k
  .rw[iP e,iP (h1.symm.trans e)];exact⟨h1,ry⟩
  .rw[iN e,iN (λz=>e (h1.trans z))];exact⟨h1,h2⟩
theorem KV.put {aC:List (κ×V)} {vs:List (κ×Value)} (r:KV aC vs) (k:κ) {y:V} {u:Value} (ry:RelV y u):KV (putK aC k y) (stored vs k u):=by
 unfold putK stored;rw[r.any k]
 by_cases e:(vs.any λkv=>decide (kv.1=k))=true
 .rw[iP e,iP e];exact r.Lm k ry
 .rw[iN e,iN e];exact Paired.snoc r ⟨rfl,ry⟩
theorem KV.length {aC:List (κ×V)} {vs:List (κ×Value)} (r:KV aC vs):aC.length=vs.length:=Paired.length r
end
theorem mf {P:Program} {w:World} {k:Key} {u:Value} (r:RelV (kV k) u):(bw P w).is k u=true:=by
 cases k with
 |inl i=>obtain⟨t,e⟩:=(show∃t,u=Value.int i t from r);subst e;exact tV P w i t
 |inr x=>obtain⟨t,e⟩:=(show∃t,u=Value.str x t from r);subst e;exact tU P w x t
theorem o8 {P:Program} {w:World}:∀{ks:List Key} {us:List Value},Vals (ks.map kV) us->ItemsAre (bw P w) ks us
 |[],_,r=>by rw[DD]at r;cases r;exact .nil
 |k::ks,_,r=>by
  rw[AI]at r;cases r with
  |cons h t=>exact .cons (mf h) (o8 t)
abbrev KT (H:Hp):List (List Key×V)->List (List Key×Addr×Value)->Prop:=Paired λp q=>p.1=q.1/\H q.2.1=some (.tup (p.1.map kV))/\RelV p.2 q.2.2
theorem KT.val {H:Hp} {aC:List (List Key×V)} {xs:List (List Key×Addr×Value)} (r:KT H aC xs) (k:List Key):fQ (cS aC k) ((atKey xs k).map (·.2)):=by
 induction r with
 |nil=>exact E9
 |@cons p q ps qs h t ih=>
  obtain⟨h1,_,h2⟩:=h
  by_cases e:p.1=k
  .have e':q.1=k:=h1.symm.trans e;have b:atKey (q::qs) k=some q.2:=by simp[atKey,CY,e']
   rw[fD e,b];exact h2
  .have e':¬q.1=k:=λz=>e (h1.trans z);have b:atKey (q::qs) k=atKey qs k:=by simp[atKey,CY,e']
   rw[cT e,b];exact ih
theorem KT.Lm {H:Hp} {aC:List (List Key×V)} {xs:List (List Key×Addr×Value)} (r:KT H aC xs) (k:List Key) {y:V} {u:Value} (ry:RelV y u):
  KT H (aC.map λkv=>if kv.1=k then(kv.1,y)else kv) (xs.map (putAt k u)):=by
 induction r with
 |nil=>exact .nil
 |@cons p q ps qs h t ih=>
  rw[AI,AI];apply .cons ?_ ih;obtain⟨h1,h2,h3⟩:=h;unfold putAt
  by_cases e:p.1=k
  .rw[iP e,iP (h1.symm.trans e)];exact⟨h1,h2,ry⟩
  .rw[iN e,iN (λz=>e (h1.trans z))];exact⟨h1,h2,h3⟩
theorem KT.put {H:Hp} {aC:List (List Key×V)} {xs:List (List Key×Addr×Value)} (r:KT H aC xs) (k:List Key) {b:Addr} {y:V} {u:Value} (hb:H b=some (.tup (k.map kV))) (ry:RelV y u):
  KT H (putK aC k y) (storedH xs k b u):=by
 have e:(aC.any λkv=>decide (kv.1=k))=(atKey xs k).isSome:=by
  rw[mI, (r.val k).gW,FQ]
 unfold putK storedH;rw[e]
 by_cases q:(atKey xs k).isSome=true
 .rw[iP q,iP q];exact r.Lm k ry
 .rw[iN q,iN q];exact Paired.snoc r ⟨rfl,hb,ry⟩
theorem KT.keeps {H H':Hp} {aC:List (List Key×V)} {xs:List (List Key×Addr×Value)} (r:KT H aC xs) (ht:∀b ys,H b=some (.tup ys)->H' b=some (.tup ys)):KT H' aC xs:=
 Paired.Lr r λ_ _ z=>⟨z.1,ht _ _ z.2.1,z.2.2⟩
section
variable{P:Program} {w:World} {H:Hp} {h:Heap} {a:Addr}
theorem Ka {u:HO} (ok:iS P w H h) (e:Rd H a u):cf P w H h a u:=e.ok ok
theorem wb {aC:List (Key×V)} (ok:iS P w H h) (e:Rd H a (.dK aC)):aC.length<=sizeLine/\(a==sysModules)=false/\∃vs,KV aC vs/\h.DictOf (bw P w) a vs:=
 show cf P w H h a (.dK aC)from Ka ok e
theorem P4 {aC:List (Key×V)} (ok:iS P w H h) (e:H a=some (.dK aC)):aC.length<=sizeLine/\(a==sysModules)=false/\∃vs,KV aC vs/\h.DictOf (bw P w) a vs:=wb ok (.inl e)
theorem qb {ks:List Key} (ok:iS P w H h) (e:H a=some (.tup (ks.map kV))):(tupleKind (bw P w)).is h ks a:=by
 obtain⟨_,aP,r,o,h1,h2,n,h3⟩:=(show cf P w H h a (.tup (ks.map kV))from ok a _ e)
 exact⟨o,aP.toArray,n,h1,h2,h3,by simpa using o8 r⟩
theorem wa {aC:List (List Key×V)} (ok:iS P w H h) (e:Rd H a (.dT aC)):aC.length<=sizeLine/\(a==sysModules)=false/\
  ∃xs,KT H aC xs/\h.DictOfH (tupleKind (bw P w)) a xs:=by
 obtain⟨z,y,xs,r,o,es,ep,h1,h2,h3,h4,h5⟩:=(show cf P w H h a (.dT aC)from Ka ok e)
 apply⟨z,y,xs,r,o,es,ep,h1,h2,h3,h4,λx hx=>?_,h5⟩
 have all:∀{l:List (List Key×V)} {m:List (List Key×Addr×Value)},KT H l m->∀x∈m, (tupleKind (bw P w)).is h x.1 x.2.1:=by
  intro l m q
  induction q with
  |nil=>intro x hx;exact nomatch hx
  |@cons p q ps qs hq t ih=>
   intro x hx;rcases AG.mp hx with e|hx
   .subst e;exact qb ok (by rw[<-hq.1];exact hq.2.1)
   .exact ih x hx
 exact all r x hx
theorem P2 {aC:List (List Key×V)} (ok:iS P w H h) (e:H a=some (.dT aC)):aC.length<=sizeLine/\(a==sysModules)=false/\
  ∃xs,KT H aC xs/\h.DictOfH (tupleKind (bw P w)) a xs:=wa ok (.inl e)
end
def lx (H:Hp) (a:Addr) (y:V) (r:Option V):Prop:=
 (∃aC k,Rd H a (.dK aC)/\y=kV k/\r=cS aC k)\/∃aC k b,Rd H a (.dT aC)/\y= .ref b/\H b=some (.tup (k.map kV))/\r=cS aC k
def xK (H:Hp) (a:Addr) (y v:V) (H':Hp):Prop:=
 (∃aC k,H a=some (.dK aC)/\y=kV k/\aC.length<sizeLine/\H'=upd H a (.dK (putK aC k v)))\/
 ∃aC k b,H a=some (.dT aC)/\y= .ref b/\H b=some (.tup (k.map kV))/\aC.length<sizeLine/\H'=upd H a (.dT (putK aC k v))
theorem lx.t {H:Hp} {a b:Addr} {aC:List (List Key×V)} {k:List Key} (e:H a=some (.dT aC)) (eb:H b=some (.tup (k.map kV))):lx H a (.ref b) (cS aC k):= .inr ⟨aC,k,b,.inl e,rfl,eb,rfl⟩
theorem xK.t {H:Hp} {a b:Addr} {aC:List (List Key×V)} {k:List Key} {v:V} (e:H a=some (.dT aC)) (eb:H b=some (.tup (k.map kV))) (hl:aC.length<sizeLine):
  xK H a (.ref b) v (upd H a (.dT (putK aC k v))):= .inr ⟨aC,k,b,e,rfl,eb,hl,rfl⟩
section
variable{X:Cx} {pins:List (Addr×Obj)} {σ:St} {H:Hp} {s:Shared} {a:Addr} {y v:V} {u r:Value} {o:Option V} {A:Around} {E:Value->Shared->Prop}
theorem Inv.big (I:Inv X pins σ H s):sysModules<s.heap.objs.size:=by
 have h:mainGlobals<s.heap.objs.size:=(I.mod.glob.keeps I.bk).lt;exact JU nofun h
theorem d_getItem {Q:Value->Shared->Prop} (hu:A.units+1<cLine) (I:Inv X pins σ H s) (g:lx H a y (some v)) (ry:RelV y u) (h:∀w' s',Inv X pins σ H s'->RelV v w'->Q w' s'):
  wpAny (model X.prog X.w) A (getItem (.ref a) u) Q E s:=by
 rcases g with⟨aC,k,e,ey,l⟩|⟨aC,k,b,e,ey,eb,l⟩
 .subst ey;obtain⟨z,hd,vs,rel,dd⟩:=wb I.b8 e;obtain⟨w',hw,y4⟩:=fQ.some_of (v:=v) (o:=valueAt vs k) (by rw[l];exact rel.val k);exact wpAny_getItem_of (mf ry) dd.mapOf hw (h w' _ (I.tok _) y4)
 .subst ey;cases(show u=Value.ref b from ry);obtain⟨z,hd,xs,rel,dd⟩:=wa I.b8 e;obtain⟨w',hw,y4⟩:=fQ.some_of (v:=v) (o:=(atKey xs k).map (·.2)) (by rw[l];exact rel.val k);obtain⟨p,hp,eK⟩:=GB.mp hw;apply wpAny_getItem_heap (tupleKind_room_in1 hu) (qb I.b8 eb) dd hp ?_;rw[eK];exact h w' _ (I.tok _) y4
theorem d_notIn {Q:Value->Shared->Prop} (hu:A.units+1<cLine) (I:Inv X pins σ H s) (g:lx H a y o) (ry:RelV y u) (h:∀s',Inv X pins σ H s'->Q (.bool (!o.isSome)) s'):
  wpAny (model X.prog X.w) A (compareOp .NotIn u (.ref a)) Q E s:=by
 rcases g with⟨aC,k,e,ey,l⟩|⟨aC,k,b,e,ey,eb,l⟩
 .subst ey;obtain⟨z,hd,vs,rel,dd⟩:=wb I.b8 e;apply wpAny_notIn_of (mf ry) hd dd.mapOf ?_;rw[<-(rel.val k).gW,<-l];exact h _ (I.tok _)
 .subst ey;cases(show u=Value.ref b from ry);obtain⟨z,hd,xs,rel,dd⟩:=wa I.b8 e;apply wpAny_notIn_heap (tupleKind_room_in1 hu) (qb I.b8 eb) hd dd ?_;have q:=(rel.val k).gW;rw[FQ]at q;rw[<-q,<-l];exact h _ (I.tok _)
theorem d_write {h':Heap} {t':Nat} {ob:HO} (I:Inv X pins σ H s) (mu:Fm (H a)) (hs:Heap.SameBut a s.heap h') (he:∃q,h'.get? a=some q) (new:cf X.prog X.w (upd H a ob) h' a ob):
  Inv X pins σ (upd H a ob) {s with heap:=h',toks:=t'}:=
 I.write (x:=a) (e:=a) mu (.inl rfl) (λb q hb z=>(hs.2 b hb).trans z) he new
theorem MK {P:Program} {w:World} {H':Hp} {h':Heap} {aC:List (Key×V)} {vs:List (Key×Value)} (z:aC.length<=sizeLine) (hd:(a==sysModules)=false) (rel:KV aC vs) (dd:h'.DictOf (bw P w) a vs):
  cf P w H' h' a (.dK aC):=⟨z,hd,vs,rel,dd⟩
theorem d_setItem {H':Hp} {Q:Unit->Shared->Prop} (hu:A.units+1<cLine) (I:Inv X pins σ H s) (g:xK H a y v H') (ry:RelV y u) (rv:RelV v r) (h:∀s',Inv X pins σ H' s'->Q () s'):
  wpAny (model X.prog X.w) A (setItem (.ref a) u r) Q E s:=by
 rcases g with⟨aC,k,e,ey,l,eH⟩|⟨aC,k,b,e,ey,eb,l,eH⟩
 .subst ey eH;obtain⟨z,hd,vs,rel,dd⟩:=P4 I.b8 e;have hz:vs.length<=sizeLine:=by rw[<-rel.length];exact z
  have hl:(putK aC k v).length<=sizeLine:=by have:=kK aC k v;nofun
  apply wpAny_setItem_pairs (hsz:=hz) (mf ry) dd λh' Rg hs=>h _ ?_;have he:∃q,h'.get? a=some q:=let⟨q,_,_,hq,_⟩:=Rg; ⟨q,hq⟩;exact d_write I (by rw[e];exact E9) hs he (MK hl hd (rel.put k rv) Rg)
 .subst ey eH;cases(show u=Value.ref b from ry);obtain⟨z,hd,xs,rel,dd⟩:=P2 I.b8 e;have hz:xs.length<=sizeLine:=by rw[<-Paired.length rel];exact z
  have hl:(putK aC k v).length<=sizeLine:=by have:=kK aC k v;nofun
  apply wpAny_setItem_heap (hsz:=hz) (tupleKind_room_in1 hu) (qb I.b8 eb) dd λh' Rg hs=>h _ ?_;obtain⟨q,es,ep,hq,h2,h3,h4,_,h5⟩:=Rg;apply d_write I (by rw[e];exact E9) hs ⟨q,hq⟩ ⟨hl,hd,_, (rel.put k eb rv).keeps λc ys ec=>?_,q,es,ep,hq,h2,h3,h4,h5⟩;rw[ae (aE ec e (λz=>nomatch z))];exact ec
end
section
variable{X:Cx} {pins:List (Addr×Obj)} {σ:St} {H:Hp} {s:Shared} {a:Addr} {aC:List (Key×V)} {k:Key} {u:Value} {A:Around} {E:Value->Shared->Prop}
end
def LX (i:Expr):Prop:=∀ov iv,subscripted i false ov iv=operate [ov,iv] (getItem ov iv)
theorem wC {prog:Program} {w:World} {A:Around} {E:Value->Shared->Prop} {s:Shared} {env:Env} {value slice:Expr} {pos:Pos} {T id:String} {Q:Value->Shared->Prop}
  (hl:typeLookup (.type T) "__getitem__"=pure (some (.builtin id))) (hs:LX slice)
  (h:wpAny (model prog w) A (eval value env) (λo s₁=>wpAny (model prog w) A (eval slice env) (λi s₂=>s₂.TypeIs o T/\wpAny (model prog w) A (getItem o i) Q E s₂) E s₁) E s):
  wpAny (model prog w) A (eval (.Subscript value slice pos) env) Q E s:=by
 apply Subscript_ (wpAny_mono h (λo s₁ h₁=>wpAny_mono h₁ (λi s₂ h₂=>?_) λ_ _ x=>x) λ_ _ x=>x);obtain⟨hT,h₂⟩:=h₂;unfold subscriptTail;apply wpAny_bind ?_;rw[getitemInPython_of_ne hT.not_modules];apply wpAny_bind (wpAny_specialOf hT hl ?_)
 have fin:wpAny (model prog w) A (subscripted slice false o i) (λr s₃=>wpAny (model prog w) A (letTemporaryGo value o r>>=λ_=>pure r) Q E s₃) E s₂:=by
  rw[hs o i];exact wpAny_operating (wpAny_mono h₂ (λr s₃ h₃=>wpAny_bind (wpAny_letTemporaryGo (wpAny_pure h₃))) λ_ _ x=>x)
 first
  |exact wpAny_pure (wpAny_bind fin)
  |exact wpAny_bind (wpAny_pure (wpAny_bind fin))
  |exact wpAny_bind fin
theorem t4 {X:Cx} {pins:List (Addr×Obj)} {σ:St} {H:Hp} {s:Shared} {a:Addr} {y:V} {o:Option V} (I:Inv X pins σ H s) (g:lx H a y o):s.TypeIs (.ref a) "dict":=by
 rcases g with⟨aC,k,e,_,_⟩|⟨aC,k,b,e,_,_,_⟩
 .obtain⟨_,_,vs,_,dd⟩:=wb I.b8 e;exact dd.typeIs
 .obtain⟨_,_,xs,_,dd⟩:=wa I.b8 e;exact dd.typeIs
def Pn (td ty:TE):TE:=λσ H Q=>td σ H λx H1=>ty σ H1 λy H2=>∃a v,x= .ref a/\lx H2 a y (some v)/\Q v H2
def Gs (ty td:TE):TE:=λσ H Q=>ty σ H λy H1=>td σ H1 λx H2=>∃a o,x= .ref a/\lx H2 a y o/\Q (.bl (!o.isSome)) H2
def Po (td ty tv:TE):TS:=λD σ H=>tv σ H λv H1=>td σ H1 λx H2=>ty σ H2 λy H3=>∃a H4,x= .ref a/\xK H3 a y v H4/\D.nx σ H4
section
variable{X:Cx} {o i e value:Expr} {pos pos' S4:Pos} {td ty tv:TE}
theorem qu (hu:X.A.units+1<cLine) (ho:PE X o td) (hi:PE X i ty) (hs:LX i):PE X (.Subscript o i pos) (Pn td ty):=by
 intro pins s σ H Q I h;apply wC FF.lookup hs (bM (ho pins s σ H _ I h) λu s1 ⟨x,H1,I1,rx,q1⟩=>bM (hi pins s1 σ H1 _ I1 q1) λiv s2 ⟨y,H2,I2,ry,a,v,ex,g,q2⟩=>?_);subst ex;obtain rfl:u=Value.ref a:=rx;exact⟨t4 I2 g,d_getItem hu I2 g ry λw' s3 I3 y4=>⟨v,H2,I3,y4,q2⟩⟩
theorem oY (hu:X.A.units+1<cLine) (hi:PE X i ty) (ho:PE X o td):PC X .NotIn i o (Gs ty td):=by
 intro pins s σ H Q I h;apply bM (hi pins s σ H _ I h) λiv s1 ⟨y,H1,I1,ry,q1⟩=>bM (ho pins s1 σ H1 _ I1 q1) λu s2 ⟨x,H2,I2,rx,a,ov,ex,g,q2⟩=>?_;subst ex;obtain rfl:u=Value.ref a:=rx;exact d_notIn hu I2 g ry λs3 I3=>⟨.bl (!ov.isSome),H2,I3,rfl,q2⟩
theorem wN (hu:X.A.units+1<cLine) (ho:PE X o td) (hi:PE X i ty) (hv:PE X value tv) (hs:swapsWith value (some (.Subscript o i pos')) pos.line X.env=pure false):
  PS X (.Assign [.Subscript o i pos'] value pos) (Po td ty tv):=by
 intro pins s σ H D I h;apply wpAny_Assign_Subscript (bM (hv pins s σ H _ I h) λr s1 ⟨v,H1,I1,rv,q1⟩=>bM (ho pins s1 σ H1 _ I1 q1) λu s2 ⟨x,H2,I2,rx,q2⟩=>bM (hi pins s2 σ H2 _ I2 q2) λiv s3 ⟨y,H3,I3,ry,a,H4,ex,g,q3⟩=>?_) hs;subst ex;obtain rfl:u=Value.ref a:=rx;exact d_setItem hu I3 g ry rv λs4 I4=>⟨σ,H4,I4,q3⟩
end
theorem Cy {P:Program} {w:World} {H:Hp} (h:Heap) (hb:sysModules<h.objs.size):cf P w H (h.push {cls:= .type "dict",data:= .dict #[]}) h.objs.size (.dT []):=
 ⟨A0 _,beq_eq_false_iff_ne.mpr (G3 (B9 hb)), [],.nil,_,#[],0,Heap.get?_push_size _ rfl, ⟨rfl,rfl,rfl⟩,rfl,rfl,EG⟩
def Ma:TE:=λ_ H Q=>∀p,H p=none->Q (.ref p) (upd H p (.dT []))
section
variable{X:Cx} {pos:Pos}
theorem sG:PE X (.Dict [] [] pos) Ma:=λpins s σ H Q I h=>
 wpAny_Dict_empty ⟨.ref s.heap.objs.size,_,I.laid (a:=s.heap.objs.size) (o:= .dT []) (t':=s.toks) (λ_ _ q=>Heap.get?_push_of_some _ q) (AE _) (Cy s.heap I.big),rfl,h _ (I.b8.fresh (AE _))⟩
end
structure M2 (X:Cx) (o:Expr) (m:Str) (apos:Pos) (e f:Expr) (fP:Pos):Prop where
 base:attributeBase o m X.env (eval o X.env)=eval o X.env
 cq:((backTo fP (starEach [e,f] X.env)).all (λx=>!x.1)&&(backToKw fP (keywordEach [] X.env)).all (λx=>x.1.isSome)
  &&decide (([e,f]:List Expr).length+([]:List Keyword).length+(if([]:List Keyword).isEmpty then 0 else 1)<30))=true
 line:(apos.endLine==fP.line)=true
 trees:backTo fP (starEach [e,f] X.env)=[(false,eval e X.env), (false,eval f X.env)]
section
variable{X:Cx} {pins:List (Addr×Obj)} {σ:St} {H:Hp} {s:Shared} {a:Addr} {y d:V} {u r:Value} {o:Option V} {A:Around} {E:Value->Shared->Prop}
end
section
variable{X:Cx} {o e f:Expr} {apos fP:Pos} {td ty tx:TE}
end
section
variable{X:Cx} {pins:List (Addr×Obj)} {σ:St} {H:Hp} {s:Shared} {a:Addr} {aC:List (Key×V)} {A:Around} {E:Value->Shared->Prop}
end
section
variable{X:Cx} {pins:List (Addr×Obj)} {σ:St} {H:Hp} {s:Shared} {a:Addr} {y:V} {u:Value} {A:Around} {E:Value->Shared->Prop}
end
end L2
namespace L2
open PySem PySem.Spec PyProof.Rows
section
variable{prog:Program} {w:World} {A:Around} {E:Value->Shared->Prop}
end
section
variable{X:Cx}
end
end L2
namespace L2
open PySem PySem.Spec PyProof.Rows
section
variable{X:Cx} {pins:List (Addr×Obj)} {σ:St} {H:Hp} {s:Shared} {h':Heap}
theorem Inv.lock {d:Addr} {u:HO} (I:Inv X pins σ H s) (h:H d=some u) (mu:Fm (some u)):∃od,Inv X pins σ (upd H d (.eM od u)) s:=by
 have x:=I.b8 d u h
 have ex:∃od,s.heap.get? d=some od:=by
  cases u with
  |lst xs=>obtain⟨_,_,_,_,e⟩:=x;exact⟨_,e⟩
  |dK aC=>obtain⟨_,_,_,_,o,_,_,e,_⟩:=x;exact⟨o,e⟩
  |dT aC=>obtain⟨_,_,_,_,o,_,_,e,_⟩:=x;exact⟨o,e⟩
  |set S n=>obtain⟨o,_,_,_,e,_⟩:=x;exact⟨o,e⟩
  |ins C dx fs=>obtain⟨_,_,_,e,_⟩:=x;exact⟨_,e⟩
  |ext φ=>obtain⟨_, ⟨_,e⟩,_⟩:=x;exact⟨_,e⟩
  |_=>exact CG mu
 obtain⟨od,e⟩:=ex
 have new:cf X.prog X.w (upd H d (.eM od u)) s.heap d (.eM od u):=by
  apply⟨e,x.lY (λb v _ q=>q) (λb q=>?_) λb xs q=>?_⟩
  .rw[ae (λz=>by rw[z,h]at q;cases q;exact mu)];exact q
  .rw[ae (λz=>by rw[z,h]at q;cases q;exact mu)];exact q
 exact⟨od,I.write (x:=d) (e:=d) (t':=s.toks) (h':=s.heap) (by rw[h];exact mu) (.inl rfl) (λb v _ q=>q) ⟨od,e⟩ new⟩
theorem Inv.rQ {d:Addr} {u:HO} (I:Inv X pins σ H s) (h:H d=some u) (mu:Fm (some u)):∀o' u',X.H₀ d≠some (.eM o' u'):=λo' u' e=>by
 have q:=I.base.l7 d o' u' e;rw[h]at q;cases q;exact mu
theorem Inv.unlock {d:Addr} {od:Obj} {u:HO} (I:Inv X pins σ H s) (h:H d=some (.eM od u)) (hn:∀o' u',X.H₀ d≠some (.eM o' u')):Inv X pins σ (upd H d u) s:=by
 have M3:∀b o,H b=some o->(∀o' u',o≠.eM o' u')->b≠d:=λb o e dF z=>by
  rw[z,h]at e;cases e;exact dF _ _ rfl
 have neN:∀b,H b=none->b≠d:=λb e z=>by rw[z,h]at e;cases e
 apply⟨I.ok,I.os,I.bare, ⟨I.base.keep,I.base.slot,λb o e n hx=>?_,I.base.there,λb xs e=>?_,λb o x e=>?_,λb ps e=>?_⟩,I.loc,I.cell,?_,λx c e=>?_,λp hp=>?_,λb o e=>?_,I.len⟩
 .rw[ae (neN b (I.base.free b o e n hx))];exact I.base.free b o e n hx
 .have q:=I.base.pP b xs e;rw[ae (M3 b _ q (λ_ _ z=>nomatch z))];exact q
 .have q:=I.base.l7 b o x e;rw[ae (λz=>by rw[z]at e;exact hn _ _ e)];exact q
 .obtain⟨m,q⟩:=I.base.pQ b ps e;exact⟨m,by rw[ae (M3 b _ q (λ_ _ z=>nomatch z))];exact q⟩
 .rw[ae (neN _ I.free)];exact I.free
 .rw[ae (neN c (I.fA x c e))];exact I.fA x c e
 .obtain⟨e,n,r⟩:=I.pin p hp;exact⟨e,by rw[ae (neN _ n)];exact n,r⟩
 .by_cases hb:b=d
  .rw[hb,aa]at e;cases e;rw[hb];obtain⟨_,x⟩:=I.b8 d _ h;exact x.lY (λc v _ q=>q) (λc q=>by rw[ae (M3 c _ q (λ_ _ z=>nomatch z))];exact q) λc xs q=>by rw[ae (M3 c _ q (λ_ _ z=>nomatch z))];exact q
  .rw[ae hb]at e;exact(I.b8 b o e).lY (λc v _ q=>q) (λc q=>by rw[ae (M3 c _ q (λ_ _ z=>nomatch z))];exact q) λc xs q=>by rw[ae (M3 c _ q (λ_ _ z=>nomatch z))];exact q
end
def Pm (t:TS):TS:=λD σ H=>∃d u,H d=some u/\Fm (some u)/\∀od,t ⟨λσ' H'=>H' d=some (.eM od u)/\D.nx σ' (upd H' d u),λv H'=>H' d=some (.eM od u)/\D.rt v (upd H' d u),λσ' H'=>H' d=some (.eM od u)/\D.bk σ' (upd H' d u),λσ' H'=>H' d=some (.eM od u)/\D.ct σ' (upd H' d u)⟩ σ (upd H d (.eM od u))
def L9 (t:TE):TE:=λσ H Q=>∃d u,H d=some u/\Fm (some u)/\∀od,t σ (upd H d (.eM od u)) λv H'=>H' d=some (.eM od u)/\Q v (upd H' d u)
section
variable{X:Cx}
theorem wM {st:Stmt} {t:TS} (h:PS X st t):PS X st (Pm t):=by
 intro pins s σ H D I hw;obtain⟨d,u,hd,mu,hw⟩:=hw;obtain⟨od,I1⟩:=I.lock hd mu;apply bM (h pins s σ _ _ I1 (hw od)) λf s1 q=>?_;cases f with
 |next=>obtain⟨σ',H',I2,e,q⟩:=q;exact⟨σ',_,I2.unlock e (I.rQ hd mu),q⟩
 |brk=>obtain⟨σ',H',I2,e,q⟩:=q;exact⟨σ',_,I2.unlock e (I.rQ hd mu),q⟩
 |cont=>obtain⟨σ',H',I2,e,q⟩:=q;exact⟨σ',_,I2.unlock e (I.rQ hd mu),q⟩
 |ret v=>obtain⟨x,σ',H',I2,r,e,q⟩:=q;exact⟨x,σ',_,I2.unlock e (I.rQ hd mu),r,q⟩
theorem Hn {e:Expr} {t:TE} (h:PE X e t):PE X e (L9 t):=by
 intro pins s σ H Q I hw;obtain⟨d,u,hd,mu,hw⟩:=hw;obtain⟨od,I1⟩:=I.lock hd mu;apply bM (h pins s σ _ _ I1 (hw od)) λv s1 ⟨x,H1,I2,r,e2,q⟩=>?_;exact⟨x,_,I2.unlock e2 (I.rQ hd mu),r,q⟩
theorem uR {tg:Expr} {pins:List (Addr×Obj)} {σ:St} {H:Hp} {s:Shared} {R:It->Hp->Prop} {J:It} {tn:Nat->Heap->Prop} {tk:Nat} (I:Inv X pins σ H s) (o:Obj)
  (T:Turn X.prog X.w X.K tg J [s.heap.objs.size] s.heap.objs.size tn) (st:tn 0 (s.heap.push o)) (q:R J H):WH X pins σ tg R (.ref s.heap.objs.size) {s with heap:=s.heap.push o,toks:=tk}:=by
 apply⟨s.heap.objs.size, [s.heap.objs.size],tn,J,H,rfl,I.kept λb ob e=>Heap.get?_push_of_some _ e,T,st,λb hb=>?_,q⟩;have e:b=s.heap.objs.size:=by simpa using hb
 subst e;exact I.LL (AE _) (I.b8.fresh (AE _))
end
section
variable{X:Cx} {tg:Expr}
end
section
variable{X:Cx} {tg:Expr}
end
def Of (x:Str):It:=⟨λi _=>i<x.cps.size,λi H v H'=>H'=H/\∃c,x.cps[i]? =some c/\v= .str ⟨#[c]⟩,λi _=>x.cps.size<=i⟩
theorem sr {P:Program} {w:World} {K:AD} {tg:Expr} (it:Addr) (x:Str) (t:Tok) (ty:String) (Jb:ty="str_ascii_iterator"\/ty="str_iterator"):
  Turn P w K tg (Of x) [it] it (λi h=>h.IsStrIter it ty x t i) where
 mem:=by simp
 obj:=λi h st b hb=>by
  have e:b=it:=by simpa using hb
  subst e;obtain⟨o,e,c,d⟩:=st;exact⟨o,e,λv z=>by rw[d]at z;cases z⟩
 keep:=λi h h' st k=>let⟨o,ho,r⟩:=st; ⟨o,k it (by simp) o ho,r⟩
 item:=by
  intro X hP hw hK hc i pins s σ H E I hf st hg;subst hP hw hK;obtain⟨f0,f1,f2,f3,f4,f5⟩:=hf it (by simp)
  have W:Walks X.prog X.w X.A it [it] [it] x.cps.size (SignAt x) (λi h=>h.IsStrIter it ty x t i):=by
   rcases Jb with e|e
   .rw[e];exact Walks.strAscii (I.ok.hd hc) it x t
   .rw[e];exact Walks.strWide (I.ok.hd hc) it x t
  have f7:["enumerate","zip","dict_itemiterator","dict_reverseitemiterator","odict_iterator","itertools.zip_longest","itertools.pairwise"].contains ty=false:=by
   rcases Jb with e|e
   .rw[e];decide
   .rw[e];decide
  apply W.item i s _ _ hg st λv h' tk hv Iq kk=>?_;obtain⟨c,u,YM,rfl⟩:=hv;have I1:Inv X pins σ H {s with heap:=h',toks:=tk}:=I.turned (λb o hb e=>kk b o (by simpa using hb) e) f0 f1 f3 f4 f5;obtain⟨oi,e,cc,dd⟩:=id Iq;exact⟨_,rfl,z0 (s:={s with heap:=h',toks:=tk}) e cc dd f7 ⟨.str ⟨#[c]⟩,H,I1, ⟨u,rfl⟩, ⟨rfl,c,YM,rfl⟩,Iq,λb hb=>(hf b hb).1⟩⟩
 done:=by
  intro X hP hw hK hc i pins s σ H E I hf st hg;subst hP hw hK;obtain⟨f0,f1,f2,f3,f4,f5⟩:=hf it (by simp);have hx:x.cps[i]? =none:=GD hg;rcases Jb with e|e
  .rw[e]at st;exact wpAny_pyNext_ascii_end (I.ok.hd hc) st hx λh' eb=>⟨rfl,I.turned (t':=s.toks) (λb o hb e=>eb b o hb e) f0 f1 f3 f4 f5⟩
  .rw[e]at st;exact wpAny_pyNext_wide_end (I.ok.hd hc) st hx λh' eb=>⟨rfl,I.turned (t':=s.toks) (λb o hb e=>eb b o hb e) f0 f1 f3 f4 f5⟩
 self:=λA i s Q E st h=>by
  rcases Jb with e|e
  .rw[e]at st;exact wpAny_pyIter_striter_ascii st h
  .rw[e]at st;exact wpAny_pyIter_striter_wide st h
def Tz (te:TE):TI:=λσ H R=>te σ H λv H1=>∃x,v= .str x/\R (Of x) H1
theorem Ml {X:Cx} {tg e:Expr} {te:TE} (he:PE X e te):PI X tg e (Tz te):=by
 intro pins s σ H R I h;apply bM (he pins s σ H _ I h) λv s1 ⟨y,H1,I1,r1,x,ex,q⟩=>?_;subst ex;obtain⟨t,rfl⟩:=r1;cases ha:x.cps.all (·<128)
 .exact wpAny_pyIter_wide ha (uR (tk:=s1.toks) I1 _ (sr _ x t "str_iterator" (.inr rfl)) ⟨_,Heap.get?_push_size _ rfl,rfl,rfl⟩ q)
 .exact wpAny_pyIter_ascii ha (uR (tk:=s1.toks) I1 _ (sr _ x t "str_ascii_iterator" (.inl rfl)) ⟨_,Heap.get?_push_size _ rfl,rfl,rfl⟩ q)
section
variable{prog:Program} {w:World} {A:Around} {E:Value->Shared->Prop} {s:Shared}
theorem o7 {d:Addr} {o:Obj} {es:Array DictEntry} {ep:Nat} {Q:Value->Shared->Prop} (hd:(d==sysModules)=false) (ho:s.heap.get? d=some o) (hc:o.ExactDict) (n9:o.data= .dict es ep)
  (hQ:Q (.ref s.heap.objs.size) {s with heap:=s.heap.push {cls:= .type "dict_keyiterator",data:= .fields #[.ref d,.int 0 0,.int es.size 0,.int ep 0]}}):
  wpAny (model prog w) A (pyIter (.ref d)) Q E s:=by
 have hT:s.TypeIs (.ref d) "dict":=⟨o,ho,hc.1⟩
 apply wpAny_pyIter_slot hT F.slot_dict_iter (wpAny_call_entry F.slot_dict_iter hT F.entry_dict_iter ?_ (F.args_dict_iter_1 _));unfold Builtin.«dict.__iter__»;apply wpAny_bind ?_;unfold Builtin.Dict.dictSlotNone;apply wpAny_bind (wpAny_notOrdered_dict hT ?_);show wpAny _ _ (pure (Value.ref d)) _ _ s
 apply wpAny_pure ?_;show wpAny _ _ (Builtin.Dict.showsAll d>>=_) _ _ s
 unfold Builtin.Dict.showsAll;rw[iN (by rw[hd];exact AR)];apply wpAny_bind (wpAny_pure ?_);apply wpAny_bind (wpAny_dictEntries ho n9 ?_);apply wpAny_bind (wpAny_dictEpoch ho n9 ?_);apply wpAny_bind (wpAny_newObj_type (wpAny_pure ⟨_,rfl,"dict_keyiterator",_, ⟨_,Heap.get?_push_size _ rfl,rfl⟩,F.slot_dict_keyiterator_next.lookup,?_⟩));simpa [rawInt]using hQ
theorem ic {it d:Addr} {i n ep:Nat} {od:Obj} {es:Array DictEntry} {en:DictEntry} {Q:Option Value->Shared->Prop} (hit:s.heap.IsKeyIter it d i n ep) (Dy:s.heap.get? d=some od) (rq:od.data= .dict es ep)
  (hsz:es.size=n) (hx:es[i]? =some en) (hQ:∀h',h'.IsKeyIter it d (i+1) n ep->Heap.SameBut it s.heap h'->Q (some en.key) {s with heap:=h'}):wpAny (model prog w) A (pyNext (.ref it)) Q E s:=by
 obtain⟨o,ho,hc,hd⟩:=id hit;unfold pyNext
 apply wpAny_bind (wpAny_attempt (wpAny_callSpecial?_slot (name:=Str.ofString "__next__") hit.typeIs F.slot_dict_keyiterator_next
  (wpAny_call_entry F.slot_dict_keyiterator_next hit.typeIs F.entry_dict_keyiterator_next ?_ (F.args_dict_keyiterator_next_1 _))))
 apply wpAny_bind (wpAny_pure ?_);apply wpAny_bind ?_;apply wpAny_bind ?_
 first|apply wpAny_bind (wpAny_typeNameOfWhole_keyiter hit.typeIs (wpAny_pure ?_))|apply wpAny_bind (wpAny_typeNameOf_keyiter hit.typeIs (wpAny_pure ?_))
 apply wpAny_bind (wpAny_fieldsOf ho hd ?_);have LB:Builtin.Dict_items.ownsTuple "dict_keyiterator"=false:=by decide
 simp only[LB,BS,if_false];show wpAny _ _ (if(Value.ref d==Value.none)=true then _ else _) _ _ s
 rw[iN (show¬((Value.ref d==Value.none)=true)from AR)];apply wpAny_bind (wpAny_pure ?_);apply wpAny_bind (wpAny_dictEntries Dy rq ?_);rw[iN (by rw[hsz];simp)];apply wpAny_bind (wpAny_pure ?_);apply wpAny_bind (wpAny_dictEpoch Dy rq ?_);rw[iN (by simp)];apply wpAny_pure ?_;obtain⟨Ui,K0⟩:=Array.getElem?_eq_some_iff.mp hx;simp only[show¬((i:Int)<0)from by lia,if_false,FO,Array.getElem?_eq_getElem Ui];apply wpAny_bind ?_
 first|apply wpAny_bind (wpAny_typeNameOfWhole_keyiter hit.typeIs (wpAny_pure ?_))|apply wpAny_bind (wpAny_typeNameOf_keyiter hit.typeIs (wpAny_pure ?_))
 apply wpAny_bind (wpAny_isOneOf_keyiter hit.typeIs ?_);show wpAny _ _ (setField (.ref it) 1 (rawInt ((i:Int)+1))>>=_) _ _ s
 apply wpAny_bind (wpAny_setField ho hd (by simp) ?_)
 have Ge:(s.heap.update it (Obj.mapFields (·.setIfInBounds 1 (rawInt ((i:Int)+1))))).IsKeyIter it d (i+1) n ep:=
  ⟨_,Heap.get?_update_self _ ho (Obj.isFreed_of_fields (Obj.data_mapFields hd _)), (Obj.cls_mapFields ..).trans hc,by rw[Obj.data_mapFields hd];simp[rawInt]⟩
 apply wpAny_bind (wpAny_holding ?_);apply wpAny_bind (wpAny_isOneOf_keyiter (s:={s with heap:=s.heap.update it (Obj.mapFields (·.setIfInBounds 1 (rawInt ((i:Int)+1))))}) Ge.typeIs ?_);show wpAny _ _ (pure es[i].key) _ _ _
 rw[K0];exact wpAny_pure (wpAny_pure ⟨_,rfl,wpAny_pure (hQ _ Ge (Heap.SameBut.update ..))⟩)
theorem jx {it d:Addr} {i n ep:Nat} {od:Obj} {es:Array DictEntry} {Q:Option Value->Shared->Prop} (hh:A.handled=none) (hit:s.heap.IsKeyIter it d i n ep) (Dy:s.heap.get? d=some od) (rq:od.data= .dict es ep)
  (hsz:es.size=n) (NR:n<=i) (hQ:∀h',Heap.ExtBut it s.heap h'->Q none {s with heap:=h'}):wpAny (model prog w) A (pyNext (.ref it)) Q E s:=by
 obtain⟨o,ho,hc,hd⟩:=id hit;unfold pyNext
 apply wpAny_bind (wpAny_attempt (wpAny_callSpecial?_slot (name:=Str.ofString "__next__") hit.typeIs F.slot_dict_keyiterator_next
  (wpAny_call_entry F.slot_dict_keyiterator_next hit.typeIs F.entry_dict_keyiterator_next ?_ (F.args_dict_keyiterator_next_1 _))))
 apply wpAny_bind (wpAny_pure ?_);apply wpAny_bind ?_;apply wpAny_bind ?_
 first|apply wpAny_bind (wpAny_typeNameOfWhole_keyiter hit.typeIs (wpAny_pure ?_))|apply wpAny_bind (wpAny_typeNameOf_keyiter hit.typeIs (wpAny_pure ?_))
 apply wpAny_bind (wpAny_fieldsOf ho hd ?_);have LB:Builtin.Dict_items.ownsTuple "dict_keyiterator"=false:=by decide
 simp only[LB,BS,if_false];show wpAny _ _ (if(Value.ref d==Value.none)=true then _ else _) _ _ s
 rw[iN (show¬((Value.ref d==Value.none)=true)from AR)];apply wpAny_bind (wpAny_pure ?_);apply wpAny_bind (wpAny_dictEntries Dy rq ?_);rw[iN (by rw[hsz];simp)];apply wpAny_bind (wpAny_pure ?_);apply wpAny_bind (wpAny_dictEpoch Dy rq ?_);rw[iN (by simp)];apply wpAny_pure ?_;have Ul:es.size<=i:=by rw[hsz];exact NR
 simp only[show¬((i:Int)<0)from by omega,if_false,FO,GD Ul];apply wpAny_bind ?_
 first|apply wpAny_bind (wpAny_typeNameOfWhole_keyiter hit.typeIs (wpAny_pure ?_))|apply wpAny_bind (wpAny_typeNameOf_keyiter hit.typeIs (wpAny_pure ?_))
 show wpAny _ _ (setField (.ref it) 0 .none>>=_) _ _ s
 apply wpAny_bind (wpAny_setField ho hd (by simp) ?_);show wpAny _ _ (newExc (.type "StopIteration") []>>=_) _ _ _
 apply wpAny_bind ?_;simp only[newExc,newTuple];apply wpAny_bind (wpAny_newObj_type ?_ (by size_fits));apply wpAny_bind (m:=firstArgMember _ _) (wpAny_of_eq (a:=Value.none) (by first|rfl|(simp only[firstArgMember];rfl)) ?_);apply wpAny_newObj_type ?_ (by size_fits);simp only[raiseNew];apply wpAny_bind (wpAny_handled ?_);rw[show A.in1.handled=none from hh];apply wpAny_bind (wpAny_pure (wpAny_throw ?_));apply wpAny_bind (wpAny_isInstance (T:="StopIteration") (b:=true) ⟨_,Heap.get?_push_size _ rfl,rfl⟩ isSubtype_stop ?_);exact wpAny_pure (hQ _ (((Heap.SameBut.update ..).extBut.push _).push _))
end
theorem vt {α β:Type} {G:α->β->Prop} {l₁:List α} {l₂:List β} (h:Paired G l₁ l₂):∀{i:Nat} {a:α},l₁[i]? =some a->∃b,l₂[i]? =some b/\G a b:=by
 induction h with
 |nil=>intro i a e;simp at e
 |@cons a b l₁ l₂ r t ih=>
  intro i a' e;cases i with
  |zero=>
   simp only[List.getElem?_cons_zero,KJ]at e;subst e;exact⟨b,rfl,r⟩
  |succ j=>
   simp only[EA]at e ⊢;exact ih e
section
variable{X:Cx} {pins:List (Addr×Obj)} {σ:St} {H:Hp} {s:Shared} {d:Addr} {o:Obj}
theorem Inv.LK {aC:List (List Key×V)} (I:Inv X pins σ H s) (h:H d=some (.eM o (.dT aC))):
  (d==sysModules)=false/\s.heap.get? d=some o/\o.ExactDict/\∃(es:Array DictEntry) (ep:Nat),o.data= .dict es ep/\es.size=aC.length/\
   ∀(i:Nat) (k:List Key) (v:V),aC[i]? =some (k,v)->∃(en:DictEntry) (q:Addr),es[i]? =some en/\en.key= .ref q/\H q=some (.tup (k.map kV)):=by
 obtain⟨hd,z,hs,xs,pr,o',es,ep,ho,hx,Eb,he,_⟩:=I.b8 d _ h;rw[hd]at ho;cases ho;apply⟨hs,hd,hx,es,ep,Eb,?_,λi k v e=>?_⟩
 .have l1:es.size=xs.length:=size_of_entries he;have l2:aC.length=xs.length:=Paired.length pr;lia
 .obtain⟨b,hb,e1,e2,_⟩:=vt pr e;have q:=entry_at he i;rw[hb]at q;exact⟨_,b.2.1,q,rfl,e2⟩
end
def zJ (d:Addr) (o:Obj) (aC:List (List Key×V)):It:=
 ⟨λi H=>H d=some (.eM o (.dT aC))/\i<aC.length,λi H x H'=>H'=H/\∃(k:List Key) (v:V) (q:Addr),aC[i]? =some (k,v)/\x= .ref q/\H q=some (.tup (k.map kV)),λi H=>H d=some (.eM o (.dT aC))/\aC.length<=i⟩
theorem xb {o:Obj} {es Jo:Array DictEntry} {ep Jp:Nat} (h:o.data= .dict es ep) (h':o.data= .dict Jo Jp):Jo=es/\Jp=ep:=by
 rw[h]at h';cases h';exact⟨rfl,rfl⟩
section
variable{P:Program} {w:World} {K:AD} {tg:Expr} {d:Addr} {o:Obj} {es:Array DictEntry} {ep:Nat}
theorem vp {aC:List (List Key×V)} (it:Addr) (Dy:o.data= .dict es ep):Turn P w K tg (zJ d o aC) [it] it (λi h=>h.IsKeyIter it d i aC.length ep) where
 mem:=by simp
 obj:=λi h st b hb=>by
  have e:b=it:=by simpa using hb
  subst e;obtain⟨oi,e,c,dd⟩:=st;exact⟨oi,e,λv z=>by rw[dd]at z;cases z⟩
 keep:=λi h h' st k=>st.at λoi e=>k it (by simp) oi e
 item:=by
  intro X hP hw hK hc i pins s σ H E I hf st hg;subst hP hw hK;obtain⟨hd,hi⟩:=hg;obtain⟨f0,f1,f2,f3,f4,f5⟩:=hf it (by simp);obtain⟨hs,NS,hx,Jo,Jp,Eb,hsz,ent⟩:=I.LK hd;obtain⟨rfl,rfl⟩:=xb Dy Eb;obtain⟨⟨k,v⟩,yS⟩:∃p,aC[i]? =some p:=⟨aC[i],AN hi⟩
  obtain⟨en,q,K0,LD,hq⟩:=ent i k v yS;apply ic st NS Eb hsz K0 λh' Iq sb=>?_;have I1:Inv X pins σ H {s with heap:=h'}:=I.turned (t':=s.toks) (λb ob hb e=>(sb.2 b hb).trans e) f0 f1 f3 f4 f5;obtain⟨oi,e,c,dd⟩:=id Iq;exact⟨en.key,rfl,z0 (s:={s with heap:=h'}) e c dd nofun ⟨.ref q,H,I1,LD, ⟨rfl,k,v,q,yS,rfl,hq⟩,Iq,λb hb=>(hf b hb).1⟩⟩
 done:=by
  intro X hP hw hK hc i pins s σ H E I hf st hg;subst hP hw hK;obtain⟨hd,hi⟩:=hg;obtain⟨f0,f1,f2,f3,f4,f5⟩:=hf it (by simp);obtain⟨hs,NS,hx,Jo,Jp,Eb,hsz,ent⟩:=I.LK hd;obtain⟨rfl,rfl⟩:=xb Dy Eb;exact jx (I.ok.hd hc) st NS Eb hsz hi λh' eb=>⟨rfl,I.turned (t':=s.toks) (λb ob hb e=>eb b ob hb e) f0 f1 f3 f4 f5⟩
 self:=λA i s Q E st h=>by
  apply wpAny_pyIter_slot st.typeIs F.slot_dict_keyiterator_iter (wpAny_call_entry F.slot_dict_keyiterator_iter st.typeIs F.entry_dict_keyiterator_iter ?_ (F.args_dict_keyiterator_iter_1 _));show wpAny _ _ (ret (.ref it)) _ _ s
  exact wpAny_pure ⟨_,rfl,"dict_keyiterator",_,st.typeIs,F.slot_dict_keyiterator_next.lookup,h⟩
end
section
variable{X:Cx} {tg e:Expr} {td:TE} {apos fP:Pos}
end
end L2
section
namespace UW
open PySem PyProof.Rows
end UW
end
section
namespace TL
open PySem PySem.Builtin PySem.Builtin.Str PySem.StrLaws
abbrev tl (x:Str):List Nat:=x.cps.toList
theorem mD (x:Str):x.length=(tl x).length:=by simp[tl,Str.length]
theorem uX {x y:Str} (h:tl x=tl y):x=y:=Str.ext' (Array.toList_inj.mp h)
theorem gS (x y:Str):tl (x++y)=tl x++tl y:=by
 show(x++y).cps.toList=_
 rw[Str.cps_append,Array.toList_append]
theorem fc (s:String):tl (Str.ofString s)=s.toList.map HB:=IM s
def hW (S:List Nat):List (List Nat)->List Nat
 |[]=>[]
 |[p]=>p
 |p::q::r=>p++(S++hW S (q::r))
theorem qk (y:Str):∀parts:List Str,tl (Str.join y parts)=hW (tl y) (parts.map tl)
 |[]=>rfl
 |[_]=>rfl
 |x::z::r=>by
  show tl (x++y++Str.join y (z::r))=tl x++(tl y++hW (tl y) ((z::r).map tl))
  rw[gS,gS,qk y (z::r),AZ]
theorem join_eq (y:Str) (parts:List Str):Txt.join y parts=Str.join y parts:=glued_eq_join y parts
def dv (n:Nat):List Nat:=(EH 10 n).map HB
theorem uJ (n:Nat):tl (Str.ofString (toString ((n:Nat):Int)))=dv n:=J2 n
theorem ie:∀d:Nat,d<10->(G8 d).toNat=48+d:=by decide
theorem Hr {n:Nat} (h:n<10):dv n=[48+n]:=by
 unfold dv;rw[F5 h];show [(G8 n).toNat]=_
 rw[ie n h]
theorem yh {n:Nat} (h:10<=n):dv n=dv (n/10)++[48+n % 10]:=by
 have hm:n % 10<10:=KA n nofun;have t:EH 10 (n/10)++EH 10 (n % 10)=EH 10 (10*(n/10)+n % 10):=Nat.toDigits_append_toDigits nofun (by lia) hm;rw[Nat.div_add_mod]at t;show(EH 10 n).map HB=_
 rw[<-t,AL,F5 hm];show(EH 10 (n/10)).map HB++[(G8 (n % 10)).toNat]=_
 rw[ie _ hm]<;>rfl
theorem tP (n:Nat):NumText.AllDigits (dv n):=by
 induction n using Nat.strongRecOn with
 |_ n ih=>
  by_cases h:n<10
  .rw[Hr h];intro c hc;rw[DO.mp hc];lia
  .rw[yh (by nofun)];intro c hc;rcases AU.mp hc with hc|hc
   .exact ih (n/10) (by lia) c hc
   .have hm:n % 10<10:=KA n nofun;rw[DO.mp hc];lia
theorem yi {n s:Nat} (h:s<48\/57<s):s∉dv n:=λhm=>by
 have r:=tP n s hm;lia
theorem sP (n:Nat):NumText.digitsVal (dv n)=n:=J5 n
theorem Ce {m n:Nat} (h:dv m=dv n):m=n:=by
 have e:=congrArg NumText.digitsVal h;rw[sP,sP]at e;exact e
theorem sQ {n k:Nat} (hk:0<k) (h:n<10 ^ k):(dv n).length<=k:=by
 have z:=HN (v:=(n:Int)) (by nofun) hk (by
  have e:((10:Int) ^ k)=((10 ^ k:Nat):Int):=by
   first
    |exact(Int.natCast_pow 10 k).symm
    |simp
  rw[e]
  first|exact Int.ofNat_lt.mpr h|omega)
 rw[mD,uJ]at z;exact z
end TL
end
namespace L2
open PySem PySem.Spec PyProof.Rows
theorem fZ:∀{ys:List Str} {us:List Value},Vals (ys.map V.str) us->StrsAre us ys
 |[],_,.nil=> .nil
 |y::ys,_,.cons r t=>by
  obtain⟨k,rfl⟩:=r;exact .cons y k (fZ t)
section
variable{X:Cx} {pins:List (Addr×Obj)} {σ:St} {H:Hp} {s:Shared} {Q:VK}
end
section
variable{X:Cx}
theorem Hu:Oe X "str.join" (λx xs H Q=>∃a p,∃ys:List Str,x= .str a/\xs=[.ref p]/\(aL X.K H p (ys.map V.str)\/bC X.K H p (ys.map V.str))/\
  (ys.map (·.length)).sum+ys.length*a.length<=16777216/\Q (.str (Txt.join a ys)) H):=by
 intro pins s σ H x xs v us Q I rx rs h;obtain⟨a,p,ys,rfl,rfl,hp,hz,h⟩:=h;obtain⟨t,rfl⟩:=rx;cases rs with
 |cons r1 rs=>
  cases rs;cases r1;rcases hp with hp|hp
  .obtain⟨aP,r, ⟨o,n,ho,hc,_,hd⟩,_⟩:=I.list hp;exact JV (items:=aP.toArray) ⟨o,ho,hc,n,hd⟩ (by rw[G5];exact fZ r) hz λt' k=>⟨.str _,H,I.tok k, ⟨t',rfl⟩,h⟩
  .obtain⟨aP,r,ht,_⟩:=I.tuple hp;exact JS (items:=aP.toArray) ht (by rw[G5];exact fZ r) hz λt' k=>⟨.str _,H,I.tok k, ⟨t',rfl⟩,h⟩
end
section
variable{X:Cx} {o e:Expr} {to te:TE}
def Rt (r:V->List V->Hp->VK->Prop) (to te:TE):TE:=λσ H Q=>to σ H λx H1=>Fl x λa=>te σ H1 λy H2=>r x [y] H2 Q
theorem Px {id:String} {name:Str} {apos pos:Pos} {r:V->List V->Hp->VK->Prop} (slot:Slot "str" name id) (ty:typeOf (.builtin id)=pure (.type "method_descriptor")) (rule:Oe X id r) (ho:PE X o to) (he:PE X e te)
  (hs:starEach [e] X.env=[(false,eval e X.env)]:=by rfl) (mq:attributeBase o name X.env (eval o X.env)=eval o X.env:=by rfl) (mm:(apos.endLine==pos.line)=true:=by rfl):
  PE X (.Call (.Attribute o name apos) [e] [] pos) (Rt r to te):=by
 intro pins s σ H Q I h;apply PySem.Call_method1 mq hs mm (bM (ho pins s σ H _ I h) λv s1 ⟨x,H1,I1,r1,q1⟩=>?_);obtain⟨a,rfl,q1⟩:=Fl.ex q1;obtain⟨t,rfl⟩:=_root_.id r1;apply⟨"str",_,F.plainAttrs_str,slot,ty,typeIs_str _ _ _, (λ_ e=>nomatch e),Calls.callWith_builtin rfl (Calls.evalArgs_plain (Calls.spliced_cons ?_))⟩;exact bM (he pins s1 σ H1 _ I1 q1) λu s2 ⟨y,H2,I2,r2,q2⟩=>Calls.spliced_nil (rule pins s2 σ H2 _ [y] _ [u] Q I2 r1 (.cons r2 .nil) q2)
theorem wQ {apos pos:Pos} (ho:PE X o to) (he:PE X e te) (hs:starEach [e] X.env=[(false,eval e X.env)]:=by rfl) (mq:attributeBase o "join" X.env (eval o X.env)=eval o X.env:=by rfl) (mm:(apos.endLine==pos.line)=true:=by rfl):
  PE X (.Call (.Attribute o "join" apos) [e] [] pos) (Rt (λx xs H Q=>∃a p,∃ys:List Str,x= .str a/\xs=[.ref p]/\(aL X.K H p (ys.map V.str)\/bC X.K H p (ys.map V.str))/\
   (ys.map (·.length)).sum+ys.length*a.length<=16777216/\Q (.str (Txt.join a ys)) H) to te):=
 Px F.slot_str_join F.type_str_join Hu ho he hs mq mm
end
end L2
namespace L2
open PySem PySem.Spec PyProof.Rows
section
variable{X:Cx}
end
end L2
namespace WK
open PySem PySem.W PySem.Calls PyProof.Rows
theorem lC {P:Params} {h:Heap}:∀(ns:List Int) (vs:List Value),WellAll P h vs (ns.map WData.int)->IntsAre vs ns:=by
 intro ns
 induction ns with
 |nil=>
  intro vs w;rw[DD]at w;cases w;exact .nil
 |cons n ns ih=>
  intro vs w;rw[AI]at w;cases w with
  |cons a b=>
   cases a;exact .cons _ _ (ih _ b)
section
variable{prog:Program} {w:World} {A:Around} {E:Value->Shared->Prop} {s:Shared} {K:Frag}
end
end WK
namespace L2
open PySem PySem.Spec PyProof.Rows
theorem oN:∀{vs:List Value} {ns:List Int},IntsAre vs ns->Vals (ns.map V.int) vs
 |_,_,.nil=> .nil
 |_,_,.cons n t h=> .cons ⟨t,rfl⟩ (oN h)
def LW (H:Hp):Prop:=∀b,H b=none\/∃o xs,H b=some (.eM o (.lst xs))
end L2
namespace L2
open PySem PySem.Spec PyProof.Rows
abbrev bJ {K:AD} {h:Heap} (_:K.In h):AD:=K
end L2
namespace L2
open PySem PySem.Spec PyProof.Rows
def inClass (s:Stmt) (j:Nat):Stmt:=match s with
 | .ClassDef _ _ _ body _ _ _ _ _ _ _=>body.getD j (.Pass ⟨0,0,0,0⟩)
 |_=> .Pass ⟨0,0,0,0⟩
def d7 (s:Stmt):Arguments:=match s with
 | .FunctionDef _ a _ _ _ _ _ _ _ _=>a
 |_=>{posonlyargs:=[],args:=[],vararg:=none,kwonlyargs:=[],kw_defaults:=[],kwarg:=none,defaults:=[]}
def dm (s:Stmt):List Stmt:=match s with
 | .FunctionDef _ _ b _ _ _ _ _ _ _=>b
 |_=>[]
def ai (s:Stmt):Scope:=match s with
 | .FunctionDef _ _ _ _ _ _ sc _ _ _=>sc
 |_=>{kind:= .function,names:=[],isGenerator:=false,isCoroutine:=false}
abbrev bO:Ei:=λ_ _ _ _ _ _=>False
abbrev E0:XK:=λ_ _ _=>False
theorem rP {X:Cx}:Passes bO X E0:=λ_ _ _ _ _ _ _ h=>h.elim
structure Eh (K:AD) (x qual:Str) (st:Stmt) (f:Addr) (fd:FuncData):Prop where
 ex:∃(oc:Value) (od:Option Addr) (kV doc pm:Value) (an:Option Addr) (gZ ct:Value) (Ir:Array (Option Value)),
  fd=CZ x qual (d7 st) (dm st) (ai st) .none kV doc pm an gZ ct/\K.lookup f=some ⟨oc,od,.func fd,Ir⟩/\GS K gZ qual=true
 kp:EE K (.ref f)=true
section
variable{P:Program} {w:World} {K:AD} {mg:Str->Option Value} {base:Heap}
theorem Eh.ok {x qual:Str} {st:Stmt} {f:Addr} {fd:FuncData} {N ps:List Str} {k:Nat} {sp:Sp} (F:Eh K x qual st f fd) (S:ar N ps (ai st)) (len:∀vs H Q E,sp vs H Q E->vs.length=ps.length)
  (rW:∀(gZ:Value) (A:Around) (outer:List Env) (s:Shared) (H:Hp) (vs:List V) (Q:VK) (E:XK),dJ k (A.deeper (envOfC qual (ai st) s.heap.objs.size f gZ))->sp vs H Q E->
   ∃t,vY (rL bO P w K mg base N qual (ai st) f gZ A outer s H E).M0 (dm st) t/\t {nx:=λ_ H'=>Q .aY H',rt:=Q} (start N vs) H):aI P w K mg base bO (k+1) f fd ps sp:=by
 obtain⟨oc,od,kV,doc,pm,an,gZ,ct,Ir,rfl,lk,nJ⟩:=F.ex;apply P0 lk nJ S len λA outer s H vs Q E hr rl=>?_;obtain⟨t,h,q⟩:=rW gZ A outer s H vs Q E hr rl;exact⟨t,h.M0,q⟩
theorem Eh.bW {x qual:Str} {st:Stmt} {f:Addr} {fd:FuncData} {N ps:List Str} {k:Nat} {sp:Sp} (F:Eh K x qual st f fd) (S:ar N ps (ai st))
  (hb:∀vs H Q E,sp vs H Q E->vs.length=ps.length/\∀(gZ:Value) (A:Around) (outer:List Env) (s:Shared),dJ k (A.deeper (envOfC qual (ai st) s.heap.objs.size f gZ))->
   ∃t,vY (rL bO P w K mg base N qual (ai st) f gZ A outer s H E).M0 (dm st) t/\t {nx:=λ_ H'=>Q .aY H',rt:=Q} (start N vs) H):aI P w K mg base bO (k+1) f fd ps sp:=
 F.ok S (λvs H Q E h=>(hb vs H Q E h).1) λgZ A outer s H vs Q E hr h=>(hb vs H Q E h).2 gZ A outer s hr
theorem Eh.binds {x qual:Str} {st:Stmt} {f:Addr} {fd:FuncData} {ps:List Str} (F:Eh K x qual st f fd)
  (h:∀(kV doc pm:Value) (an:Option Addr) (gZ ct:Value) (us:List Value),us.length=ps.length->bindArgs (CZ x qual (d7 st) (dm st) (ai st) .none kV doc pm an gZ ct) ⟨us, []⟩=pure (ps.zip us)):Binds K fd ps []:=by
 obtain⟨oc,od,kV,doc,pm,an,gZ,ct,Ir,rfl,lk,nJ⟩:=F.ex;exact .all (h kV doc pm an gZ ct)
theorem jL {x qual:Str} {st:Stmt} {f:Addr} {oc:Value} {od an:Option Addr} {Ir:Array (Option Value)} {kV doc pm gZ ct:Value} (l:K.lookup f=some ⟨oc,od,.func (CZ x qual (d7 st) (dm st) (ai st) .none kV doc pm an gZ ct),Ir⟩)
  (c:GS K gZ qual=true) (k:EE K (.ref f)=true):Eh K x qual st f (CZ x qual (d7 st) (dm st) (ai st) .none kV doc pm an gZ ct):=⟨⟨oc,od,kV,doc,pm,an,gZ,ct,Ir,rfl,l,c⟩,k⟩
end
theorem mi {A:Around} {k:Nat} (hr:dJ k A):A.units+1<cLine:=CL (Nat.add_le_add_left (by decide:1<=64) _) hr.units
section
variable{X:Cx}
theorem pv (i:Nat) {x:Str} {pos:Pos} (hN:X.N[i]? =some x:=by rfl) (hv:Nn X.env.scope x:=by first|exact CM rfl|exact KS (CM rfl)|exact KS (KS rfl)) (hd:(x==("__debug__":Str))=false:=by decide)
  (nJ:(x==("__classdict__":Str))=false:=by decide):PE X (.Name x pos) (lX i):=Mm hN hv hd nJ
end
theorem lq {c A B:Prop} [Decidable c] (h1:c->A) (h2:¬c->B):if c then A else B:=by
 by_cases h:c
 .rw[iP h];exact h1 h
 .rw[iN h];exact h2 h
def aj (H H':Hp):Prop:=∀b o,H b=some o->H' b=some o
theorem aj.refl (H:Hp):aj H H:=λ_ _ h=>h
theorem aj.trans {H H1 H2:Hp} (a:aj H H1) (b:aj H1 H2):aj H H2:=λc o h=>b c o (a c o h)
theorem aj.free {H H':Hp} (e:aj H H') {l:Addr} (h:H' l=J6):H l=J6:=by
 cases q:H l with
 |none=>rfl
 |some o=>
  rw[e l o q]at h;cases h
theorem aj.seq {K:AD} {H H':Hp} {a:Addr} {xs:List V} (e:aj H H') (h:aL K H a xs):aL K H' a xs:=by
 rcases h with(h|⟨o,h⟩)|h
 .exact .inl (.inl (e _ _ h))
 .exact .inl (.inr ⟨o,e _ _ h⟩)
 .exact .inr h
section
variable{κ:Type} [DecidableEq κ]
end
end L2
namespace An
open Rd27
theorem iG (k:Nat):decode k []=[]:=by cases k<;>rfl
theorem kW:∀(k:Nat) (r:List Nat),decode k r=decode 0 (r.drop k)
 |0,r=>by simp
 |k+1, []=>by simp[iG]
 |k+1,a::r=>by
  show decode k r=_
  rw[kW k r,BO]
def aK (a:Nat):Nat:=if a<128 then 1 else if 192<=a/\a<224 then 2 else if 224<=a/\a<240 then 3 else if 240<=a/\a<248 then 4 else 0
def fH:Nat->Int
 |2=>192
 |3=>224
 |4=>240
 |_=>0
def i8:Nat->Int
 |2=>128
 |3=>2048
 |4=>65536
 |_=>0
def fO (n:Int):Bool:=decide (0<=n)&&decide (n<=1114111)&&!(decide (55296<=n)&&decide (n<=57343))
def bH:Int->List Nat->Option Int
 |p, []=>some p
 |p,b::r=>if(b:Int)/64=2 then bH (p*64+(b:Int) % 64) r else none
def cB (s:List Nat) (n:Nat):Int:=
 if n=0\/s.length<n then-1 else
  match bH ((s.headD 0:Nat)-fH n) s.tail with
  |none=> -1
  |some p=>if p<i8 n\/fO p=false then-1 else p
theorem tZ (b:Nat):follows b=true↔(b:Int)/64=2:=by
 unfold follows;simp only[B6,decide_eq_true_eq];lia
theorem Cr (n:Int):fO n=true↔(0<=n/\n<=1114111/\¬(55296<=n/\n<=57343)):=by
 unfold fO;simp only[B6,decide_eq_true_eq,Bool.not_eq_true',Bool.and_eq_false_iff,decide_eq_false_iff_not];lia
theorem Ba (n:Int):fO n=false↔¬(0<=n/\n<=1114111/\¬(55296<=n/\n<=57343)):=by
 rw[<-Cr];cases fO n<;>simp
theorem cI (s:List Nat) (n:Nat) (h:s.length<n):cB s n= -1:=iP (.inr h)
theorem sp_no {s:List Nat} {n:Nat} (hn:¬(n=0\/s.length<n)) (h:bH ((s.headD 0:Nat)-fH n) s.tail=none):cB s n= -1:=by
 unfold cB;rw[iN hn,h]
theorem sp_yes {s:List Nat} {n:Nat} {p:Int} (hn:¬(n=0\/s.length<n)) (h:bH ((s.headD 0:Nat)-fH n) s.tail=some p):cB s n=if p<i8 n\/fO p=false then-1 else p:=by
 unfold cB;rw[iN hn,h]
theorem xu {b:Nat} {r:List Nat} {p:Int} (h:(b:Int)/64=2):bH p (b::r)=bH (p*64+(b:Int) % 64) r:=iP h
theorem MW {b:Nat} {r:List Nat} {p:Int} (h:¬(b:Int)/64=2):bH p (b::r)=none:=iN h
def Rx (p:Int) (n:Nat):Option (Nat×Nat):=if p<0 then none else some (p.toNat,n)
theorem nn {n:Nat}:¬(n+1=0\/n+1<n+1):=by simp
theorem xr {s:List Nat} {n:Nat} {C:Prop} {d:Decidable C} {v:Option (Nat×Nat)} (hC:¬C) (h:cB s n= -1):(if C then v else none)=Rx (cB s n) n:=by rw[h,iN hC];rfl
theorem my {C:Prop} {d:Decidable C} {c n L:Nat} {s:List Nat} {p:Int} (hn:¬(n=0\/s.length<n)) (h:bH ((s.headD 0:Nat)-fH n) s.tail=some p) (hl:i8 n=(L:Int)) (hp:p=(c:Int)) (hC:C↔L<=c/\c<=1114111/\¬(55296<=c/\c<=57343))
  :(if C then some (c,n)else none)=Rx (cB s n) n:=by
 rw[sp_yes hn h,hp,hl];have k:((c:Int)<L\/fO (c:Int)=false)↔¬C:=by rw[hC,Ba];omega
 by_cases h:C
 .rw[iP h,iN (λz=>k.mp z h)];exact(iN (Int.not_lt.mpr (Int.natCast_nonneg _))).symm
 .rw[iN h,iP (k.mpr h)];rfl
theorem Ni {x:Nat} (h:(x:Int)/64=2):x-128<64/\(x:Int) % 64=((x-128:Nat):Int):=by lia
theorem LP {a b:Nat} (h:b<=a):(a:Int)-(b:Int)=((a-b:Nat):Int):=(Int.natCast_sub h).symm
theorem i3 (u x y:Nat):(u*64+x)*64+y=u*4096+x*64+y:=by lia
theorem i4 (u x y z:Nat):((u*64+x)*64+y)*64+z=u*262144+x*4096+y*64+z:=by lia
theorem c2 {u x:Nat} (h:u<32) (hx:x<64):2<=u↔128<=u*64+x/\u*64+x<=1114111/\¬(55296<=u*64+x/\u*64+x<=57343):=by lia
theorem c3 {v:Nat} (h:v<=1114111):2048<=v/\(v<55296\/57344<=v)↔2048<=v/\v<=1114111/\¬(55296<=v/\v<=57343):=by lia
theorem c4 {v:Nat}:65536<=v/\v<1114112↔65536<=v/\v<=1114111/\¬(55296<=v/\v<=57343):=by lia
theorem tL (a:Nat) (r:List Nat):
  sequence (a::r)=if cB ((a::r).take (aK a)) (aK a)<0 then none else some ((cB ((a::r).take (aK a)) (aK a)).toNat,aK a):=by
 show _=Rx (cB ((a::r).take (aK a)) (aK a)) (aK a)
 unfold sequence;simp only[tZ]
 by_cases h1:a<128
 .rw[show aK a=1 from iP h1];apply(iP h1).trans ((iP trivial).symm.trans (my (C:=True) (d:=instDecidableTrue) (s:=[a]) (L:=0) (n:=1) nn rfl rfl (Int.sub_zero _) ?_));exact⟨λ_=>⟨A0 _,AY (E5 h1) nofun,λz=>GF.mpr (AY nofun z.1) h1⟩,λ_=>trivial⟩
 apply(iN h1).trans ?_
 by_cases h2:192<=a/\a<224
 .rw[show aK a=2 from(iN h1).trans (iP h2),iN (show¬(240<=a/\_)from λz=>GF.mpr (AY nofun z.1) h2.2),iN (show¬(224<=a/\_)from λz=>GF.mpr z.1 h2.2)]
  match r with
  |[]=>exact xr (λz=>absurd z.2.2 nofun) (cI _ _ (by simp))
  |x::r=>
   by_cases hx:(x:Int)/64=2
   .obtain⟨q2,q3⟩:=Ni hx;apply my (s:=[a,x]) (L:=128) nn (xu hx) rfl ?_ (Iff.trans ⟨λz=>?_,λz=>⟨?_,h2.2,hx⟩⟩ (c2 (u:=a-192) (x:=x-128) ?_ q2))
    .rw[q3];exact congrArg (λu:Int=>u*64+((x-128:Nat):Int)) (LP h2.1)
    .exact GV z.1
    .exact(Nat.le_sub_iff_add_le h2.1).mp z
    .exact FG h2.1 h2.2
   .exact xr (λz=>hx z.2.2) (sp_no nn (MW hx))
 rw[iN (show¬(194<=a/\_)from λz=>h2 ⟨AY nofun z.1,z.2.1⟩)]
 by_cases h3:224<=a/\a<240
 .rw[show aK a=3 from(iN h1).trans ((iN h2).trans (iP h3)),iN (show¬(240<=a/\_)from λz=>GF.mpr z.1 h3.2)]
  match r with
  |[]=>exact xr (λz=>absurd z.2.2.1 nofun) (cI _ _ (by simp))
  |[x]=>exact xr (λz=>absurd (show((0:Nat):Int)/64=2 from z.2.2.2) nofun) (cI _ _ (by simp))
  |x::y::r=>
   by_cases hx:(x:Int)/64=2
   .by_cases hy:(y:Int)/64=2
    .obtain⟨q2,q3⟩:=Ni hx;obtain⟨r2,r3⟩:=Ni hy;have b:a-224<16:=FG h3.1 h3.2;apply(iP ⟨h3.1,h3.2,hx,hy⟩).trans (my (s:=[a,x,y]) (L:=2048) nn ((xu hx).trans (xu hy)) rfl ?_ (c3 ?_))
     .rw[q3,r3,<-i3];exact congrArg (λu:Int=>(u*64+((x-128:Nat):Int))*64+((y-128:Nat):Int)) (LP h3.1)
     .show(a-224)*4096+(x-128)*64+(y-128)<=_
      clear h1 h2 h3 hx hy q3 r3;generalize a-224=a at*;generalize x-128=x at*;generalize y-128=y at*;lia
    .exact xr (λz=>hy z.2.2.2) (sp_no nn ((xu hx).trans (MW hy)))
   .exact xr (λz=>hx z.2.2.1) (sp_no nn (MW hx))
 rw[iN (show¬(224<=a/\_)from λz=>h3 ⟨z.1,z.2.1⟩)]
 by_cases h4:240<=a/\a<248
 .rw[show aK a=4 from(iN h1).trans ((iN h2).trans ((iN h3).trans (iP h4)))]
  match r with
  |[]=>exact xr (λz=>absurd z.2.2.1 nofun) (cI _ _ (by simp))
  |[x]=>exact xr (λz=>absurd (show((0:Nat):Int)/64=2 from z.2.2.2.1) nofun) (cI _ _ (by simp))
  |[x,y]=>exact xr (λz=>absurd (show((0:Nat):Int)/64=2 from z.2.2.2.2) nofun) (cI _ _ (by simp))
  |x::y::z::r=>
   by_cases hx:(x:Int)/64=2
   .by_cases hy:(y:Int)/64=2
    .by_cases hz:(z:Int)/64=2
     .obtain⟨q2,q3⟩:=Ni hx;obtain⟨r2,r3⟩:=Ni hy;obtain⟨s2,s3⟩:=Ni hz
      have hp:(((((a:Int)-240)*64+(x:Int) % 64)*64+(y:Int) % 64)*64+(z:Int) % 64)=(((a-240)*262144+(x-128)*4096+(y-128)*64+(z-128):Nat):Int):=by
       rw[q3,r3,s3,<-i4];exact congrArg (λu:Int=>((u*64+((x-128:Nat):Int))*64+((y-128:Nat):Int))*64+((z-128:Nat):Int)) (LP h4.1)
      by_cases h5:a<245
      .exact(iP ⟨h4.1,h5,hx,hy,hz⟩).trans (my (s:=[a,x,y,z]) (L:=65536) nn ((xu hx).trans ((xu hy).trans (xu hz))) rfl hp c4)
      .refine(iN λz=>h5 z.2.1).trans ((iN (λq:False=>q)).symm.trans (my (C:=False) (d:=instDecidableFalse) (s:=[a,x,y,z]) (L:=65536) nn ((xu hx).trans ((xu hy).trans (xu hz))) rfl hp ⟨CG,λ⟨_,k,_⟩=>?_⟩));have b:5<=a-240:=GV (GF.mp h5);clear h1 h2 h3 h4 h5 hx hy hz q3 r3 s3 hp q2 r2 s2;generalize a-240=a at*;generalize x-128=x at*;lia
     .exact xr (λq=>hz q.2.2.2.2) (sp_no nn ((xu hx).trans ((xu hy).trans (MW hz))))
    .exact xr (λq=>hy q.2.2.2.1) (sp_no nn ((xu hx).trans (MW hy)))
   .exact xr (λq=>hx q.2.2.1) (sp_no nn (MW hx))
 .rw[show aK a=0 from(iN h1).trans ((iN h2).trans ((iN h3).trans (iN h4)))];exact xr (λz=>h4 ⟨z.1,JU z.2.1 nofun⟩) rfl
theorem kU (a:Nat) (r:List Nat):decode 0 (a::r)=
  if cB ((a::r).take (aK a)) (aK a)<0 then 65533::decode 0 r
  else(cB ((a::r).take (aK a)) (aK a)).toNat::decode 0 ((a::r).drop (aK a)):=by
 have e:=tL a r
 by_cases h:cB ((a::r).take (aK a)) (aK a)<0
 .rw[iP h]at e ⊢
  show(match sequence (a::r)with
  |some x=>x.1::decode (x.2-1) r
  |none=>65533::decode 0 r)=_
  rw[e]
 .rw[iN h]at e ⊢
  show(match sequence (a::r)with
  |some x=>x.1::decode (x.2-1) r
  |none=>65533::decode 0 r)=_
  rw[e];show _::decode (aK a-1) r=_
  have h0:aK a≠0:=by
   intro z;rw[z]at h;simp[cB]at h
  obtain⟨k,hk⟩:∃k,aK a=k+1:=⟨aK a-1,by lia⟩
  rw[kW,hk];simp
theorem m8 {a:Nat} {s:List Nat} (h:¬cB s (aK a)<0):0<aK a:=by
 apply Nat.pos_of_ne_zero;intro z;rw[z]at h;simp[cB]at h
def plain1 (before:Int) (c:Nat):List Nat:=if c=13 then [10]else if c=0 then [65533]else if c≠10\/before≠13 then [c]else []
def aZ:Int->List Nat->List Nat
 |_, []=>[]
 |b,c::r=>plain1 b c++aZ c r
theorem jv:∀(n:Nat) (t:List Nat),t.length<=n->∀b:Int, (b≠13->aZ b t=plain t)/\(b=13->aZ b t=plain (match t with|10::r=>r|t=>t))
 |_, [],_,b=>by simp[aZ,plain]
 |0,_::_,h,_=>by simp at h
 |n+1,c::r,h,b=>by
  have ih:=λ(s:List Nat) (hs:s.length<=n)=>jv n s hs;have hr:r.length<=n:=by simpa using h
  have base:¬(b=13/\c=10)->aZ b (c::r)=plain (c::r):=by
   intro hb;rw[aZ]
   by_cases Q4:c=13
   .subst Q4;have e:plain1 b 13=[10]:=rfl;rw[e, (ih r hr (13:Nat)).2 rfl];cases r with
    |nil=>rfl
    |cons d r'=>
     by_cases hd:d=10
     .subst hd;rfl
     .have e1:plain (13::d::r')=10::plain (d::r'):=by
       rw[plain]
       .simp
       .intro W3 _ e;injection e with e2 _;exact hd e2
      rw[e1]
      split
      .rename_i q;injection q with q1 _;exact absurd q1 hd
      .rfl
   .have e1:plain (c::r)=(if c=13 then 10 else if c=0 then 65533 else c)::plain r:=by
     rw[plain];intro W3 e _;exact Q4 e
    rw[e1, (ih r hr (c:Int)).1 (by lia)];unfold plain1;rw[iN Q4,iN Q4]
    by_cases h0:c=0
    .rw[iP h0,iP h0];rfl
    .rw[iN h0,iN h0,iP (by by_cases q:c=10<;>simp[q];intro z;exact hb ⟨z,q⟩)];rfl
  apply⟨λhb=>base λz=>hb z.1,λhb=>?_⟩
  by_cases hc:c=10
  .subst hc;rw[aZ];have e:plain1 b 10=[]:=by unfold plain1;simp[hb]
   rw[e, (ih r hr (10:Nat)).1 nofun];rfl
  .rw[base λz=>hc z.2]
   split
   .rename_i q;injection q with q1 _;exact absurd q1 hc
   .rfl
theorem lA (t:List Nat):aZ (-1) t=plain t:=(jv t.length t (AE _) (-1)).1 nofun
theorem cV (a b:List Nat):encode (a++b)=encode a++encode b:=by simp[encode]
end An
namespace An
open Rd27
theorem Bu (k:Nat):refs k []=[]:=by cases k<;>rfl
theorem oX:∀(k:Nat) (r:List Nat),refs k r=refs 0 (r.drop k)
 |0,r=>by simp
 |k+1, []=>by simp[Bu]
 |k+1,a::r=>by
  show refs k r=_
  rw[oX k r,BO]
def aR (c:Nat) (r:List Nat):Nat×Nat:=if c=38 then(match reference r with
 |some x=>(x.1,x.2+1)
 |none=>(38,1))else(c,1)
theorem jS (c:Nat) (r:List Nat):refs 0 (c::r)=(aR c r).1::refs 0 ((c::r).drop (aR c r).2):=by
 unfold aR;show(if c=38 then _ else _)=_
 by_cases h:c=38
 .rw[iP h,iP h];cases reference r with
  |none=>simp
  |some x=>simp only[BO];rw[oX]
 .rw[iN h,iN h];simp
theorem jQ (c:Nat) (r:List Nat):0<(aR c r).2:=by
 unfold aR;split
 .split<;>simp
 .simp
def aX (c:Nat):Nat:=if 48<=c/\c<=57 then c-48 else if 65<=c/\c<=70 then c-55 else if 97<=c/\c<=102 then c-87 else 16
def cX (base:Nat):Nat->List Nat->Option Nat
 |n, []=>some n
 |n,c::r=>if base<=aX c then none else cX base (n*base+aX c) r
def numOf (d:List Nat) (base:Nat):Int:=if d=[]then-1 else match cX base 0 d with|none=> -1|some n=>n
def numbered (d:List Nat):Int:=
 let n:=if d.headD 0=88\/d.headD 0=120 then numOf d.tail 16 else numOf d 10
 if 0<=n/\(n=0\/fO n=false)then 65533 else n
def bB (b:List Nat):Int:=match NAMED.find? λx=>x.1==b with|some x=>x.2|none=> -1
def fN (r:List Nat):Option (Int×Nat):=
 if¬59∈r.take 9 then none else
  let b:=(r.take 9).takeWhile λd=>d !=59
  let p:=if b.take 1=[35]then numbered (b.drop 1)else bB b
  if p<0 then none else some (p,b.length+1)
theorem LF:∀c<128, ((hexOf c).isSome=decide (aX c<16))/\(aX c<16->(hexOf c).getD 0=aX c)/\digit c=decide (aX c<10):=by decide+kernel
theorem zF {c:Nat} (h:¬c<128):(hexOf c).isSome=false/\aX c=16/\digit c=false:=by
 have k {a b:Nat} (hb:b<128):¬(a<=c/\c<=b):=λz=>h (CL z.2 hb);have d:digit c=false:=by unfold digit;rw[<-Bool.decide_and];exact decide_eq_false (k nofun)
 have s:small c=c:=iN (k nofun);unfold hexOf aX;rw[s,d,iN (k nofun),iN (k nofun),iN (k nofun),iN (k nofun)];exact⟨rfl,rfl,rfl⟩
theorem yw (c:Nat):(hexOf c).isSome=true↔aX c<16:=by
 by_cases h:c<128
 .rw[(LF c h).1,decide_eq_true_eq]
 .rw[(zF h).1, (zF h).2.1];decide
theorem yx (c:Nat) (h:aX c<16):(hexOf c).getD 0=aX c:=by
 by_cases q:c<128
 .exact(LF c q).2.1 h
 .rw[(zF q).2.1]at h;cases CQ _ h
theorem yG (c:Nat):digit c=true↔aX c<10:=by
 by_cases h:c<128
 .rw[(LF c h).2.2,decide_eq_true_eq]
 .rw[(zF h).2.2, (zF h).2.1];decide
theorem kD (base:Nat) (hb:base<=16):∀(d:List Nat) (n:Nat), (∀c∈d,aX c<base)->cX base n d=some (d.foldl (λn c=>base*n+(hexOf c).getD 0) n)
 |[],n,_=>rfl
 |c::r,n,h=>by
  have hc:=h c (by simp);rw[cX,iN (by nofun),kD base hb r _ λc' h'=>h c' (by simp[h']),B0,yx c (by nofun),Nat.mul_comm]
theorem gF (base:Nat):∀(d:List Nat) (n:Nat),¬(∀c∈d,aX c<base)->cX base n d=none
 |[],n,h=>by simp at h
 |c::r,n,h=>by
  rw[cX]
  by_cases hc:base<=aX c
  .rw[iP hc]
  .rw[iN hc];apply gF base r _ λq=>h λc' h'=>?_;rcases AG.mp h' with e|e
   .rw[e];nofun
   .exact q c' e
theorem Bs (n:Nat):(if 0<=(n:Int)/\((n:Int)=0\/fO n=false)then(65533:Int)else n)=((right n:Nat):Int):=by
 have q:(0<=(n:Int)/\((n:Int)=0\/fO n=false))↔(n=0\/(55296<=n/\n<57344)\/1114112<=n):=by rw[Ba n];omega
 unfold right
 by_cases h:n=0\/(55296<=n/\n<57344)\/1114112<=n
 .rw[iP (q.mpr h),iP h];rfl
 .rw[iN (λz=>h (q.mp z)),iN h]
theorem jH {p:Nat->Bool}:∀(d:List Nat), (∀c∈d,p c=true)->∀r, (∀c r',r=c::r'->p c=false)->(d++r).takeWhile p=d
 |[],_,r,h=>by
  cases r with
  |nil=>rfl
  |cons c r'=>simp[CH,h c r' rfl]
 |c::d,h,r,hr=>by
  rw[AS,CH,h c (by simp),iP rfl,jH d (λc' h'=>h c' (by simp[h'])) r hr]
theorem kF:∀x∈NAMED,x.1.length<=6/\(¬59∈x.1)/\(¬35∈x.1)/\x.1≠[]:=by decide+kernel
theorem Ko (r:List Nat) (h:59∈r.take 9):∃b q,r=b++59::q/\¬59∈b/\b.length<=8/\(r.take 9).takeWhile (λd=>d !=59)=b:=by
 obtain⟨b,q,e,hb⟩:=List.append_of_mem h|>.elim λs ⟨t,e⟩=>(⟨s,t,e,trivial⟩:∃s t,r.take 9=s++59::t/\True)
 clear hb
 have h2:∃b q,r.take 9=b++59::q/\¬59∈b:=by
  clear e b q;generalize r.take 9=l at h
  induction l with
  |nil=>simp at h
  |cons c l ih=>
   by_cases hc:c=59
   .exact⟨[],l,by simp[hc],by simp⟩
   .rcases AG.mp h with z|z
    .exact absurd z.symm hc
    .obtain⟨b,q,e,n⟩:=ih z;exact⟨c::b,q,by simp[e],by simp[n];exact λz=>hc z.symm⟩
 obtain⟨b,q,e,n⟩:=h2
 have hl:b.length<=8:=by
  have:=congrArg BJ e;simp at this;lia
 apply⟨b,q++r.drop 9,?_,n,hl,?_⟩
 .have:=BV 9 r;rw[e]at this;apply this.symm.trans ?_;simp
 .rw[e];apply jH b (λc hc=>?_) _ λc r' z=>?_
  .simp;intro z;rw[z]at hc;exact n hc
  .injection z with z1 _;simp[<-z1]
theorem sV (b q:List Nat) (n:¬59∈b):(NAMED.find? λx=>(b++59::q).take (x.1.length+1)==x.1++[59])=NAMED.find? λx=>x.1==b:=by
 have key:∀x∈NAMED, ((b++59::q).take (x.1.length+1)==x.1++[59])=(x.1==b):=by
  intro x hx;obtain⟨_,hn,_,_⟩:=kF x hx
  by_cases e:x.1=b
  .rw[e]
   have e3:(b++59::q).take (b.length+1)=b++[59]:=by
    rw[DW,AK (by nofun)];simp
   rw[e3];simp
  .have e2:(x.1==b)=false:=by simpa using e
   rw[e2];apply beq_eq_false_iff_ne.mpr λz=>e ?_;have h1:=congrArg (λl=>l.takeWhile λd=>d !=59) z;have h2:(x.1++[59]).takeWhile (λd=>d !=59)=x.1:=jH _ (λc hc=>by simp;intro w;rw[w]at hc;exact hn hc) _ (λc r' w=>by injection w with w1 _;simp[<-w1])
   have h3:((b++59::q).take (x.1.length+1)).takeWhile (λd=>d !=59)=b.take (x.1.length+1):=by
    by_cases hl:b.length<x.1.length+1
    .rw[DW,AK (by nofun:b.length<=x.1.length+1)];obtain⟨k,hk⟩:∃k,x.1.length+1-b.length=k+1:=⟨x.1.length-b.length,by lia⟩
     rw[hk,BK];exact jH b (λc hc=>by simp;intro w;rw[w]at hc;exact n hc) _ (λc r' w=>by injection w with w1 _;simp[<-w1])
    .rw[DM (by nofun)];have:=jH (p:=λd=>d !=59) (b.take (x.1.length+1)) (λc hc=>by simp;intro w;rw[w]at hc;exact n (CB hc)) [] (λc r' w=>by cases w);simpa using this
   rw[h2,h3]at h1;have h4:=congrArg BJ h1;rw[AX]at h4;rw[<-h1,AK (by lia)]
 have gen:∀l:List (T×Nat), (∀x∈l, ((b++59::q).take (x.1.length+1)==x.1++[59])=(x.1==b))->
   (l.find? λx=>(b++59::q).take (x.1.length+1)==x.1++[59])=l.find? λx=>x.1==b:=by
  intro l
  induction l with
  |nil=>intro _;rfl
  |cons x l ih=>
   intro h;rw[CY,CY,h x (by simp),ih λy hy=>h y (by simp[hy])]
 exact gen _ key
theorem nG (r:List Nat) (h:¬59∈r.take 9):(NAMED.find? λx=>r.take (x.1.length+1)==x.1++[59])=none:=by
 apply FC.mpr λx hx=>?_;obtain⟨hl,_,_,_⟩:=kF x hx;intro z;have e:r.take (x.1.length+1)=x.1++[59]:=by simpa using z
 apply h ?_;have:59∈r.take (x.1.length+1):=by rw[e];simp
 obtain⟨s,hs⟩:∃s,r.take 9=r.take (x.1.length+1)++s:=⟨(r.take 9).drop (x.1.length+1),by
  have:=BV (x.1.length+1) (r.take 9);rw[List.take_take,DQ (by nofun)]at this
  exact this.symm⟩
 rw[hs];exact C0 _ this
theorem digits_of {p:Nat->Bool} (hp:p 59=false) (b q:List Nat) (n:¬59∈b):
  let d:=(b++59::q).takeWhile p
  (d.length=b.length↔∀c∈b,p c=true)/\((∀c∈b,p c=true)->d=b/\((b++59::q).drop d.length).headD 0=59)/\
   (¬(∀c∈b,p c=true)->((b++59::q).drop d.length).headD 0≠59):=by
 induction b with
 |nil=>simp[hp]
 |cons c b ih=>
  have n2:¬59∈b:=λz=>n (by simp[z]);have Uv:c≠59:=λz=>n (by simp[z]);obtain⟨i1,i2,i3⟩:=ih n2;simp only[AS,CH]
  by_cases hc:p c=true
  .rw[iP hc]
   apply⟨by
     simp only[AA,AG,forall_eq_or_imp];constructor
     .intro z;exact⟨hc,i1.mp (by lia)⟩
     .intro z;rw[i1.mpr z.2],λh=>?_,λh=>?_⟩
   .obtain⟨e1,e2⟩:=i2 λc' h'=>h c' (by simp[h']);rw[e1]at e2 ⊢;exact⟨rfl,by simpa using e2⟩
   .simp only[AA,BO]
    exact i3 λq=>h λc' h'=>by
     rcases AG.mp h' with e|e
     .rw[e];exact hc
     .exact q c' e
  .rw[iN hc];apply⟨?_,λh=>absurd (h c (by simp)) hc,λ_=>by simp;exact Uv⟩;simp only[BI,AA,AG,forall_eq_or_imp];constructor
   .intro z;lia
   .intro z;exact absurd z.1 hc
theorem Bm (b:List Nat):b.take 1=[35]↔∃r,b=35::r:=by
 cases b with
 |nil=>simp
 |cons c r=>simp
theorem sT:∀c<128,small c=120↔(c=88\/c=120):=by decide+kernel
theorem sx (c:Nat):small c=120↔(c=88\/c=120):=by
 by_cases h:c<128
 .exact sT c h
 .rw[show small c=c from iN λz=>h (CL z.2 nofun)];exact⟨.inr,λz=>z.elim (λe=>by subst e;cases h nofun) id⟩
theorem sN (base:Nat) (hb:base<=16) (d:List Nat):numOf d base=if d=[]\/¬(∀c∈d,aX c<base)then-1 else((valueOf base d:Nat):Int):=by
 unfold numOf valueOf
 by_cases h:d=[]
 .rw[iP h,iP (.inl h)]
 .rw[iN h]
  by_cases h2:∀c∈d,aX c<base
  .rw[kD base hb d 0 h2,iN (by intro z;rcases z with z|z;exact h z;exact z h2)]
  .rw[gF base d 0 h2,iP (.inr h2)]
theorem Br (p:Int) (n:Nat) (h:p=n):(if 0<=p/\(p=0\/fO p=false)then(65533:Int)else p)=((right n:Nat):Int):=by
 rw[h];exact Bs n
theorem kS (p:Nat->Bool) (base most more:Nat) (hb:base<=16) (hp:∀c,p c=true↔aX c<base) (Ef:p 59=false) (b q:List Nat) (n:¬59∈b) (hl:b.length<=most):
  (let d:=(b++59::q).takeWhile p
   if d.isEmpty=true\/most<d.length\/((b++59::q).drop d.length).headD 0≠59 then none else some (right (valueOf base d),d.length+more))=
  if(if 0<=numOf b base/\(numOf b base=0\/fO (numOf b base)=false)then(65533:Int)else numOf b base)<0 then none
   else some ((if 0<=numOf b base/\(numOf b base=0\/fO (numOf b base)=false)then(65533:Int)else numOf b base).toNat,b.length+more):=by
 obtain⟨i1,i2,i3⟩:=digits_of Ef b q n;simp only at i1 i2 i3 ⊢;have e:=sN base hb b
 by_cases h:∀c∈b,p c=true
 .obtain⟨j1,j2⟩:=i2 h;rw[j1]at j2 ⊢
  by_cases h0:b=[]
  .have e1:numOf b base= -1:=by rw[e,iP (.inl h0)]
   rw[e1,iP (by left;simp[h0]),iP nofun]
  .have e1:numOf b base=((valueOf base b:Nat):Int):=by rw[e,iN (by intro z;rcases z with z|z;exact h0 z;exact z λc hc=>(hp c).mp (h c hc))]
   rw[Br _ _ e1,iN (by intro z;rcases z with z|z|z;exact h0 (by simpa using z);lia;exact z j2),iN (by lia)];simp
 .have e1:numOf b base= -1:=by rw[e,iP (.inr λz=>h λc hc=>(hp c).mpr (z c hc))]
  rw[e1,iP (.inr (.inr (i3 h))),iP nofun]
theorem kT (p:Nat->Bool) (base most more k:Nat) (Ef:p 59=false) (t:List Nat) (h:¬59∈t.take k) (hk:k=most+1):
  (let d:=t.takeWhile p
   if d.isEmpty=true\/most<d.length\/(t.drop d.length).headD 0≠59 then none else some (right (valueOf base d),d.length+more))=none:=by
 simp only;rw[iP]
 by_cases h1:most<(t.takeWhile p).length
 .exact .inr (.inl h1)
 .refine .inr (.inr λz=>h ?_);cases hd:t.drop (t.takeWhile p).length with
  |nil=>rw[hd]at z;simp at z
  |cons c r=>
   rw[hd]at z;have z':c=59:=z
   have e:t=t.take (t.takeWhile p).length++(59::r):=by
    have:=BV (t.takeWhile p).length t;rw[hd,z']at this;exact this.symm
   rw[e,DW];apply BU _ ?_;have hl:(t.take (t.takeWhile p).length).length<=most:=by rw[AX];lia
   obtain⟨j,hj⟩:∃j,k-(t.take (t.takeWhile p).length).length=j+1:=⟨most-(t.take (t.takeWhile p).length).length,by lia⟩
   rw[hj,BK];simp
theorem w6 (P:Int) (k m:Nat) (h:k=m):(if P<0 then none else some (P.toNat,k))=Option.map (λx:Int×Nat=>(x.1.toNat,x.2)) (if P<0 then none else some (P,m)):=by
 subst h
 by_cases h0:P<0<;>simp[h0]
theorem Ha (r:List Nat):reference r=(fN r).map λx=>(x.1.toNat,x.2):=by
 by_cases h:59∈r.take 9
 .obtain⟨b,q,e,n,hl,et⟩:=Ko r h
  have eP:fN r=if(if b.take 1=[35]then numbered (b.drop 1)else bB b)<0 then none else some ((if b.take 1=[35]then numbered (b.drop 1)else bB b),b.length+1):=by
   unfold fN;rw[iN (not_not_intro h)];simp only[et]
  rw[eP];clear eP;cases b with
  |nil=>
   have e':r=59::q:=e;rw[e'];have q1:bB []= -1:=by decide
   have q0:(if([]:List Nat).take 1=[35]then numbered (([]:List Nat).drop 1)else bB [])= -1:=by rw[iN (by simp),q1]
   rw[q0,iP nofun];have q2:=sV [] q (by simp);simp only[BA]at q2;have q3:reference (59::q)=(NAMED.find? λx=>(59::q).take (x.1.length+1)==x.1++[59]).map λx=>(x.2,x.1.length+1):=rfl;rw[q3,q2];decide
  |cons c b'=>
   by_cases hc:c=35
   .subst hc;have n':¬59∈b':=λz=>n (by simp[z]);have oy:b'.length<=7:=by simpa using hl
    have q0:(if(35::b').take 1=[35]then numbered ((35::b').drop 1)else bB (35::b'))=numbered b':=by rw[iP (by simp)];rfl
    rw[q0,e];simp only[AS];show(if small ((b'++59::q).headD 0)=120 then _ else _)=_
    cases b' with
    |nil=>
     simp[digit,numOf,small,numbered]
    |cons d vX=>
     simp only[AS,GN,GW]
     by_cases hd:d=88\/d=120
     .have qn:numbered (d::vX)=if 0<=numOf vX 16/\(numOf vX 16=0\/fO (numOf vX 16)=false)then 65533 else numOf vX 16:=by unfold numbered;simp[hd]
      rw[iP ((sx d).mpr hd),qn];have:=kS (λc=>(hexOf c).isSome) 16 6 3 nofun yw nofun vX q (λz=>n' (by simp[z])) (by simp at oy;nofun);simp only[BO,EI]at this ⊢;have dd:∀k, (d::(vX++59::q)).drop (1+k)=(vX++59::q).drop k:=λk=>by rw[JW,BO]
      simp only[dd];rw[this];exact w6 _ _ _ (by simp)
     .have qn:numbered (d::vX)=if 0<=numOf (d::vX) 10/\(numOf (d::vX) 10=0\/fO (numOf (d::vX) 10)=false)then 65533 else numOf (d::vX) 10:=by unfold numbered;simp[hd]
      rw[iN (λz=>hd ((sx d).mp z)),qn];have:=kS digit 10 7 2 nofun yG nofun (d::vX) q n' (by simpa using oy);simp only[AS]at this;rw[this];exact w6 _ _ _ (by simp)
   .have q3:reference r=(NAMED.find? λx=>r.take (x.1.length+1)==x.1++[59]).map λx=>(x.2,x.1.length+1):=by
     rw[e];show reference (c::(b'++59::q))=_
     unfold reference
     split
     .rename_i z;injection z with z1 _;exact absurd z1 hc
     .rfl
    have q0:(if(c::b').take 1=[35]then numbered ((c::b').drop 1)else bB (c::b'))=bB (c::b'):=iN (by simp[hc]);rw[q0,q3,e,sV _ q n];unfold bB;cases hf:NAMED.find? λx=>x.1==(c::b')with
    |none=>simp
    |some x=>
     have hx:=ID hf;have XU:x.1=c::b':=by simpa using hx
     simp only[EX];rw[iN (by lia)];simp[XU]
 .have e1:fN r=none:=by unfold fN;rw[iP h]
  rw[e1];have hn:=nG r h;unfold reference
  split
  .rename_i q
   have h':¬59∈q.take 8:=λz=>h (by simp[z])
   split
   .have:=kT (λc=>(hexOf c).isSome) 16 6 3 7 nofun (q.drop 1) (λz=>h' (by
     cases q with
     |nil=>simp at z
     |cons d q=>simp only[BO,EI]at z;simp[z])) rfl
    simp only[A7]at this ⊢;simp only[IE];have dd:∀k,q.drop (1+k)=q.drop (1+k):=λk=>rfl;exact this
   .have:=kT digit 10 7 2 8 nofun q h' rfl;simp only[IE];exact this
  .rw[hn];rfl
theorem gx (c:Nat) (r:List Nat):aR c r=if c=38 then(match fN r with|some x=>(x.1.toNat,x.2+1)|none=>(38,1))else(c,1):=by
 unfold aR;rw[Ha];cases fN r<;>rfl
end An
namespace An
open Rd27
def bs (c:Nat):Bool:=[9,10,12,32,47].contains c
theorem blank_eq (c:Nat):blank c=[9,10,12,32].contains c:=by
 unfold blank;simp only[BE,BZ,BY]
theorem z9 (c:Nat):bs c=(blank c||c==47):=by
 unfold bs blank;simp only[BE,BZ,BY,FX]
theorem vA (c:Nat):(!(blank c||(c==47||c==62)))=![9,10,12,32,47,62].contains c:=by
 unfold blank;simp only[BE,BZ,BY,FX]
theorem vR (c:Nat):(!(blank c||(c==47||(c==62||c==61))))=![9,10,12,32,47,61,62].contains c:=by
 unfold blank;rw[JX (c==62) (c==61)];simp only[BE,BZ,BY,FX]
theorem xR (c:Nat):(!(blank c||c==62))=![9,10,12,32,62].contains c:=by
 unfold blank;simp only[BE,BZ,BY,FX]
theorem pU {p:Nat->Bool}:∀{t:List Nat} {c:Nat},c∈t.takeWhile p->p c=true
 |[],_,h=>by simp at h
 |d::t,c,h=>by
  rw[CH]at h
  by_cases hp:p d=true
  .rw[iP hp]at h;rcases AG.mp h with e|e
   .rw[e];exact hp
   .exact pU e
  .rw[iN hp]at h;simp at h
theorem nB:∀(f g:Nat) (sl:Bool) (t:T) (l:List Attr),t.length<f->t.length<g->attrs f sl t l=attrs g sl t l
 |0,_,_,_,_,h,_=>nomatch h
 |_+1,0,_,_,_,_,h=>nomatch h
 |f+1,g+1,sl, [],l,_,_=>rfl
 |f+1,g+1,sl,c::r,l,h1,h2=>by
  have SA:r.length<f:=by simpa using h1
  have yX:r.length<g:=by simpa using h2
  have ih:=λ(sl:Bool) (t:T) (l:List Attr) (ht:t.length<=r.length)=>nB f g sl t l (CL ht SA) (CL ht yX);rw[attrs,attrs];simp only
  split
  .rfl
  split
  .exact ih _ _ _ (AE _)
  split
  .exact ih _ _ _ (AE _)
  split
  .exact ih _ _ _ (by simp)
  split
  .split
   .rfl
   .refine ih _ _ _ (GG ?_)
    repeat first|exact HH _|apply(HI _ _).trans ?_|apply(GH _).trans ?_
  .refine ih _ _ _ (GG ?_)
   repeat first|exact HH _|apply(HI _ _).trans ?_|apply(GH _).trans ?_
def A (sl:Bool) (t:T) (l:List Attr):Option (List Attr×Bool×T):=attrs (t.length+1) sl t l
theorem uH (f:Nat) (sl:Bool) (t:T) (l:List Attr) (h:t.length<f):attrs f sl t l=A sl t l:=nB _ _ _ _ _ h (CO _)
theorem Ai (sl:Bool) (l:List Attr):A sl [] l=none:=rfl
theorem Pe (sl:Bool) (r:T) (l:List Attr):A sl (62::r) l=some (l.reverse,sl,r):=rfl
theorem Pf (sl:Bool) (c:Nat) (r:T) (l:List Attr) (h:bs c=true):A sl (c::r) l=A (c==47) r l:=by
 rw[z9]at h;have hc:c≠62:=by intro z;rw[z]at h;simp[blank]at h
 show attrs (r.length+2) sl (c::r) l=_
 rw[attrs];simp only;rw[iN hc]
 by_cases yW:c=47
 .rw[iP yW,uH _ _ _ _ (by nofun),yW];rfl
 .have hb:blank c=true:=by simpa [yW]using h
  rw[iN yW,iP hb,uH _ _ _ _ (by nofun)];have:(c==47)=false:=by simpa using yW
  rw[this]
theorem u4:∀(ws:List Nat) (sl:Bool) (t:T) (l:List Attr), (∀c∈ws,bs c=true)->A sl (ws++t) l=A (match ws.getLast? with|none=>sl|some c=>c==47) t l
 |[],sl,t,l,_=>rfl
 |c::ws,sl,t,l,h=>by
  rw[AS,Pf _ _ _ _ (h c (by simp)),u4 ws _ t l λc' h'=>h c' (by simp[h'])];cases ws with
  |nil=>rfl
  |cons d ws=>
    rw[DI];rfl
def attrName (c:Nat) (r:T):T:=((c::r.takeWhile λd=>![9,10,12,32,47,61,62].contains d).take 64).map small
def bu (r:T):T:=r.drop (r.takeWhile λd=>![9,10,12,32,47,61,62].contains d).length
def da (t:T):T:=t.drop (t.takeWhile λd=>[9,10,12,32].contains d).length
def c6 (t:T):T×T:=
 let v:=da t
 match v with
 |[]=>([], [])
 |q::u=>if q=34\/q=39 then(refs 0 (u.takeWhile λd=>d !=q),u.drop ((u.takeWhile λd=>d !=q).length+1))
  else(refs 0 ((q::u).takeWhile λd=>![9,10,12,32,62].contains d), (q::u).drop ((q::u).takeWhile λd=>![9,10,12,32,62].contains d).length)
def dN (r:T):T×T:=
 match da (bu r)with
 |[]=>([], [])
 |e::u=>if e=61 then c6 u else([],e::u)
def addAttr (l:List Attr) (name v:T):List Attr:=if(l.any λa=>a.1==name)=true\/64<=l.length then l else(name,v)::l
theorem eZ (p:Nat->Bool):∀t:List Nat,t.drop (t.takeWhile p).length=t.dropWhile p
 |[]=>rfl
 |c::r=>by
  rw[CH,G6]
  by_cases h:p c=true
  .rw[iP h,iP h,AA,BO,eZ p r]
  .rw[iN h,iN h];rfl
theorem Bq (t:T):da t=t.dropWhile blank:=by
 unfold da;rw[eZ];congr 1;funext c;exact(blank_eq c).symm
theorem Dn (t:T) (l:List Attr):A false t l=A false (da t) l:=by
 have e:t=(t.takeWhile λd=>[9,10,12,32].contains d)++da t:=by
  rw[da,eZ];exact(CA).symm
 have hb:∀c∈(t.takeWhile λd=>[9,10,12,32].contains d),blank c=true:=λc hc=>by
  rw[blank_eq];exact(pU hc)
 conv=>lhs;rw[e]
 rw[u4 _ _ _ _ λc hc=>by rw[z9,hb c hc];rfl];cases hl:(t.takeWhile λd=>[9,10,12,32].contains d).getLast? with
 |none=>rfl
 |some c=>
  have:=hb c (GX hl)
  have yW:(c==47)=false:=by
   by_cases z:c=47
   .rw[z]at this;simp[blank]at this
   .simpa using z
  simp only[yW]
theorem Bj (sl:Bool) (c:Nat) (r:T) (l:List Attr) (hb:bs c=false) (hc:c≠62):A sl (c::r) l=A false (dN r).2 (addAttr l (attrName c r) (dN r).1):=by
 rw[z9,Bool.or_eq_false_iff]at hb;have yW:c≠47:=by simpa using hb.2
 show attrs (r.length+2) sl (c::r) l=_
 rw[attrs];simp only;rw[iN hc,iN yW,iN (by rw[hb.1];decide)];have e1:(λd=>!(blank d||(d==47||(d==62||d==61))))=λd=>![9,10,12,32,47,61,62].contains d:=funext vR;have e2:(λd=>!(blank d||d==62))=λd=>![9,10,12,32,62].contains d:=funext xR;rw[e1,e2]
 have eN:ER NAME (D6 small (c::r.takeWhile λd=>![9,10,12,32,47,61,62].contains d))=attrName c r:=by
  unfold attrName NAME;rw[CJ]
 rw[eN];have eB:r.drop (r.takeWhile λd=>![9,10,12,32,47,61,62].contains d).length=bu r:=rfl;simp only[eB,<-Bq];have lB:(bu r).length<=r.length:=by unfold bu;simp
 have lS:∀t:T, (da t).length<=t.length:=λt=>by unfold da;simp
 have eA:∀v, (if(l.any λa=>a.1==attrName c r)=true\/64<=l.length then l else(attrName c r,refs 0 v)::l)=addAttr l (attrName c r) (refs 0 v):=λ_=>rfl;simp only[eA];unfold dN;have Vs:=lS (bu r)
 have pick:∀{α:Type} (e:Nat) (x y:α), (if e≠61 then x else y)=if e=61 then y else x:=λe x y=>by
  by_cases h:e=61<;>simp[h]
 rw[pick]
 by_cases he:(da (bu r)).headD 0=61
 .rw[iP he];cases hs:da (bu r)with
  |nil=>rw[hs]at he;simp at he
  |cons e u=>
   rw[hs]at he Vs;have he:e=61:=he;simp only[AA]at Vs;have lU:=lS u;show _=A false (if e=61 then c6 u else([],e::u)).2 (addAttr _ _ (if e=61 then c6 u else([],e::u)).1)
   rw[iP he];unfold c6;simp only[BO,EI]
   by_cases hq:(da u).headD 0=34\/(da u).headD 0=39
   .rw[iP hq];cases hv:da u with
    |nil=>rw[hv]at hq;simp at hq
    |cons q w=>
     rw[hv]at hq lU;have hq:q=34\/q=39:=hq;simp only[AA]at lU;show(if(List.takeWhile (λd=>d !=q) w).length+1=w.length+1 then _ else _)=A false (if q=34\/q=39 then _ else _:T×T).2 (addAttr _ _ (if q=34\/q=39 then _ else _:T×T).1)
     rw[iP hq]
     by_cases hw:(w.takeWhile λd=>d !=q).length+1=w.length+1
     .rw[iP hw];have:w.drop ((w.takeWhile λd=>d !=q).length+1)=[]:=AQ (by lia);simp only[this];rfl
     .rw[iN hw,uH _ _ _ _ (by simp;omega)];rfl
   .rw[iN hq];cases hv:da u with
    |nil=>
     rw[uH _ _ _ _ (by simp)];rfl
    |cons q w=>
     rw[hv]at hq lU;have hq:¬(q=34\/q=39):=hq;simp only[AA]at lU;show _=A false (if q=34\/q=39 then _ else _:T×T).2 (addAttr _ _ (if q=34\/q=39 then _ else _:T×T).1)
     rw[iN hq,uH _ _ _ _ (by simp;omega)]
 .rw[iN he,uH _ _ _ _ (by nofun),Dn];cases hs:da (bu r)with
  |nil=>rfl
  |cons e u=>
   rw[hs]at he;have he:¬e=61:=he;show _=A false (if e=61 then c6 u else([],e::u)).2 (addAttr _ _ (if e=61 then c6 u else([],e::u)).1)
   rw[iN he];rfl
def jl (ws:List Nat):Bool:=match ws.getLast? with|none=>false|some c=>c==47
theorem MR (t:T) (l:List Attr):A false t l=match t.drop (t.takeWhile bs).length with
  |[]=>none
  |c::r=>if c=62 then some (l.reverse,jl (t.takeWhile bs),r)else A false (dN r).2 (addAttr l (attrName c r) (dN r).1):=by
 have e:t=t.takeWhile bs++t.drop (t.takeWhile bs).length:=by rw[eZ];exact(CA).symm
 conv=>lhs;rw[e]
 rw[u4 _ _ _ _ λc hc=>pU hc];cases hd:t.drop (t.takeWhile bs).length with
 |nil=>rfl
 |cons c r=>
  simp only
  by_cases h:c=62
  .rw[iP h,h,Pe];rfl
  .rw[iN h,Bj _ _ _ _ ?_ h]
   have:∀(p:Nat->Bool) (t:List Nat) (c:Nat) (r:List Nat),t.dropWhile p=c::r->p c=false:=by
    intro p t
    induction t with
    |nil=>intro c r h;simp at h
    |cons d t ih=>
     intro c r h;rw[G6]at h
     by_cases hp:p d=true
     .rw[iP hp]at h;exact ih c r h
     .rw[iN hp]at h;injection h with h1 _;rw[<-h1];simpa using hp
   exact this bs t c r (by rw[<-eZ];exact hd)
theorem yK (r:T):(dN r).2.length<=r.length:=by
 have lB:(bu r).length<=r.length:=by unfold bu;simp
 have lS:∀t:T, (da t).length<=t.length:=λt=>by unfold da;simp
 have:=lS (bu r);unfold dN
 split
 .simp
 .rename_i e u h
  rw[h]at this;simp only[AA]at this
  split
  .have hu:=lS u;unfold c6;simp only
   split
   .simp
   .rename_i q w h2
    rw[h2]at hu;simp only[AA]at hu
    split
    .simp;lia
    .simp only[AM,AA];omega
  .simp;nofun
def tagName (t:T):T:=((t.takeWhile λd=>![9,10,12,32,47,62].contains d).take 64).map small
theorem Ao (t:T):tag t=(A false (t.drop (t.takeWhile λd=>![9,10,12,32,47,62].contains d).length) []).map λx=>(tagName t,x.1,x.2.1,x.2.2):=by
 unfold tag;have e1:(λd=>!(blank d||(d==47||d==62)))=λd=>![9,10,12,32,47,62].contains d:=funext vA;simp only[e1];rw[uH _ _ _ _ (by simp;omega)];unfold tagName NAME;rw[CJ]
def cW (name:T) (t:T):Bool:=decide (t.take 2=[60,47])&&decide (((t.drop 2).take name.length).map small=name)&&
 ((t.drop (2+name.length)).isEmpty||[9,10,12,32,47,62].contains ((t.drop (2+name.length)).headD 0))
theorem sC (name:T) (c:Nat) (r:T):raw name (c::r)=if cW name (c::r)=true then([],c::r)else(c::(raw name r).1, (raw name r).2):=by
 rw[raw]
 have:cW name (c::r)=true↔((c::r).take 2=[60,47]/\(((c::r).drop 2).take name.length).map small=name/\(let d:=(c::r).drop (2+name.length)
   d.isEmpty=true\/blank (d.headD 0)=true\/d.headD 0=47\/d.headD 0=62)):=by
  unfold cW;simp only[B6,D8,decide_eq_true_eq,blank,beq_iff_eq,BE,BZ,BY,and_assoc,or_assoc]
 by_cases h:cW name (c::r)=true
 .rw[iP h,iP (this.mp h)]
 .rw[iN h,iN λz=>h (this.mpr z)]
end An
set_option tactic.hygienic false
namespace L2
open PySem PySem.Spec PyProof.Rows
structure oK (w:World) (K:AD) (a:Addr) (aC:List (Key×V)):Prop where
 sys:(a==sysModules)=false
 ob:∀P:Program,∃o vs,K.lookup a=some o/\Obj.IsDictOf (bw P w) o vs/\KV aC vs
section
variable{X:Cx} {pins:List (Addr×Obj)} {σ:St} {H:Hp} {s:Shared} {a:Addr} {aC:List (Key×V)}
theorem oK.at_ (d:oK X.w X.K a aC) (I:Inv X pins σ H s):∃vs,KV aC vs/\s.heap.DictOf (bw X.prog X.w) a vs:=by
 obtain⟨o,vs,h1,h2,h3⟩:=d.ob X.prog;exact⟨vs,h3,Heap.dictOf_iff.mpr ⟨o,I.t8 a o h1,h2⟩⟩
variable{o e f i:Expr} {td ty tx:TE} {pos apos fP:Pos}
def Pl (a:Addr) (aC:List (Key×V)) (td ty:TE):TE:=λσ H Q=>td σ H λx H1=>x= .ref a/\ty σ H1 λy H2=>∃k v,y=kV k/\cS aC k=some v/\Q v H2
def L8 (a:Addr) (aC:List (Key×V)) (td ty tx:TE):TE:=λσ H Q=>td σ H λx H1=>x= .ref a/\ty σ H1 λy H2=>tx σ H2 λz H3=>∃k,y=kV k/\Q ((cS aC k).getD z) H3
def S8 (a:Addr) (aC:List (Key×V)) (ty td:TE):TE:=λσ H Q=>ty σ H λy H1=>td σ H1 λx H2=>x= .ref a/\∃k,y=kV k/\Q (.bl (cS aC k).isSome) H2
theorem Hk (d:oK X.w X.K a aC) (ho:PE X o td) (hi:PE X i ty) (hs:LX i):PE X (.Subscript o i pos) (Pl a aC td ty):=by
 intro pins s σ H Q I h;apply wC FF.lookup hs (bM (ho pins s σ H _ I h) λu s1 ⟨x,H1,I1,rx,ex,q1⟩=>bM (hi pins s1 σ H1 _ I1 q1) λiv s2 ⟨y,H2,I2,ry,k,v,ey,g,q2⟩=>?_);subst ex ey;obtain rfl:u=Value.ref a:=rx;obtain⟨vs,rel,dd⟩:=d.at_ I2;obtain⟨w',hw,y4⟩:=fQ.some_of (v:=v) (o:=valueAt vs k) (by rw[<-g];exact rel.val k);exact⟨dd.typeIs,wpAny_getItem_of (mf ry) dd.mapOf hw ⟨v,H2,I2.tok _,y4,q2⟩⟩
theorem Bz (d:oK X.w X.K a aC) (ho:PE X o td) (he:PE X e ty) (hf:PE X f tx) (m:M2 X o "get" apos e f fP):PE X (.Call (.Attribute o "get" apos) [e,f] [] fP) (L8 a aC td ty tx):=by
 intro pins s σ H Q I h;apply wpAny_Call_method m.base m.cq m.line PySem.F.plainAttrs_dict GQ PySem.F.type_dict_get (bM (ho pins s σ H _ I h) λu s1 ⟨x,H1,I1,rx,ex,q1⟩=>?_);subst ex;obtain rfl:u=Value.ref a:=rx;obtain⟨vs,rel,dd⟩:=d.at_ I1;apply⟨dd.typeIs,λb q=>?_,?_⟩
 .cases q;obtain⟨ob,_,_,h1,h2,_⟩:=dd;exact⟨ob,h1,h2.2.1⟩
 rw[m.trees]
 apply Calls.callWith_builtin rfl (Calls.evalArgs_plain (Calls.spliced_cons (bM (he pins s1 σ H1 _ I1 q1) λiv s2 ⟨y,H2,I2,ry,q2⟩=>
  Calls.spliced_cons (bM (hf pins s2 σ H2 _ I2 q2) λfv s3 ⟨z,H3,I3,rz,k,ey,q3⟩=>Calls.spliced_nil ?_))))
 subst ey;obtain⟨vs,rel,dd⟩:=d.at_ I3;exact call_meetsIn GQ dd.typeIs PySem.F.entry_dict_get (PySem.F.args_dict_get_3 _ _ _) (meets_dict_get_default (bw X.prog X.w) a (mf ry) d.sys fv) ⟨_,dd.mapOf, ⟨_,H3,I3.tok _, (rel.val k).getD rz,q3⟩⟩
theorem Mp (d:oK X.w X.K a aC) (hi:PE X i ty) (ho:PE X o td):PC X .In i o (S8 a aC ty td):=by
 intro pins s σ H Q I h;apply bM (hi pins s σ H _ I h) λiv s1 ⟨y,H1,I1,ry,q1⟩=>bM (ho pins s1 σ H1 _ I1 q1) λu s2 ⟨x,H2,I2,rx,ex,k,ey,q2⟩=>?_;subst ex ey;obtain rfl:u=Value.ref a:=rx;obtain⟨vs,rel,dd⟩:=d.at_ I2;apply wpAny_in_of (mf ry) d.sys dd.mapOf ?_;rw[<-(rel.val k).gW];exact⟨.bl _,H2,I2.tok _,rfl,q2⟩
end
section
variable{X:Cx}
theorem Hy {prog:Program} {w:World} {A:Around} {E:Value->Shared->Prop} {s:Shared} {d:Addr} {o:Obj} {es:Array DictEntry} {ep:Nat} {Q:Value->Shared->Prop} (hd:(d==sysModules)=false) (ho:s.heap.get? d=some o) (hc:o.ExactDict) (n9:o.data= .dict es ep) (Z6:(es.size:Int)<2 ^ 63)
  (h:Q (.int es.size (s.toks+1)) {s with toks:=s.toks+1+1}):wpAny (model prog w) A (call (.builtin "len") [.ref d]) Q E s:=by
 have hT:s.TypeIs (.ref d) "dict":=⟨o,ho,hc.1⟩
 have m:MeetsIn prog w (Builtin.«dict.__len__» ⟨[.ref d], []⟩) (λ_ R s=>s.heap.get? d=some o/\R (.ok (.ret (.int es.size s.toks))) {s with toks:=s.toks+1}):=
  .of_wp λA R s ⟨ho,h⟩=>by
   show wpAny _ _ (dictSize d>>=_) _ _ s
   unfold dictSize;apply wpAny_bind (wpAny_bind (wpAny_dictEntries ho n9 (wpAny_pure ?_)));show wpAny _ _ (Builtin.Dict.pendingCount d>>=_) _ _ s
   apply wpAny_bind (wpAny_pendingCount_other hd ?_);apply wpAny_ret_mkInt ?_;rw[JY];exact h
 apply Calls.call_function_entry kind_len plain_len entry_len (args_len1 _) ?_;unfold Builtin.«len»;apply wpAny_bind (m:=oneArg "len" _) (wpAny_pure ?_)
 apply wpAny_bind (m:=callSpecial? (.ref d) (Str.ofString "__len__")) (wpAny_callSpecial?_slot (name:=Str.ofString "__len__") hT F.slot_dict_len
  (call_meetsIn F.slot_dict_len hT F.entry_dict_len (F.args_dict_len_1 _) m ⟨ho,?_⟩))
 show wpAny _ _ _ _ _ {s with toks:=s.toks+1}
 apply wpAny_bind (wpAny_holding (wpAny_pure ?_));apply wpAny_bind (wpAny_letGo ?_);show wpAny _ _ (if((es.size:Nat):Int)<0 then _ else _) _ _ _
 rw[iN (by omega)];show wpAny _ _ (if((es.size:Nat):Int)≥2 ^ 63 then _ else _) _ _ _
 rw[iN (by omega)];exact wpAny_bind (wpAny_mkInt (wpAny_pure ⟨_,rfl,h⟩))
theorem j3:hZ X (.builtin "len") (λxs H Q=>∃a aC,xs=[V.ref a]/\H a=some (.dT aC)/\Q (.int aC.length) H):=by
 intro pins s σ H xs us Q I r h;obtain⟨a,aC,rfl,ha,q⟩:=h;obtain⟨u,rfl,ru⟩:=vals1 r;cases ru;obtain⟨z,y,xs,r,o,es,ep,h1,h2,h3,h4,h5⟩:=(show cf X.prog X.w H s.heap a (.dT aC)from I.b8 a _ ha)
 have hl:es.size=aC.length:=by
  have e1:=Paired.length r;have e2:=congrArg BJ h4;rw[AF,CW]at e2;lia
 apply Hy y h1 h2 h3 (by rw[hl];rw[sizeLine_eq]at z;omega) ?_;rw[hl];exact⟨.int aC.length,H,I.tok _, ⟨_,rfl⟩,q⟩
def yc:V->List V->Hp->VK->Prop:=λx vs H Q=>∃l b xs zs,x= .ref l/\vs=[.ref b]/\H l=some (.lst xs)/\(H b=some (.lst zs)\/H b=some (.tup zs))/\xs.length+zs.length<=sizeLine/\Q .aY (upd H l (.lst (xs++zs)))
theorem qQ (l:Addr) (items:Array Value) (n:Nat) (b:Addr) (mE:Array Value) (n2:Nat) (dd:Option Addr) (sl:Array (Option Value)) (hs0:¬(!items.isEmpty&&Builtin.List.listTooLong (items.size+mE.size))=true) (zb:items.size<=sizeLine) (KW:items.size+mE.size<=sizeLine+1):
  Meets (Builtin.«list.extend» ⟨[.ref l,.ref b], []⟩) (λ_ R s=>s.heap.get? l=some {cls:= .type "list",dict:=none,data:= .seq items n,slots:=#[]}/\s.heap.get? b=some {cls:= .type "tuple",dict:=dd,data:= .seq mE n2,slots:=sl}/\R (.ok (.ret Value.none)) {s with heap:=s.heap.update l (Obj.mapSeq λx=>x++mE),toks:=s.toks}):=
 .of_wp λprog w A R s h=>by
  obtain⟨hp,g,d,tk,os⟩:=s;obtain⟨hl,hb,h⟩:=h;have f1:=AutoSeq1.idx_int;have f2:=AutoSeq1.sub_tuple_tuple;have f3:=AutoSeq1.sub_list_list;have f4:=AutoSeq1.sub_tuple_list;have f5:=AutoSeq1.sub_list_tuple;have M4:(items++mE).size<=sizeLine+1:=by rw[Array.size_append];exact KW
  wp_walk using (wpAny_updateSeq hl rfl (hz:=zb) (_hz':=M4)),AutoSeq1.wpAny_loadPart' hl,AutoSeq1.wpAny_loadPart' hb;exact⟨_,rfl,h⟩
theorem tT:Rl X "list.extend" yc:=by
 intro pins s σ H x vs v us Q I rx rv h;obtain⟨l,b,xs,zs,rfl,rfl,hH,hB,hz,q⟩:=h;rcases hB with hB|hB
 .exact bp pins s σ H (.ref l) [.ref b] v us Q I rx rv ⟨xs,zs,hH,hB,hz,q⟩
 cases rx;obtain⟨u,rfl,ru⟩:=rv.one;cases ru;obtain⟨z,aP,n,r,hl,e⟩:=I.uD hH;obtain⟨z2,iU,r2,o2,e2,g8,n2,hd2⟩:=(show cf X.prog X.w H s.heap b (.tup zs)from I.b8 b _ hB)
 have nR:=r2.length;have hsz:aP.toArray.size+iU.toArray.size<=sizeLine:=by rw[AJ,AJ];lia
 have zW:¬(!aP.toArray.isEmpty&&Builtin.List.listTooLong (aP.toArray.size+iU.toArray.size))=true:=by
  rw[sR hsz,GU];exact AR
 obtain⟨c2,d2,ZK,Qn⟩:=o2;have g8:c2= .type "tuple":=g8;have hd2:ZK= .seq iU.toArray n2:=hd2;subst g8 hd2
 apply call_meets F.slot_list_extend ⟨_,e,rfl⟩ F.entry_list_extend (F.args_list_extend_2 _ _)
  (qQ l aP.toArray n b iU.toArray n2 d2 Qn zW (by rw[AJ];lia) (by nofun)) ⟨e,e2,?_⟩
 apply⟨.aY,_,I.Fz (its':=aP++iU) hH e (by simp) (r.append r2) ?_,rfl,q⟩;rw[AB];nofun
theorem xN {prog:Program} {w:World} {A:Around} (hh:A.handled=none) (It d:Addr) (dF:d≠It) (o:Obj) (es:Array DictEntry) (ep:Nat) (n9:o.data= .dict es ep):
  Walks prog w A It [It,d] [It] es.size (λi v=>∃en,es[i]? =some en/\v=en.key) (λi h=>h.IsKeyIter It d i es.size ep/\h.get? d=some o) where
 sub:=λb hb=>by simp at hb;simp[hb]
 frame:=λ_ _ _ st hk=>⟨st.1.at λo e=>hk It (by simp) o e,hk d (by simp) o st.2⟩
 item:=λi s Q E hi st hQ=>by
  obtain⟨en,hx⟩:∃p,es[i]? =some p:=⟨es[i],by simp[hi]⟩
  apply ic st.1 st.2 n9 rfl hx λh' Ge yP=>?_;exact hQ _ h' s.toks ⟨en,hx,rfl⟩ ⟨Ge, (yP.2 d dF).trans st.2⟩ λb o hb e=>(yP.2 b (λh=>hb (by simp[h]))).trans e
 done:=λs Q E st hQ=>jx hh st.1 st.2 n9 rfl (AE _) λh' YH=>hQ h' s.toks λb o hb e=>YH b o (λh=>hb (by simp[h])) e
 self:=λ_ _ _ _ st hQ=>wpAny_pyIter_keyiter st.1 hQ
theorem Gv {prog:Program} {w:World} {d:Addr} (lo:(d==sysModules)=false) (o:Obj) (es:Array DictEntry) (ep:Nat) (hc:o.ExactDict) (n9:o.data= .dict es ep):
  PySem.W.KdlSrc prog w "dict" d d es.size (λi v=>∃en,es[i]? =some en/\v=en.key) (λh=>h.get? d=some o) where
 type:=λ_ hm=>⟨o,hm,hc.1⟩
 there:=λ_ hm=>⟨Heap.lt_size hm,Heap.lt_size hm⟩
 keep:=λ_ _ hm hk=>hk d (.inl rfl) o hm
 notList:=by decide
 notTuple:=by decide
 hint:=λ_ _ _ _ hm hq=>PySem.W.kdl_hint_dict ⟨o,hm,hc.1⟩ hq
 iter:=λ_ _ hh hm=>⟨_,_, (λ_ _ hq=>o7 lo hm hc n9 hq),xN hh _ d (B9 (Heap.lt_size hm)) o es ep n9, ⟨⟨_,Heap.get?_push_size _ rfl,rfl,rfl⟩,Heap.get?_push_of_some _ hm⟩⟩
def Mf:List V->Hp->VK->Prop:=λxs H Q=>∃a aC,xs=[V.ref a]/\H a=some (.dT aC)/\∀(l:Addr) (ks:List Addr),H l=none->Paired (λ(p:List Key×V) (q:Addr)=>H q=some (.tup (p.1.map kV))) aC ks->Q (.ref l) (upd H l (.lst (ks.map V.ref)))
theorem nH (hc:X.calm=true):hZ X (.type "list") Mf:=by
 intro pins s σ H xs us Q I r h;obtain⟨a,aC,rfl,ha,q⟩:=h;obtain⟨u,rfl,ru⟩:=vals1 r;cases ru;obtain⟨z,y,xs,r,o,es,ep,h1,h2,h3,h4,h5⟩:=(show cf X.prog X.w H s.heap a (.dT aC)from I.b8 a _ ha)
 have hl:es.size=aC.length:=by
  have e1:=Paired.length r;have e2:=congrArg BJ h4;rw[AF,CW]at e2;omega
 apply PySem.W.kdl_call (Gv y o es ep h2 h3) (I.ok.hd hc) h1 (by lia) λh' tk LU c' hk hD cu=>?_
 have PY:LU.toList=(xs.map (·.2.1)).map Value.ref:=by
  apply List.ext_getElem? λj=>?_;rw[EL,BR,AV];cases hj:LU[j]? with
  |none=>
   have h6:LU.size<=j:=Array.getElem?_eq_none_iff.mp hj;rw[cu.1]at h6;have e2:=congrArg BJ h4;rw[AF,CW]at e2;rw[DC (by lia)];rfl
  |some v=>
   obtain⟨en,he,rfl⟩:=cu.2 j v hj;have e3:es.toList[j]? =some en:=by rw[EL];exact he
   rw[h4,AV]at e3;cases hx:xs[j]? with
   |none=>rw[hx]at e3;cases e3
   |some x=>
    rw[hx]at e3;have e4:entryOfKey (tupleKind (bw X.prog X.w)) x=en:=AH e3;rw[<-e4];rfl
 have rv:∀l:List Addr,Vals (l.map V.ref) (l.map Value.ref):=by
  intro l
  induction l with
  |nil=>exact .nil
  |cons c l ih=>exact .cons rfl ih
 have pr:Paired (λ(p:List Key×V) (q:Addr)=>H q=some (.tup (p.1.map kV))) aC (xs.map (·.2.1)):=by
  have gen:∀{k:List (List Key×V)} {x:List (List Key×Addr×Value)},Paired (λ(p:List Key×V) (q:List Key×Addr×Value)=>p.1=q.1/\H q.2.1=some (.tup (p.1.map kV))/\RelV p.2 q.2.2) k x->Paired (λ(p:List Key×V) (q:Addr)=>H q=some (.tup (p.1.map kV))) k (x.map (·.2.1)):=by
   intro k x h
   induction h with
   |nil=>exact .nil
   |cons a b ih=>exact .cons a.2.1 ih
  exact gen r
 have hz:((xs.map (·.2.1)).map V.ref).length<=sizeLine:=by
  rw[AF,AF,<-Paired.length r];exact z
 apply⟨.ref s.heap.objs.size,_,I.laid (t':=tk) (o:= .lst ((xs.map (·.2.1)).map V.ref)) hk (AE _) ⟨hz,_,c',rv _,?_⟩,rfl,q _ _ (I.b8.fresh (AE _)) pr⟩;rw[<-PY,Array.toArray_toList];exact hD
def S7 (K:AD) (te:TE):TE:=λσ H Q=>te σ H λx H1=>∃a xs,x= .ref a/\aL K H1 a xs/\∀p,H1 p=none->Q (.ref p) (upd H1 p (.lst xs.reverse))
theorem Mo {e st:Expr} {te:TE} {p2 pos:Pos} (he:PE X e te) (M7:PE X st (tC (.int (-1)))):PE X (.Subscript e (.Slice none none (some st) p2) pos) (S7 X.K te):=by
 intro pins s σ H Q I h;apply Subscript_ (bM (he pins s σ H _ I h) λv s1 ⟨x,H1,I1,r1,a,xs,ex,hx,q1⟩=>?_);subst ex;obtain rfl:v=Value.ref a:=r1;apply wpAny_Slice (wpAny_evalPart_none (wpAny_evalPart_none (wpAny_evalPart_some (bM (M7 pins s1 σ H1 (λx H'=>x= .int (-1)/\H'=H1) I1 ⟨rfl,rfl⟩) λvs s3 ⟨y,H3,I3,ry,ey,eh⟩=>?_))));subst ey eh;have I4:Inv X pins σ H3 {s3 with heap:=s3.heap.push {cls:= .type "slice",data:= .fields #[.none,.none,vs]}}:=I3.kept (t':=s3.toks) λb ob q=>Heap.get?_push_of_some _ q;obtain⟨t,rfl⟩:=ry;obtain⟨aP,r,ht,hz⟩:=I4.list hx;have hlen:=r.length;show wpAny (model X.prog X.w) X.A (subscriptTail e (.Slice none none (some st) p2) (.ref a) (.ref s3.heap.objs.size)) (EP X pins σ Q) X.xe {s3 with heap:=s3.heap.push {cls:= .type "slice",data:= .fields #[.none,.none,.int (-1) t]}}
 apply tail_any (ops:=[.ref a,.ref s3.heap.objs.size]) ht.isList.typeIs slot_list_getitem.lookup ?_ (by with_unfolding_all rfl);apply wpAny_getItem_list_slice ht.isList (Heap.IsSliceOf.new ..) .none .none (.int (-1) t) (by simp) ?_ (by rw[AJ]<;>lia);rw[PySem.W.krv_pick];apply⟨.ref _,_,I4.laid (t':=s3.toks) (o:= .lst xs.reverse) (λb ob q=>Heap.get?_push_of_some _ q) (AE _) ?_,rfl,q1 _ (I4.b8.fresh (AE _))⟩;exact⟨by rw[DG];exact hz,aP.reverse,0,r.reverse,Heap.get?_push_size _ rfl⟩
end
end L2
set_option genInjectivity false
set_option genSizeOf false
namespace An
open PySem L2
def top (i:Nat):Stmt:=GY.main.body.getD i (.Pass ⟨0,0,0,0⟩)
structure Fn (K:AD) (mg:Str->Option Value) (x qual:Str) (st:Stmt) (ps:List Str) where
 f:Addr
 fd:FuncData
 fn:Eh K x qual st f fd
 bd:Binds K fd ps []
 at_:mg x=some (.ref f)
structure Me (K:AD) (C:Addr) (x qual:Str) (st:Stmt) (ps:List Str) where
 f:Addr
 fd:FuncData
 fn:Eh K x qual st f fd
 bd:Binds K fd ps []
 me:Meth K C x f
structure zo (K:AD) (C:Addr) (x qual:Str) (st:Stmt) (ps:List Str) where
 f:Addr
 fd:FuncData
 fn:Eh K x qual st f fd
 bd:Binds K fd ps []
 made:Mk K C f
structure Cn (mg:Str->Option Value) (x:Str) (v:V):Prop where
 ex:∃u,mg x=some u/\RelV v u
structure Tp (K:AD) (mg:Str->Option Value) (x:Str) (xs:List V) where
 a:Addr
 at_:mg x=some (.ref a)
 sq:∀H,bC K H a xs
theorem Cn.pe {X:Cx} {mg:Str->Option Value} {x:Str} {v:V} {pos:Pos} (c:Cn mg x v) (hg:Gl X x) (hm:X.mg=mg:=by rfl) (hd:(x==("__debug__":Str))=false:=by decide):PE X (.Name x pos) (tC v):=by
 obtain⟨u,h,r⟩:=c.ex;exact qt hg (by rw[hm];exact h) r hd
theorem Tp.pe {X:Cx} {K:AD} {mg:Str->Option Value} {x:Str} {xs:List V} {pos:Pos} (c:Tp K mg x xs) (hg:Gl X x) (hm:X.mg=mg:=by rfl) (hd:(x==("__debug__":Str))=false:=by decide):PE X (.Name x pos) (tC (.ref c.a)):=
 qt hg (by rw[hm];exact c.at_) rfl hd
structure Md (w:World) (K:AD) (mg:Str->Option Value) (x:Str) (aC:List (Key×V)) where
 a:Addr
 at_:mg x=some (.ref a)
 d:oK w K a aC
theorem Md.pe {X:Cx} {w:World} {K:AD} {mg:Str->Option Value} {x:Str} {aC:List (Key×V)} {pos:Pos} (c:Md w K mg x aC) (hg:Gl X x) (hm:X.mg=mg:=by rfl) (hd:(x==("__debug__":Str))=false:=by decide):PE X (.Name x pos) (tC (.ref c.a)):=
 qt hg (by rw[hm];exact c.at_) rfl hd
theorem Mn {X:Cx} {j pos p2}:PE X (.UnaryOp .USub (.Constant (.int 1) j pos) p2) (tC (.int (-1))):=by
 intro pins s σ H Q I h;exact dM cG ag pins s σ H Q I h
abbrev s_is_point:Stmt:=top 10
theorem sc_is_point:ar ["number"] ["number"] (ai s_is_point):=by ac_nf
abbrev s_is_letter:Stmt:=top 11
theorem sc_is_letter:ar ["point"] ["point"] (ai s_is_letter):=by ac_nf
abbrev s_small:Stmt:=top 12
theorem sc_small:ar ["points","point"] ["points"] (ai s_small):=by ac_nf
abbrev s_points_of:Stmt:=top 13
theorem sc_points_of:ar ["text","sign"] ["text"] (ai s_points_of):=by ac_nf
abbrev s_word_of:Stmt:=top 14
theorem sc_word_of:ar ["points","signs","point","each"] ["points"] (ai s_word_of):=by ac_nf
abbrev s_sequence_length:Stmt:=top 15
theorem sc_sequence_length:ar ["lead"] ["lead"] (ai s_sequence_length):=by ac_nf
abbrev s_sequence_point:Stmt:=top 16
theorem sc_sequence_point:ar ["sequence","length","point","byte"] ["sequence","length"] (ai s_sequence_point):=by ac_nf
abbrev s_from_utf8:Stmt:=top 17
theorem sc_from_utf8:ar ["came","points","place","length","point"] ["came"] (ai s_from_utf8):=by ac_nf
abbrev s_with_plain_lines:Stmt:=top 18
theorem sc_with_plain_lines:ar ["points","plain","before","point"] ["points"] (ai s_with_plain_lines):=by ac_nf
abbrev s_decoded:Stmt:=top 19
theorem sc_decoded:ar ["came"] ["came"] (ai s_decoded):=by ac_nf
abbrev s_encoded:Stmt:=top 20
theorem sc_encoded:ar ["points","sent","point"] ["points"] (ai s_encoded):=by ac_nf
abbrev s_digit_of:Stmt:=top 40
theorem sc_digit_of:ar ["point"] ["point"] (ai s_digit_of):=by ac_nf
abbrev s_number_of:Stmt:=top 41
theorem sc_number_of:ar ["digits","base","number","point","digit"] ["digits","base"] (ai s_number_of):=by ac_nf
abbrev s_numbered_point:Stmt:=top 42
theorem sc_numbered_point:ar ["points","number"] ["points"] (ai s_numbered_point):=by ac_nf
abbrev s_told_at:Stmt:=top 43
theorem sc_told_at:ar ["points","place","itself","ahead","between","point"] ["points","place"] (ai s_told_at):=by ac_nf
abbrev s_told:Stmt:=top 44
theorem sc_told:ar ["points","result","place","found"] ["points"] (ai s_told):=by ac_nf
abbrev s_Tag_init:Stmt:=inClass (top 49) 0
theorem sc_Tag_init:ar ["self","name","attributes","short"] ["self","name","attributes","short"] (ai s_Tag_init):=by ac_nf
abbrev s_Element_init:Stmt:=inClass (top 50) 0
theorem sc_Element_init:ar ["self","tag","depth"] ["self","tag","depth"] (ai s_Element_init):=by ac_nf
abbrev s_Leaf_init:Stmt:=inClass (top 51) 0
theorem sc_Leaf_init:ar ["self","kind","depth","points"] ["self","kind","depth","points"] (ai s_Leaf_init):=by ac_nf
abbrev s_plain_tag:Stmt:=top 52
theorem sc_plain_tag:ar ["word"] ["word"] (ai s_plain_tag):=by ac_nf
abbrev s_in_order:Stmt:=top 53
theorem sc_in_order:ar ["html","found","waiting","node"] ["html"] (ai s_in_order):=by ac_nf
abbrev s_take_text:Stmt:=top 57
theorem sc_take_text:ar ["tree","point"] ["tree","point"] (ai s_take_text):=by ac_nf
abbrev s_take_remark:Stmt:=top 58
theorem sc_take_remark:ar ["tree","points"] ["tree","points"] (ai s_take_remark):=by ac_nf
abbrev s_take_start:Stmt:=top 59
theorem sc_take_start:ar ["tree","tag"] ["tree","tag"] (ai s_take_start):=by ac_nf
abbrev s_start_in_body:Stmt:=top 60
theorem sc_start_in_body:ar ["tree","tag"] ["tree","tag"] (ai s_start_in_body):=by ac_nf
abbrev s_close_framing_table:Stmt:=top 61
theorem sc_close_framing_table:ar ["tree"] ["tree"] (ai s_close_framing_table):=by ac_nf
abbrev s_start_part:Stmt:=top 62
theorem sc_start_part:ar ["tree","tag","nearest"] ["tree","tag"] (ai s_start_part):=by ac_nf
abbrev s_make_room:Stmt:=top 63
theorem sc_make_room:ar ["tree","word","current"] ["tree","word"] (ai s_make_room):=by ac_nf
abbrev s_make_row_room:Stmt:=top 64
theorem sc_make_row_room:ar ["tree"] ["tree"] (ai s_make_row_room):=by ac_nf
abbrev s_close_for:Stmt:=top 65
theorem sc_close_for:ar ["tree","word"] ["tree","word"] (ai s_close_for):=by ac_nf
abbrev s_close_nearest_of:Stmt:=top 66
theorem sc_close_nearest_of:ar ["tree","words","limits","place"] ["tree","words","limits"] (ai s_close_nearest_of):=by ac_nf
abbrev s_take_end:Stmt:=top 67
theorem sc_take_end:ar ["tree","tag","word","place"] ["tree","tag"] (ai s_take_end):=by ac_nf
abbrev s_end_other:Stmt:=top 68
theorem sc_end_other:ar ["tree","word","place"] ["tree","word"] (ai s_end_other):=by ac_nf
abbrev s_place_of_any:Stmt:=top 80
theorem sc_place_of_any:ar ["points","place","wanted"] ["points","place","wanted"] (ai s_place_of_any):=by ac_nf
abbrev s_place_behind:Stmt:=top 81
theorem sc_place_behind:ar ["points","place","passed"] ["points","place","passed"] (ai s_place_behind):=by ac_nf
abbrev s_name_from:Stmt:=top 82
theorem sc_name_from:ar ["points"] ["points"] (ai s_name_from):=by ac_nf
abbrev s_read_value:Stmt:=top 83
theorem sc_read_value:ar ["points","place","end"] ["points","place"] (ai s_read_value):=by ac_nf
abbrev s_read_attribute:Stmt:=top 84
theorem sc_read_attribute:ar ["points","place","attributes","end","name","value","found"] ["points","place","attributes"] (ai s_read_attribute):=by ac_nf
abbrev s_read_tag:Stmt:=top 85
theorem sc_read_tag:ar ["points","place","end","name","attributes","start","short"] ["points","place"] (ai s_read_tag):=by ac_nf
abbrev s_Tree_init:Stmt:=inClass (top 89) 0
theorem sc_Tree_init:ar ["self"] ["self"] (ai s_Tree_init):=by ac_nf
abbrev s_Tree_current:Stmt:=inClass (top 89) 1
theorem sc_Tree_current:ar ["self"] ["self"] (ai s_Tree_current):=by ac_nf
abbrev s_Tree_nearest:Stmt:=inClass (top 89) 2
theorem sc_Tree_nearest:ar ["self","words","place"] ["self","words"] (ai s_Tree_nearest):=by ac_nf
abbrev s_Tree_within_walls:Stmt:=inClass (top 89) 3
theorem sc_Tree_within_walls:ar ["self","word","place"] ["self","word"] (ai s_Tree_within_walls):=by ac_nf
abbrev s_Tree_close:Stmt:=inClass (top 89) 4
theorem sc_Tree_close:ar ["self","place","closed","styled","element"] ["self","place"] (ai s_Tree_close):=by ac_nf
abbrev s_Tree_close_current:Stmt:=inClass (top 89) 5
theorem sc_Tree_close_current:ar ["self","words"] ["self","words"] (ai s_Tree_close_current):=by ac_nf
abbrev s_Tree_close_within_table:Stmt:=inClass (top 89) 6
theorem sc_Tree_close_within_table:ar ["self","kept"] ["self","kept"] (ai s_Tree_close_within_table):=by ac_nf
abbrev s_Tree_open_again:Stmt:=inClass (top 89) 7
theorem sc_Tree_open_again:ar ["self","tags","tag"] ["self"] (ai s_Tree_open_again):=by ac_nf
abbrev s_Tree_forget_last:Stmt:=inClass (top 89) 8
theorem sc_Tree_forget_last:ar ["self","word","place"] ["self","word"] (ai s_Tree_forget_last):=by ac_nf
abbrev s_Tree_forget_all:Stmt:=inClass (top 89) 9
theorem sc_Tree_forget_all:ar ["self","word","tag"] ["self","word"] (ai s_Tree_forget_all):=by ac_nf
abbrev s_Tree_put_in:Stmt:=inClass (top 89) 10
theorem sc_Tree_put_in:ar ["self","parent","tag","element"] ["self","parent","tag"] (ai s_Tree_put_in):=by ac_nf
abbrev s_Tree_put:Stmt:=inClass (top 89) 11
theorem sc_Tree_put:ar ["self","tag","element"] ["self","tag"] (ai s_Tree_put):=by ac_nf
abbrev s_Tree_put_implying:Stmt:=inClass (top 89) 12
theorem sc_Tree_put_implying:ar ["self","implied","tag","word"] ["self","implied","tag"] (ai s_Tree_put_implying):=by ac_nf
abbrev s_Tree_put_remark:Stmt:=inClass (top 89) 13
theorem sc_Tree_put_remark:ar ["self","parent","points"] ["self","parent","points"] (ai s_Tree_put_remark):=by ac_nf
abbrev s_Tree_put_text:Stmt:=inClass (top 89) 14
theorem sc_Tree_put_text:ar ["self","point","parent"] ["self","point"] (ai s_Tree_put_text):=by ac_nf
abbrev s_Tree_add_attributes:Stmt:=inClass (top 89) 15
theorem sc_Tree_add_attributes:ar ["self","element","tag","had","name"] ["self","element","tag"] (ai s_Tree_add_attributes):=by ac_nf
abbrev s_read_text:Stmt:=top 94
theorem sc_read_text:ar ["points","tree","place"] ["points"] (ai s_read_text):=by ac_nf
abbrev s_point_at:Stmt:=top 95
theorem sc_point_at:ar ["points","place"] ["points","place"] (ai s_point_at):=by ac_nf
abbrev s_read_piece:Stmt:=top 96
theorem sc_read_piece:ar ["tree","points","place","second","found"] ["tree","points","place"] (ai s_read_piece):=by ac_nf
abbrev s_stands_nothing:Stmt:=top 97
theorem sc_stands_nothing:ar ["points","place","second"] ["points","place"] (ai s_stands_nothing):=by ac_nf
abbrev s_behind_nothing:Stmt:=top 98
theorem sc_behind_nothing:ar ["points","place"] ["points","place"] (ai s_behind_nothing):=by ac_nf
abbrev s_read_remark:Stmt:=top 99
theorem sc_read_remark:ar ["tree","points","place","close","end"] ["tree","points","place"] (ai s_read_remark):=by ac_nf
abbrev s_read_end:Stmt:=top 100
theorem sc_read_end:ar ["tree","points","place","found"] ["tree","points","place"] (ai s_read_end):=by ac_nf
abbrev s_read_start:Stmt:=top 101
theorem sc_read_start:ar ["tree","points","place","found","tag","behind","end","opened"] ["tree","points","place"] (ai s_read_start):=by ac_nf
abbrev s_raw_end:Stmt:=top 102
theorem sc_raw_end:ar ["points","place","name","behind"] ["points","place","name"] (ai s_raw_end):=by ac_nf
abbrev s_raw_text:Stmt:=top 103
theorem sc_raw_text:ar ["word","points","text"] ["word","points"] (ai s_raw_text):=by ac_nf
abbrev s_behind_first_line_feed:Stmt:=top 104
theorem sc_behind_first_line_feed:ar ["points","place","found"] ["points","place"] (ai s_behind_first_line_feed):=by ac_nf
abbrev s_told_tree:Stmt:=top 107
theorem sc_told_tree:ar ["html","nodes","numbers","node"] ["html"] (ai s_told_tree):=by ac_nf
abbrev s_add_counted:Stmt:=top 108
theorem sc_add_counted:ar ["numbers","points"] ["numbers","points"] (ai s_add_counted):=by ac_nf
abbrev s_add_tag:Stmt:=top 109
theorem sc_add_tag:ar ["numbers","tag","name"] ["numbers","tag"] (ai s_add_tag):=by ac_nf
abbrev s_written_tree:Stmt:=top 110
theorem sc_written_tree:ar ["html","sent","around","node"] ["html"] (ai s_written_tree):=by ac_nf
abbrev s_escaped:Stmt:=top 111
theorem sc_escaped:ar ["points","safe","point"] ["points"] (ai s_escaped):=by ac_nf
abbrev s_written_tag:Stmt:=top 112
theorem sc_written_tag:ar ["tag","points","name"] ["tag"] (ai s_written_tag):=by ac_nf
abbrev s_written_start:Stmt:=top 113
theorem sc_written_start:ar ["element","first"] ["element"] (ai s_written_start):=by ac_nf
abbrev s_written_text:Stmt:=top 114
theorem sc_written_text:ar ["leaf","parent"] ["leaf","parent"] (ai s_written_text):=by ac_nf
abbrev s_written_end:Stmt:=top 115
theorem sc_written_end:ar ["element"] ["element"] (ai s_written_end):=by ac_nf
abbrev s_Page_init:Stmt:=inClass (top 121) 0
theorem sc_Page_init:ar ["self"] ["self"] (ai s_Page_init):=by ac_nf
abbrev s_Page_begin:Stmt:=inClass (top 121) 1
theorem sc_Page_begin:ar ["self"] ["self"] (ai s_Page_begin):=by ac_nf
abbrev s_Page_feed:Stmt:=inClass (top 121) 2
theorem sc_Page_feed:ar ["self","more"] ["self","more"] (ai s_Page_feed):=by ac_nf
abbrev s_Page_root:Stmt:=inClass (top 121) 3
theorem sc_Page_root:ar ["self"] ["self"] (ai s_Page_root):=by ac_nf
abbrev s_Page_tell:Stmt:=inClass (top 121) 4
theorem sc_Page_tell:ar ["self"] ["self"] (ai s_Page_tell):=by ac_nf
abbrev s_Page_write:Stmt:=inClass (top 121) 5
theorem sc_Page_write:ar ["self","sent"] ["self"] (ai s_Page_write):=by ac_nf
abbrev s_answer_at:Stmt:=top 122
theorem sc_answer_at:ar ["page","calls","place"] ["page","calls","place"] (ai s_answer_at):=by ac_nf
abbrev s_answers:Stmt:=top 123
theorem sc_answers:ar ["calls","page","given","place","answer"] ["calls"] (ai s_answers):=by ac_nf
structure G (w:World) (K:AD) (mg:Str->Option Value) where
 k_Tag:Addr
 cl_Tag:oB K k_Tag
 a_Tag:mg "Tag"=some (.ref k_Tag)
 na_Tag_name:aH K k_Tag "name"
 na_Tag_word:aH K k_Tag "word"
 na_Tag_attributes:aH K k_Tag "attributes"
 na_Tag_short:aH K k_Tag "short"
 na_Tag_text:aH K k_Tag "text"
 na_Tag_written:aH K k_Tag "written"
 k_Element:Addr
 cl_Element:oB K k_Element
 a_Element:mg "Element"=some (.ref k_Element)
 na_Element_kind:aH K k_Element "kind"
 na_Element_depth:aH K k_Element "depth"
 na_Element_tag:aH K k_Element "tag"
 na_Element_word:aH K k_Element "word"
 na_Element_inside:aH K k_Element "inside"
 k_Leaf:Addr
 cl_Leaf:oB K k_Leaf
 a_Leaf:mg "Leaf"=some (.ref k_Leaf)
 na_Leaf_kind:aH K k_Leaf "kind"
 na_Leaf_depth:aH K k_Leaf "depth"
 na_Leaf_points:aH K k_Leaf "points"
 k_Tree:Addr
 cl_Tree:oB K k_Tree
 a_Tree:mg "Tree"=some (.ref k_Tree)
 na_Tree_html:aH K k_Tree "html"
 na_Tree_head:aH K k_Tree "head"
 na_Tree_body:aH K k_Tree "body"
 na_Tree_opened:aH K k_Tree "opened"
 na_Tree_begun:aH K k_Tree "begun"
 na_Tree_remembered:aH K k_Tree "remembered"
 k_Page:Addr
 cl_Page:oB K k_Page
 a_Page:mg "Page"=some (.ref k_Page)
 na_Page_came:aH K k_Page "came"
 na_Page_html:aH K k_Page "html"
 is_point:Fn K mg "is_point" "is_point" s_is_point ["number"]
 is_letter:Fn K mg "is_letter" "is_letter" s_is_letter ["point"]
 small:Fn K mg "small" "small" s_small ["points"]
 points_of:Fn K mg "points_of" "points_of" s_points_of ["text"]
 word_of:Fn K mg "word_of" "word_of" s_word_of ["points"]
 sequence_length:Fn K mg "sequence_length" "sequence_length" s_sequence_length ["lead"]
 sequence_point:Fn K mg "sequence_point" "sequence_point" s_sequence_point ["sequence","length"]
 from_utf8:Fn K mg "from_utf8" "from_utf8" s_from_utf8 ["came"]
 with_plain_lines:Fn K mg "with_plain_lines" "with_plain_lines" s_with_plain_lines ["points"]
 decoded:Fn K mg "decoded" "decoded" s_decoded ["came"]
 encoded:Fn K mg "encoded" "encoded" s_encoded ["points"]
 digit_of:Fn K mg "digit_of" "digit_of" s_digit_of ["point"]
 number_of:Fn K mg "number_of" "number_of" s_number_of ["digits","base"]
 numbered_point:Fn K mg "numbered_point" "numbered_point" s_numbered_point ["points"]
 told_at:Fn K mg "told_at" "told_at" s_told_at ["points","place"]
 told:Fn K mg "told" "told" s_told ["points"]
 Tag_init:zo K k_Tag "__init__" "Tag.__init__" s_Tag_init ["self","name","attributes","short"]
 Element_init:zo K k_Element "__init__" "Element.__init__" s_Element_init ["self","tag","depth"]
 Leaf_init:zo K k_Leaf "__init__" "Leaf.__init__" s_Leaf_init ["self","kind","depth","points"]
 plain_tag:Fn K mg "plain_tag" "plain_tag" s_plain_tag ["word"]
 in_order:Fn K mg "in_order" "in_order" s_in_order ["html"]
 take_text:Fn K mg "take_text" "take_text" s_take_text ["tree","point"]
 take_remark:Fn K mg "take_remark" "take_remark" s_take_remark ["tree","points"]
 take_start:Fn K mg "take_start" "take_start" s_take_start ["tree","tag"]
 start_in_body:Fn K mg "start_in_body" "start_in_body" s_start_in_body ["tree","tag"]
 close_framing_table:Fn K mg "close_framing_table" "close_framing_table" s_close_framing_table ["tree"]
 start_part:Fn K mg "start_part" "start_part" s_start_part ["tree","tag"]
 make_room:Fn K mg "make_room" "make_room" s_make_room ["tree","word"]
 make_row_room:Fn K mg "make_row_room" "make_row_room" s_make_row_room ["tree"]
 close_for:Fn K mg "close_for" "close_for" s_close_for ["tree","word"]
 close_nearest_of:Fn K mg "close_nearest_of" "close_nearest_of" s_close_nearest_of ["tree","words","limits"]
 take_end:Fn K mg "take_end" "take_end" s_take_end ["tree","tag"]
 end_other:Fn K mg "end_other" "end_other" s_end_other ["tree","word"]
 place_of_any:Fn K mg "place_of_any" "place_of_any" s_place_of_any ["points","place","wanted"]
 place_behind:Fn K mg "place_behind" "place_behind" s_place_behind ["points","place","passed"]
 name_from:Fn K mg "name_from" "name_from" s_name_from ["points"]
 read_value:Fn K mg "read_value" "read_value" s_read_value ["points","place"]
 read_attribute:Fn K mg "read_attribute" "read_attribute" s_read_attribute ["points","place","attributes"]
 read_tag:Fn K mg "read_tag" "read_tag" s_read_tag ["points","place"]
 Tree_init:zo K k_Tree "__init__" "Tree.__init__" s_Tree_init ["self"]
 Tree_current:Me K k_Tree "current" "Tree.current" s_Tree_current ["self"]
 Tree_nearest:Me K k_Tree "nearest" "Tree.nearest" s_Tree_nearest ["self","words"]
 Tree_within_walls:Me K k_Tree "within_walls" "Tree.within_walls" s_Tree_within_walls ["self","word"]
 Tree_close:Me K k_Tree "close" "Tree.close" s_Tree_close ["self","place"]
 Tree_close_current:Me K k_Tree "close_current" "Tree.close_current" s_Tree_close_current ["self","words"]
 Tree_close_within_table:Me K k_Tree "close_within_table" "Tree.close_within_table" s_Tree_close_within_table ["self","kept"]
 Tree_open_again:Me K k_Tree "open_again" "Tree.open_again" s_Tree_open_again ["self"]
 Tree_forget_last:Me K k_Tree "forget_last" "Tree.forget_last" s_Tree_forget_last ["self","word"]
 Tree_forget_all:Me K k_Tree "forget_all" "Tree.forget_all" s_Tree_forget_all ["self","word"]
 Tree_put_in:Me K k_Tree "put_in" "Tree.put_in" s_Tree_put_in ["self","parent","tag"]
 Tree_put:Me K k_Tree "put" "Tree.put" s_Tree_put ["self","tag"]
 Tree_put_implying:Me K k_Tree "put_implying" "Tree.put_implying" s_Tree_put_implying ["self","implied","tag"]
 Tree_put_remark:Me K k_Tree "put_remark" "Tree.put_remark" s_Tree_put_remark ["self","parent","points"]
 Tree_put_text:Me K k_Tree "put_text" "Tree.put_text" s_Tree_put_text ["self","point"]
 Tree_add_attributes:Me K k_Tree "add_attributes" "Tree.add_attributes" s_Tree_add_attributes ["self","element","tag"]
 read_text:Fn K mg "read_text" "read_text" s_read_text ["points"]
 point_at:Fn K mg "point_at" "point_at" s_point_at ["points","place"]
 read_piece:Fn K mg "read_piece" "read_piece" s_read_piece ["tree","points","place"]
 stands_nothing:Fn K mg "stands_nothing" "stands_nothing" s_stands_nothing ["points","place"]
 behind_nothing:Fn K mg "behind_nothing" "behind_nothing" s_behind_nothing ["points","place"]
 read_remark:Fn K mg "read_remark" "read_remark" s_read_remark ["tree","points","place"]
 read_end:Fn K mg "read_end" "read_end" s_read_end ["tree","points","place"]
 read_start:Fn K mg "read_start" "read_start" s_read_start ["tree","points","place"]
 raw_end:Fn K mg "raw_end" "raw_end" s_raw_end ["points","place","name"]
 raw_text:Fn K mg "raw_text" "raw_text" s_raw_text ["word","points"]
 behind_first_line_feed:Fn K mg "behind_first_line_feed" "behind_first_line_feed" s_behind_first_line_feed ["points","place"]
 told_tree:Fn K mg "told_tree" "told_tree" s_told_tree ["html"]
 add_counted:Fn K mg "add_counted" "add_counted" s_add_counted ["numbers","points"]
 add_tag:Fn K mg "add_tag" "add_tag" s_add_tag ["numbers","tag"]
 written_tree:Fn K mg "written_tree" "written_tree" s_written_tree ["html"]
 escaped:Fn K mg "escaped" "escaped" s_escaped ["points"]
 written_tag:Fn K mg "written_tag" "written_tag" s_written_tag ["tag"]
 written_start:Fn K mg "written_start" "written_start" s_written_start ["element"]
 written_text:Fn K mg "written_text" "written_text" s_written_text ["leaf","parent"]
 written_end:Fn K mg "written_end" "written_end" s_written_end ["element"]
 Page_init:zo K k_Page "__init__" "Page.__init__" s_Page_init ["self"]
 Page_begin:Me K k_Page "begin" "Page.begin" s_Page_begin ["self"]
 Page_feed:Me K k_Page "feed" "Page.feed" s_Page_feed ["self","more"]
 Page_root:Me K k_Page "root" "Page.root" s_Page_root ["self"]
 Page_tell:Me K k_Page "tell" "Page.tell" s_Page_tell ["self"]
 Page_write:Me K k_Page "write" "Page.write" s_Page_write ["self"]
 answer_at:Fn K mg "answer_at" "answer_at" s_answer_at ["page","calls","place"]
 answers:Fn K mg "answers" "answers" s_answers ["calls"]
 c_REPLACEMENT:Cn mg "REPLACEMENT" (.int 65533)
 c_LAST_POINT:Cn mg "LAST_POINT" (.int 1114111)
 c_BLANKS:Tp K mg "BLANKS" [.int 9,.int 10,.int 12,.int 32]
 c_LINE_FEED:Cn mg "LINE_FEED" (.int 10)
 c_RETURN:Cn mg "RETURN" (.int 13)
 c_LETTERS:Cn mg "LETTERS" (.str "abcdefghijklmnopqrstuvwxyz")
 c_DIGITS:Cn mg "DIGITS" (.str "0123456789")
 c_LEAD_MARKS:Tp K mg "LEAD_MARKS" [.int 0,.int 0,.int 192,.int 224,.int 240]
 c_LEAST_POINTS:Tp K mg "LEAST_POINTS" [.int 0,.int 0,.int 128,.int 2048,.int 65536]
 c_VOID:Tp K mg "VOID" [.str "area",.str "base",.str "br",.str "col",.str "embed",.str "hr",.str "img",.str "input",.str "link",.str "meta",.str "source",.str "track",.str "wbr"]
 c_STYLED:Tp K mg "STYLED" [.str "a",.str "b",.str "big",.str "code",.str "em",.str "font",.str "i",.str "s",.str "small",.str "strike",.str "strong",.str "tt",.str "u"]
 c_BLOCKS:Tp K mg "BLOCKS" [.str "address",.str "article",.str "aside",.str "blockquote",.str "center",.str "dd",.str "details",.str "dialog",.str "dir",.str "div",.str "dl",.str "dt",.str "fieldset",.str "figcaption",.str "figure",.str "footer",.str "form",.str "h1",.str "h2",.str "h3",.str "h4",.str "h5",.str "h6",.str "header",.str "hgroup",.str "hr",.str "li",.str "main",.str "menu",.str "nav",.str "ol",.str "p",.str "pre",.str "section",.str "table",.str "ul"]
 c_HEADINGS:Tp K mg "HEADINGS" [.str "h1",.str "h2",.str "h3",.str "h4",.str "h5",.str "h6"]
 c_WALLS:Tp K mg "WALLS" [.str "html",.str "body",.str "table",.str "td",.str "th",.str "caption",.str "button"]
 c_FRAMES:Tp K mg "FRAMES" [.str "table",.str "thead",.str "tbody",.str "tfoot",.str "tr",.str "colgroup"]
 c_CELLS:Tp K mg "CELLS" [.str "td",.str "th",.str "caption"]
 c_PARTS:Tp K mg "PARTS" [.str "thead",.str "tbody",.str "tfoot",.str "tr",.str "colgroup",.str "td",.str "th",.str "caption",.str "col"]
 c_ROW_GROUPS:Tp K mg "ROW_GROUPS" [.str "thead",.str "tbody",.str "tfoot"]
 c_HEADS:Tp K mg "HEADS" [.str "base",.str "link",.str "meta",.str "title",.str "style",.str "script"]
 c_RAW:Tp K mg "RAW" [.str "script",.str "style",.str "title",.str "textarea"]
 c_RAW_WITHOUT_REFERENCES:Tp K mg "RAW_WITHOUT_REFERENCES" [.str "script",.str "style"]
 c_AMPERSAND:Cn mg "AMPERSAND" (.int 38)
 c_SEMICOLON:Cn mg "SEMICOLON" (.int 59)
 c_NUMBER_SIGN:Cn mg "NUMBER_SIGN" (.int 35)
 c_HEXADECIMAL_SIGNS:Tp K mg "HEXADECIMAL_SIGNS" [.int 88,.int 120]
 c_LONGEST:Cn mg "LONGEST" (.int 8)
 c_NAMED:Md w K mg "NAMED" [(AW "amp",.int 38), (AW "lt",.int 60), (AW "gt",.int 62), (AW "quot",.int 34), (AW "apos",.int 39), (AW "nbsp",.int 160), (AW "copy",.int 169), (AW "reg",.int 174), (AW "deg",.int 176), (AW "para",.int 182), (AW "middot",.int 183), (AW "laquo",.int 171), (AW "raquo",.int 187), (AW "times",.int 215), (AW "divide",.int 247), (AW "ndash",.int 8211), (AW "mdash",.int 8212), (AW "lsquo",.int 8216), (AW "rsquo",.int 8217), (AW "ldquo",.int 8220), (AW "rdquo",.int 8221), (AW "bull",.int 8226), (AW "hellip",.int 8230), (AW "euro",.int 8364), (AW "trade",.int 8482), (AW "larr",.int 8592), (AW "uarr",.int 8593), (AW "rarr",.int 8594), (AW "darr",.int 8595), (AW "minus",.int 8722)]
 c_ELEMENT:Cn mg "ELEMENT" (.int 1)
 c_TEXT:Cn mg "TEXT" (.int 2)
 c_REMARK:Cn mg "REMARK" (.int 3)
 c_ITEM_LIMITS:Tp K mg "ITEM_LIMITS" [.str "li",.str "ul",.str "ol",.str "menu",.str "dir"]
 c_DEFINITION_LIMITS:Tp K mg "DEFINITION_LIMITS" [.str "dd",.str "dt",.str "dl"]
 c_MOST_NAME_POINTS:Cn mg "MOST_NAME_POINTS" (.int 64)
 c_MOST_ATTRIBUTES:Cn mg "MOST_ATTRIBUTES" (.int 64)
 c_SLASH:Cn mg "SLASH" (.int 47)
 c_EQUALS:Cn mg "EQUALS" (.int 61)
 c_GREATER:Cn mg "GREATER" (.int 62)
 c_QUOTES:Tp K mg "QUOTES" [.int 34,.int 39]
 c_BLANKS_AND_SLASH:Tp K mg "BLANKS_AND_SLASH" [.int 9,.int 10,.int 12,.int 32,.int 47]
 c_NAME_ENDS:Tp K mg "NAME_ENDS" [.int 9,.int 10,.int 12,.int 32,.int 47,.int 62]
 c_ATTRIBUTE_NAME_ENDS:Tp K mg "ATTRIBUTE_NAME_ENDS" [.int 9,.int 10,.int 12,.int 32,.int 47,.int 61,.int 62]
 c_VALUE_ENDS:Tp K mg "VALUE_ENDS" [.int 9,.int 10,.int 12,.int 32,.int 62]
 c_MOST_DEPTH:Cn mg "MOST_DEPTH" (.int 199)
 c_MOST_REMEMBERED:Cn mg "MOST_REMEMBERED" (.int 8)
 c_LESS:Cn mg "LESS" (.int 60)
 c_EXCLAMATION:Cn mg "EXCLAMATION" (.int 33)
 c_QUESTION:Cn mg "QUESTION" (.int 63)
 c_ESCAPES:Md w K mg "ESCAPES" [(CU 38,.str "&amp;"), (CU 60,.str "&lt;"), (CU 34,.str "&quot;"), (CU 13,.str "&#13;")]
 c_BEGIN:Cn mg "BEGIN" (.int 0)
 c_FEED:Cn mg "FEED" (.int 1)
 c_TREE:Cn mg "TREE" (.int 2)
 c_MOST_BYTES:Cn mg "MOST_BYTES" (.int 65536)
 n_len:mg "len"=none
 n_ord:mg "ord"=none
 n_any:mg "any"=none
 n_str:mg "str"=none
 n_tuple:mg "tuple"=none
 n_list:mg "list"=none
set_option genInjectivity true
set_option genSizeOf true
def vi (n:Nat):V:= .int n
def VL (t:List Nat):List V:=t.map vi
theorem ax (t:List Nat):(VL t).length=t.length:=AF ..
theorem iz {t:List Nat} {i:Nat} {x:V} (h:(VL t)[i]? =some x):∃n,t[i]? =some n/\x=vi n:=by
 unfold VL at h;rw[AV]at h;cases e:t[i]? with
 |none=>rw[e]at h;cases h
 |some n=>rw[e]at h;exact⟨n,rfl, (AH h).symm⟩
theorem bh (a b:List Nat):VL (a++b)=VL a++VL b:=AL ..
theorem jc (t:List Nat):(VL t).all eU=true:=by
 unfold VL;rw[JZ];exact DH.mpr λ_ _=>rfl
theorem jK (n:Nat) (t:List Nat):xw (.int n) (VL t)=t.contains n:=by
 unfold xw VL;rw[GC]
 induction t with
 |nil=>rfl
 |cons c t ih=>
  rw[CS,BE,ih];congr 1;show((c:Int)==(n:Int))=(n==c)
  by_cases h:c=n
  .subst h;simp
  .have h1:((c:Int)==(n:Int))=false:=by simp;lia
   have h2:(n==c)=false:=by simp;lia
   rw[h1,h2]
theorem cR {t:List Nat} {i n:Nat} (h:t[i]? =some n):qZ (VL t) (i:Int)=some (vi n):=by
 apply dG ?_;unfold VL;rw[AV,h];rfl
theorem lI (n d:Nat) (k:Nat):HT.rh n d (some (k:Int))=min k n:=HT.Gz n d k
theorem xh (xs:List V) (a b:Nat):cb xs (some (a:Int)) (some (b:Int))=(xs.drop a).take (b-a):=by
 unfold cb;rw[lI,lI]
 by_cases h:a<=xs.length
 .rw[DQ h]
  by_cases h2:b<=xs.length
  .rw[DQ h2]
  .rw[HS (by lia),AK (by simp),AK (by simp;lia)]
 .rw[AQ (by lia:xs.length<=min a xs.length),AQ (by lia:xs.length<=a)];simp
theorem lP (xs:List V) (a:Nat):cb xs (some (a:Int)) none=xs.drop a:=by
 unfold cb;rw[lI];show(xs.drop (min a xs.length)).take (xs.length-min a xs.length)=_
 by_cases h:a<=xs.length
 .rw[DQ h,AK (by simp)]
 .rw[AQ (by omega:xs.length<=min a xs.length),AQ (by omega:xs.length<=a)];simp
theorem qC (xs:List V) (b:Nat):cb xs none (some (b:Int))=xs.take b:=by
 unfold cb;rw[lI];show(xs.drop 0).take (min b xs.length-0)=_
 rw[EI,Nat.sub_zero]
 by_cases h:b<=xs.length
 .rw[DQ h]
 .rw[HS (by omega),AK (by nofun),AK (by omega)]
theorem jN (t:List Nat) (a b:Nat):cb (VL t) (some (a:Int)) (some (b:Int))=VL ((t.drop a).take (b-a)):=by
 rw[xh];unfold VL;rw[CJ,CT]
theorem lV (t:List Nat) (a:Nat):cb (VL t) (some (a:Int)) none=VL (t.drop a):=by
 rw[lP];unfold VL;rw[CT]
theorem lT (t:List Nat) (b:Nat):cb (VL t) none (some (b:Int))=VL (t.take b):=by
 rw[qC];unfold VL;rw[CJ]
theorem aj.upd {H:Hp} {a:Addr} {o:HO} (h:H a=none):aj H (upd H a o):=λb u e=>by rw[ae (af e h)];exact e
theorem aj.Ol {H H1:Hp} {a:Addr} {o:HO} (s:aj H H1) (h:H a=none):aj H (L2.upd H1 a o):=λb u e=>by rw[ae (af e h)];exact s b u e
theorem zS {K:AD} {a:Addr} {xs:List V} {i:Nat} {tt:TT} {te:TE} {vs:List Nat} {σ:St} {H1:Hp} {Q:VK} (p:V->Bool) (f:V->V) (hq:aL K H1 a xs) (hz:xs.length<=sizeLine)
  (hw:∀x,wipe ((wipe σ vs).set i (some x)) vs=wipe σ vs)
  (hs:∀x∈xs,∀H',aj H1 H'->(∀Q2:Bool->Hp->Prop,Q2 (p x) H'->tt ((wipe σ vs).set i (some x)) H' Q2)/\(p x=true->∀Q2:VK,Q2 (f x) H'->te ((wipe σ vs).set i (some x)) H' Q2))
  (k:∀D,H1 D=none->Q (.ref D) (upd H1 D (.lst ((xs.filter p).map f)))):
  ∀D,H1 D=none->∃W:Nat->Nat->Hp->Prop, (∃m,W 0 m (upd H1 D (.lst [])))/\∀i' m H,W i' m H->
   ((zm K a).stop i' H/\Q (.ref D) H)\/((zm K a).go i' H/\∃Nx:Hp->Prop, (∀H',Nx H'->∃m',m'<m/\W (i'+1) m' H')/\∀x H', (zm K a).Io i' H x H'->gq i x (wipe σ vs) H' λσ2 H2=>wipe σ2 vs=wipe σ vs/\tt σ2 H2 λb H3=>
    if b=true then te σ2 H3 λy H4=>∃acc,H4 D=some (.lst acc)/\acc.length<sizeLine/\Nx (upd H4 D (.lst (acc++[y])))else Nx H3):=by
 intro D hD;apply Ia (K:=K) (a:=a) (xs:=xs) (g:=gq i) (λj H=>H=upd H1 D (.lst (((xs.take j).filter p).map f))) (by simp) (λj H hj e=>?_) (λj x H hx e=>?_) (λH e=>?_)
 .rw[e];exact(aj.upd hD).seq hq
 .subst e;have hm:x∈xs:=AO hx;obtain⟨h1,h2⟩:=hs x hm _ (aj.upd hD);apply⟨hw x,h1 _ ?_⟩
  have ht:xs.take (j+1)=xs.take j++[x]:=by
   rw[FR,hx];rfl
  by_cases hp:p x=true
  .rw[hp,iP rfl];apply h2 hp _ ⟨_,aa,?_,?_⟩
   .have l1:((xs.take j).filter p).length<=(xs.take j).length:=DT _ _;have l2:j<xs.length:=(BN.mp hx).1;rw[AF];rw[AX]at l1;lia
   .rw[d5,ht,CC,AL];simp[hp]
  .rw[iN hp,ht,CC,AL];simp[hp]
 .subst e;rw[DA];exact k D hD
theorem zT {K:AD} {a:Addr} {tl:TE} {xs:List V} {i:Nat} {tt:TT} {te:TE} {vs:List Nat} {σ:St} {H H1:Hp} {Q:VK} (ht:∀R:VK,R (.ref a) H1->tl σ H R) (p:V->Bool) (f:V->V) (hq:aL K H1 a xs) (hz:xs.length<=sizeLine)
  (hw:∀x,wipe ((wipe σ vs).set i (some x)) vs=wipe σ vs)
  (hs:∀x∈xs,∀H',aj H1 H'->(∀Q2:Bool->Hp->Prop,Q2 (p x) H'->tt ((wipe σ vs).set i (some x)) H' Q2)/\(p x=true->∀Q2:VK,Q2 (f x) H'->te ((wipe σ vs).set i (some x)) H' Q2))
  (k:∀D,H1 D=none->Q (.ref D) (upd H1 D (.lst ((xs.filter p).map f)))):MU (rS K tl) (gq i) tt te vs σ H Q:=
 ht _ ⟨a,rfl, ⟨_,hq⟩,zS p f hq hz hw hs k⟩
theorem iy {K:AD} {a:Addr} {tl:TE} {xs:List V} {g:TG} {tb:TS} {D:Ends} {σ:St} {H H1:Hp} (ht:∀R:VK,R (.ref a) H1->tl σ H R) (Pv:Nat->St->Hp->Prop) (h0:Pv 0 σ H1) (hl:∀i σ H,i<=xs.length->Pv i σ H->aL K H a xs)
  (hs:∀i x σ H,xs[i]? =some x->Pv i σ H->g x σ H λσ2 H2=>tb {D with nx:=Pv (i+1),ct:=Pv (i+1),bk:=D.nx} σ2 H2) (hd:∀σ H,Pv xs.length σ H->D.nx σ H):Ll (rS K tl) g tb D σ H:=
 ht _ ⟨a,rfl, ⟨_,hl 0 σ H1 (A0 _) h0⟩,jm Pv h0 hl hs hd⟩
theorem wZ {K:AD} {tl:TE} {xs:List V} {g:TG} {tb:TS} {D:Ends} {σ:St} {H H0:Hp} (ht:∀R:VK, (∀p H1,H0 p=none->aj H0 H1->H1 p=some (.lst xs)->R (.ref p) H1)->tl σ H R)
  (h:∀p H1,H0 p=none->aj H0 H1->H1 p=some (.lst xs)->∃Pv:Nat->St->Hp->Prop,Pv 0 σ H1/\(∀i σ H,i<=xs.length->Pv i σ H->aL K H p xs)/\
   (∀i x σ H,xs[i]? =some x->Pv i σ H->g x σ H λσ2 H2=>tb {D with nx:=Pv (i+1),ct:=Pv (i+1),bk:=D.nx} σ2 H2)/\(∀σ H,Pv xs.length σ H->D.nx σ H)):Ll (rS K tl) g tb D σ H:=
 ht _ λp H1 hp hs he=>by
  obtain⟨Pv,h0,hl,ht,hd⟩:=h p H1 hp hs he;exact⟨p,rfl, ⟨_,hl 0 σ H1 (A0 _) h0⟩,jm Pv h0 hl ht hd⟩
theorem Mt {K:AD} {tl:TE} {xs:List V} {i:Nat} {tt:TT} {te:TE} {vs:List Nat} {σ:St} {H H0:Hp} {Q:VK} (ht:∀R:VK, (∀p H1,H0 p=none->aj H0 H1->H1 p=some (.lst xs)->R (.ref p) H1)->tl σ H R) (p:V->Bool) (f:V->V) (hz:xs.length<=sizeLine)
  (hw:∀x,wipe ((wipe σ vs).set i (some x)) vs=wipe σ vs)
  (hs:∀x∈xs,∀H',aj H0 H'->(∀Q2:Bool->Hp->Prop,Q2 (p x) H'->tt ((wipe σ vs).set i (some x)) H' Q2)/\(p x=true->∀Q2:VK,Q2 (f x) H'->te ((wipe σ vs).set i (some x)) H' Q2))
  (k:∀D H',H0 D=none->aj H0 H'->H' D=some (.lst ((xs.filter p).map f))->Q (.ref D) H'):MU (rS K tl) (gq i) tt te vs σ H Q:=
 ht _ λa H1 ha R3 he=>⟨a,rfl, ⟨_,aL.of he⟩,zS p f (aL.of he) hz hw (λx hx H' s'=>hs x hx H' (R3.trans s')) λD hD=>k D _ (R3.free hD) (R3.trans (aj.upd hD)) aa⟩
def SE (a b:St):Prop:=a=b
theorem zP {H H':Hp} {l p:Addr} {o o':HO} (s:aj H H') (hp:H p=none) (hl:H' l=none):aj H (upd (upd H' l o) p o'):=λb u e=>by
 rw[ae (af e hp),ae (af (s b u e) hl)];exact s b u e
theorem Jz {H H':Hp} {p:Addr} {o:HO} (s:aj H H') (hp:H p=none):aj H (upd H' p o):=λb u e=>by rw[ae (af e hp)];exact s b u e
theorem uY {H':Hp} {l p:Addr} {o u:HO} (hp:H' p=some u) (hl:H' l=none):upd H' l o p=some u:=by rw[ae (af hp hl)];exact hp
theorem bb {c A B:Prop} {inst:Decidable c} (h1:c->A) (h2:¬c->B):@ite Prop c inst A B:=by
 by_cases h:c
 .rw[iP h];exact h1 h
 .rw[iN h];exact h2 h
theorem rj {c A B:Prop} {inst:Decidable c} (hc:c) (h1:A):@ite Prop c inst A B:=by rw[iP hc];exact h1
theorem nN {c A B:Prop} {inst:Decidable c} (hc:¬c) (h1:B):@ite Prop c inst A B:=by rw[iN hc];exact h1
theorem Ik {H':Hp} {l p:Addr} {o:HO} {xs ys:List V} (hl:H' l=some (.tup ys)) (hp:H' p=some (.lst xs)):upd H' p o l=some (.tup ys):=by rw[ae (aE hl hp (by intro z;cases z))];exact hl
theorem sq {t u:TS} {D:Ends} {σ:St} {H:Hp} (h:t {D with nx:=u D} σ H):zt t u D σ H:=h
theorem g7 {t u:TS} {D:Ends} {σ:St} {H:Hp} (h:∀R:St->Hp->Prop,R=u D->t {D with nx:=R} σ H):zt t u D σ H:=h _ rfl
theorem lK {X:Cx} (K:AD) {e:Expr} {f:Str} {pos:Pos} {ta:TE} (he:PE X e ta) (hb:attributeBase e f X.env (eval e X.env)=eval e X.env) (hK:X.K=K:=by rfl):PE X (.Attribute e f pos) (zu K ta f):=by
 subst hK;exact ak he hb
theorem op_inK {X:Cx} (K:AD) (hK:X.K=K:=by rfl):ip X (compareOp .In) (MX K false):=by
 subst hK;exact op_in_seq
theorem iF (xs:List V):xs.filter (λ_=>true)=xs:=List.filter_eq_self.mpr λ_ _=>rfl
theorem My {a b A B:Prop} [Decidable a] [Decidable b]:(if a then(if b then A else B)else B)=if a/\b then A else B:=by
 by_cases h:a
 .by_cases h':b
  .rw[iP h,iP h',iP ⟨h,h'⟩]
  .rw[iP h,iN h',iN λz=>h' z.2]
 .rw[iN h,iN λz=>h z.1]
theorem PF {a b A B:Prop} [Decidable a] [Decidable b]:(if a then A else(if b then A else B))=if a\/b then A else B:=by
 by_cases h:a
 .rw[iP h,iP (.inl h)]
 .by_cases h':b
  .rw[iN h,iP h',iP (.inr h')]
  .rw[iN h,iN h',iN λz=>z.elim h h']
theorem ZL {CX:Ei} {P:Program} {w:World} {K:AD} {mg:Str->Option Value} {base:Heap} {N:List Str} {qual:Str} {scope:Scope} {f:Addr} {cd:Value} {A:Around} {outer:List Env} {s:Shared} {H:Hp} {E:XK}:
  (rL CX P w K mg base N qual scope f cd A outer s H E).K=K:=rfl
theorem UG {X:Cx}:X.M0.K=X.K:=rfl
theorem fq {K:AD} {H:Hp} {p:Addr} {xs:List V} (h:H p=some (.lst xs)):Qi K "list" (.ref p) H:= .inl ⟨rfl,_,aL.of h⟩
theorem WG {Q:VK} {H:Hp} {a b:Bool} (k:Q (.bl a) H) (e:a=b):Q (.bl b) H:=e▸k
theorem ej {Q:VK} {H:Hp} {a b:Int} (k:Q (.int a) H) (e:a=b):Q (.int b) H:=e▸k
theorem take_snoc {α:Type} {t:List α} {i:Nat} {n:α} (h:t[i]? =some n):t.take (i+1)=t.take i++[n]:=by rw[FR,h];rfl
theorem b7 {α:Type} {t:List α} {i:Nat} {n:α} (h:t[i]? =some n):i<t.length:=(BN.mp h).1
theorem aJ {α:Type} {t:List α} {i:Nat} {n:α} (h:t[i]? =some n):t.drop i=n::t.drop (i+1):=by
 obtain⟨hi,e⟩:=BN.mp h;rw[FH hi,e]
theorem cF {n:Nat} (h:n<=1000000):n<=sizeLine:=AY h nofun
theorem cY {n:Nat} (h:n<=1000000):n<sizeLine:=CL h nofun
theorem yl {m:Nat} (h:m<10000000):((m:Int).natAbs).log2<1920:=by
 rw[Int.natAbs_natCast]
 by_cases h0:m=0
 .subst h0;decide
 .rw[Nat.log2_lt h0];have:(2:Nat) ^ 24<=2 ^ 1920:=GZ nofun nofun;have:(2:Nat) ^ 24=16777216:=by decide
  nofun
def dI (n:Nat):PyData:= .int (n:Int)
theorem r9 (K:AD) (H:Hp):∀t:List Nat,mw K H (VL t) (t.map dI)
 |[]=> .nil
 |c::t=> .cons (.int _) (r9 K H t)
theorem xj:∀t:List Nat,PyData.canLayAll0 (t.map dI)=true
 |[]=>by rw[DD,PyData.canLayAll0]
 |c::t=>by rw[AI,PyData.canLayAll0,xj t];rfl
theorem Bc:∀t:List Nat,PyData.depthAll (t.map dI)=0
 |[]=>by rw[DD,PyData.depthAll]
 |c::t=>by rw[AI,PyData.depthAll,Bc t];rfl
theorem lH (t:List Nat):SeqAt.shaped (.list (t.map dI))=true:=by
 unfold SeqAt.shaped;rw[PyData.canLay0,xj,PyData.depth,Bc];rfl
theorem LM:∀s t:List Nat,PyData.eqvAll (s.map dI) (t.map dI)=decide (s=t)
 |[], []=>by rw[DD,PyData.eqvAll];rfl
 |[],d::t=>by rw[DD,AI,PyData.eqvAll];rfl
 |c::s, []=>by rw[DD,AI,PyData.eqvAll];rfl
 |c::s,d::t=>by
  rw[AI,AI,PyData.eqvAll,LM s t]
  have:PyData.eqv (dI c) (dI d)=decide (c=d):=by
   unfold dI;rw[PyData.eqv]
   by_cases h:c=d
   .subst h;simp
   .have:¬(c:Int)=(d:Int):=by lia
    simp[h,this]
  rw[this]
  by_cases h1:c=d<;>by_cases h2:s=t<;>simp[h1,h2]
theorem jM {K:AD} {H:Hp} {a b:Addr} {s t:List Nat} {Q:VK} (ha:aL K H a (VL s)) (hb:aL K H b (VL t)) (q:Q (.bl (decide (s=t))) H):OF K (.ref a) (.ref b) H Q:=
 ⟨.list (s.map dI),.list (t.map dI),.lst ha (r9 K H s),.lst hb (r9 K H t),lH s,lH t,by rw[PyData.eqv,LM];exact q⟩
theorem Mr {K:AD} {H:Hp} {a b:Addr} {s t:List Nat} {Q:VK} (ha:aL K H a (VL s)) (hb:aL K H b (VL t)) (q:Q (.bl (!decide (s=t))) H):OC K (.ref a) (.ref b) H Q:=
 ⟨.list (s.map dI),.list (t.map dI),.lst ha (r9 K H s),.lst hb (r9 K H t),lH s,lH t,by rw[PyData.eqv,LM];exact q⟩
theorem qg:bootBuiltins "len"=some (.builtin "len"):=by decide+kernel
theorem MN:bootBuiltins "ord"=some (.builtin "ord"):=by decide+kernel
theorem MO:bootBuiltins "any"=some (.builtin "any"):=by decide+kernel
theorem MM:bootBuiltins "str"=some (.type "str"):=by decide+kernel
theorem Df:bootBuiltins "tuple"=some (.type "tuple"):=by decide+kernel
theorem xl:bootBuiltins "list"=some (.type "list"):=by decide+kernel
section
theorem Hf {i j:Int} {H:Hp} {Q:VK}:Qr (.int i) (.int j) H Q=Q (.bl (decide (i=j))) H:=rfl
theorem Hd {i j:Int} {H:Hp} {Q:VK}:RE (.int i) (.int j) H Q=Q (.bl (!decide (i=j))) H:=rfl
theorem He {i j:Str} {H:Hp} {Q:VK}:Qr (.str i) (.str j) H Q=Q (.bl (decide (i=j))) H:=rfl
theorem Hc {i j:Str} {H:Hp} {Q:VK}:RE (.str i) (.str j) H Q=Q (.bl (!decide (i=j))) H:=rfl
theorem Xg {p A B:Prop} {i:Decidable p} {j:Decidable (decide p=true)} (h:if p then A else B):@ite Prop (decide p=true) j A B:=by by_cases e:p<;>simpa [e]using h
theorem Xf {p A B:Prop} {i:Decidable p} {j:Decidable ((!decide p)=true)} (h:if¬p then A else B):@ite Prop ((!decide p)=true) j A B:=by by_cases e:p<;>simpa [e]using h
theorem Xe {b:Bool} {A B:Prop} {j:Decidable ((!b)=true)} (h:if b=false then A else B):@ite Prop ((!b)=true) j A B:=by cases b<;>simpa using h
theorem W5 {p:Prop} (h:p):V.aY=V.aY/\p:=⟨rfl,h⟩
theorem Bg {o:Option (Option V)} {v:V} {p:V->Prop} (h:o=some (some v)) (q:p v):Jq o p:=by subst h;exact q
theorem Xj:(!true)=false:=rfl
theorem Xi:(!false)=true:=rfl
theorem Xd {a:Addr} {A B:Prop} {j:Decidable (decide (V.ref a=V.aY)=true)} (h:B):@ite Prop (decide (V.ref a=V.aY)=true) j A B:=by rw[iN (by simp)];exact h
theorem Xc {A B:Prop} {j:Decidable (decide (V.aY=V.aY)=true)} (h:A):@ite Prop (decide (V.aY=V.aY)=true) j A B:=by rw[iP (by simp)];exact h
theorem Xb {A B:Prop} {j:Decidable ((!decide (V.aY=V.aY))=true)} (h:B):@ite Prop ((!decide (V.aY=V.aY))=true) j A B:=by rw[iN (by simp)];exact h
theorem Xa {a:Addr} {A B:Prop} {j:Decidable ((!decide (V.ref a=V.aY))=true)} (h:A):@ite Prop ((!decide (V.ref a=V.aY))=true) j A B:=by rw[iP (by simp)];exact h
theorem Xh {α:Sort _} {A B:α}:(if false=true then A else B)=B:=rfl
theorem W4 {α:Sort _} {A B:α}:(if true=true then A else B)=A:=rfl
theorem W9 {p A B:Prop} [Decidable p]:(if decide p=true then A else B)=if p then A else B:=by by_cases h:p<;>simp[h]
theorem W8 {p A B:Prop} [Decidable p]:(if(!decide p)=true then A else B)=if¬p then A else B:=by by_cases h:p<;>simp[h]
theorem W7:D6 some ([]:List V)=[]:=rfl
theorem W6 {a:V} {l:List V}:D6 some (a::l)=some a::D6 some l:=rfl
end
@[inline] def nq (e : String) : Lean.MacroM (Lean.TSyntax `tactic) := do
  let n (s : String) := Lean.mkIdent s.toName
  let f (s : String) := (s.splitOn ",").toArray.mapM fun x => `(Lean.Parser.Tactic.simpLemma| $(n x):ident)
  let a ← f ( "vi,ZL,UG,zN,rN,zu,Oz,U0,OA,U2,Ov,wJ,wI,OB,OE,Ln,OD,Rt,Ou,Lk,Oo,Ju,Jy,Oq,Jw,uK,tC,lX,Ow,Dr,rI,U3,Ip,UZ,rU,S9,rM,tB,Fv,U1,Ot,Ru,Ft,zM,Fu,gq,RV,zO,uA,oE,Jx,Rv,Jv,wy,L2.start,List.length_cons,List.length_nil,List.replicate,Nat.reduceSub,Nat.reduceAdd,List.cons_append,List.nil_append,List.set_cons_zero,List.set_cons_succ,List.getElem?_cons_zero,List.getElem?_cons_succ,UJ,UL,UM,UK,UI,UN,UO,Hf,Hd,He,Hc,W7,W6,Xh,W4,Xj,Xi"++ e)
  let d ← ( "W9,W8,reduceIte".splitOn ",").toArray.mapM fun x => `(Lean.Parser.Tactic.simpLemma| ↓ $(n x):ident)
  let d := d ++ (← f "vi,aa,d5,HO.lst.injEq,List.append_nil,Nat.add_sub_cancel,Nat.sub_self,Nat.zero_add,Option.some.injEq,exists_eq_left',exists_eq_left,exists_eq',exists_eq,exists_eq_right,exists_and_left,V.int.injEq,V.bl.injEq,V.ref.injEq,V.str.injEq,true_and,and_true,List.cons.injEq,forall_eq,Bool.true_eq_false,reduceCtorEq,false_and,and_false,My,PF,decide_eq_true_eq,Bool.not_eq_true',decide_eq_false_iff_not,if_true,if_false,Bool.false_eq_true,Bool.not_true,Bool.not_false")
  let i := n "ite"
  `(tactic| ((try dsimp only [$a,*]); (try with_reducible refine $(n "W5") ?_); with_reducible first | (show @$i _ _ _ (@$i _ _ _ _ _) _; simp only [$d,*]) | (show @$i _ _ _ _ (@$i _ _ _ _ _); simp only [$d,*]) | refine $(n "Xd") ?_ | refine $(n "Xc") ?_ | refine $(n "Xb") ?_ | refine $(n "Xa") ?_ | refine $(n "Xg") ?_ | refine $(n "Xf") ?_ | refine $(n "Xe") ?_ | (show ∃ _, _; simp only [$d,*]) | skip))
local macro_rules | `(tactic| walk_at "rd") => nq ",zt"
local macro_rules | `(tactic| walk_at "r1") => nq ""
variable{P:Program} {w:World} {K:AD} {mg:Str->Option Value} {base:Heap}
variable{g:G w K mg} {F F':Addr->Prop} {H H':Hp} {p:Addr} {s:Rd27.S} {Q:VK} {E:XK}
local macro_rules | `(tactic| ext) => `(tactic| walk_at "r1")
local macro_rules | `(tactic| cbv) => `(tactic| refine sq ?_)
open Lean in
@[inline] def gn (f : Name) (x : List String) : Ident := mkIdent (x.foldl Name.mkStr (.mkStr `g f.toString))
open Lean in
@[inline] def kn (a : String) (f : Name) : Ident := mkIdent (Name.mkSimple (a ++ f.toString))
open Lean in
@[inline] def cn (a : String) (f : Name) : Ident := mkIdent (.mkStr `g (a ++ ((f.toString.splitOn "_").headD "")))
local macro_rules | `(%[ $xs,* | a ]) => do
  let mut r ← `(Au)
  for x in xs.getElems.reverse do r ← `(wU $x $r)
  return r
local macro_rules | `(%[ $xs,* | b ]) => do
  let l := xs.getElems.toList.reverse
  match l with
  | [] => `(Hi)
  | x :: l =>
    let mut r ← `(Hh $x)
    for y in l do r ← `(Bw $y $r)
    return r
local macro_rules | `(unop% $f $a) => do
  let g := Lean.mkIdent `g
  let r := Lean.mkIdent `hr.mono
  match f.getId with
  | .str .anonymous s =>
    let f := Lean.Name.mkSimple s
    `(Ho ($(kn "ok_" f) $g) ($r (by decide)) rfl $(gn f ["at_"]) $(gn f ["fn", "kp"]) $(gn f ["bd"]) .nil rP $a)
  | .str (.str .anonymous "N") s =>
    let f := Lean.Name.mkSimple s
    `(Hm $(gn f ["made"]) ($(kn "ok_" f) $g) ($r (by decide)) rfl $(cn "a_" f) $(gn f ["bd"]) .nil rP $a)
  | .str (.str .anonymous "O") s =>
    let f := Lean.Name.mkSimple s
    `(Cb $(gn f ["made"]) ($(kn "ok_" f) $g) ($r (by decide)) rfl $(cn "a_" f) $(gn f ["bd"]) .nil rP)
  | .str (.str .anonymous "M") s =>
    let f := Lean.Name.mkSimple s
    `(Ca $a $(cn "cl_" f) $(gn f ["me"]) ($(kn "ok_" f) $g) ($r (by decide)) $(gn f ["bd"]) .nil rP)
  | .str (.str .anonymous "L") _ => `(fE qU (by rfl) $(Lean.mkIdent `g.n_len) qg (wU $a Au))
  | _ => Lean.Macro.throwUnsupported
local macro_rules | `(binop% $f $o $a) => do
  let g := Lean.mkIdent `g
  let r := Lean.mkIdent `hr.mono
  match f.getId with
  | .str .anonymous s =>
    let f := Lean.Name.mkSimple s
    `(Hl $o $(cn "cl_" f) $(gn f ["me"]) ($(kn "ok_" f) $g) ($r (by decide)) $(gn f ["bd"]) .nil rP $a)
  | .str (.str (.str .anonymous "B") n) t => `(Pz PySem.F.plainAttrs_list $(Lean.mkIdent (.mkStr `PySem.F ("slot_list_" ++ n))) $(Lean.mkIdent (.mkStr `PySem.F ("type_list_" ++ n))) $(Lean.mkIdent (.mkSimple t)) $o $a)
  | _ => Lean.Macro.throwUnsupported
local macro_rules | `(leftact% $f $i $e) => do
  match f.getId with
  | .str .anonymous s => `(Mj (i := $i) $(Lean.mkIdent (.mkStr (.mkSimple ("sc_" ++ s)) "nd")) rfl (Or.inl rfl) $e)
  | _ => Lean.Macro.throwUnsupported
local macro_rules | `(rightact% $f $a $b) => do
  match f.getId with
  | .str .anonymous _ => `(Py $f $a $b (fun _ _ => rfl))
  | _ => Lean.Macro.throwUnsupported
local macro_rules | `(binrel% $f $a $b) => do
  if f.getId.toString.startsWith "op_" then `(cD $f $a $b (dk _)) else Lean.Macro.throwUnsupported
local macro_rules | `(binrel_no_prop% $f $a $b) => do
  if f.getId.toString.startsWith "op_" then `(cD $f $a $b (by with_unfolding_all rfl)) else Lean.Macro.throwUnsupported
open Rd27 renaming T→Aa,text→aG,S→a8,Attr→cO,isOne→c5,encode→d9,WALLS→fh,nearest→g0,RAW→lj,never→nL,opened→nK,row→Ab,deep→oC,added→pO,startOf→pN,inFrame→rf,nodes→rb,refs→ui,Open→uh,CELLS→ug,safe→uf,close→uw,closing→Ac,raw→xE,VOID→y3,current→y0,STYLED→zr,closeNear→zq,reopened→Ek,tellNode→Ej,upToOne→Fp,BLOCKS→Fo,encode1→Js,SILENT→Ad,small→Lh,tag→Lg,putText→Lf,written→Le,GROUPS→Nq,decode→Oj,upTo→Oi,points→Rp,Node→Ro,isTable→Rn,PARTS→Ae,NAMED→S3,LOWEST→S2,closeTable→S1,HEADINGS→S0,blank→SY,writeAll→SX
inductive sp_is_point (_:G w K mg) (vs:List V) (H:Hp) (Q:VK) (_:XK):Prop
 |i (n:Int) (_:vs=[.int n]) (_:Q (.bl (fO n)) H)
theorem ok_is_point (g:G w K mg):aI P w K mg base bO 1 g.is_point.f g.is_point.fd ["number"] (sp_is_point g):=by
 apply g.is_point.fn.bW sc_is_point λvs H Q E h=>?_;obtain⟨n,rfl,k⟩:=h;apply⟨rfl,λ_ _ _ _ hr=>?_⟩;apply⟨_,%[ao (As (ji op_le op_le (ag) (pv 0) (g.c_LAST_POINT.pe rfl)) (uS (Ar (ji op_le op_le (ag) (pv 0) (ag)))))|b],?_⟩;walk_at"rd"
 repeat' split
 all_goals (apply WG k ?_;unfold fO;rw[C6];simp;omega)
def isLet (n:Int):Bool:=(decide (65<=n)&&decide (n<=90))||(decide (97<=n)&&decide (n<=122))
inductive sp_is_letter (_:G w K mg) (vs:List V) (H:Hp) (Q:VK) (_:XK):Prop
 |i (n:Int) (_:vs=[.int n]) (_:Q (.bl (isLet n)) H)
theorem ok_is_letter (g:G w K mg):aI P w K mg base bO 1 g.is_letter.f g.is_letter.fd ["point"] (sp_is_letter g):=by
 apply g.is_letter.fn.bW sc_is_letter λvs H Q E h=>?_;obtain⟨n,rfl,k⟩:=h;apply⟨rfl,λ_ _ _ _ hr=>?_⟩;apply⟨_,%[ao (Pw (ji op_le op_le (ag) (pv 0) (ag)) (uS (ji op_le op_le (ag) (pv 0) (ag))))|b],?_⟩;walk_at"rd"
 repeat' split
 all_goals (apply WG k ?_;unfold isLet;rw[C6];simp;omega)
def iW (H:Hp) (t:List Nat) (Q:VK):Prop:=∀p H',H p=none->aj H H'->H' p=some (.lst (VL t))->Q (.ref p) H'
inductive sp_small (_:G w K mg) (vs:List V) (H:Hp) (Q:VK) (_:XK):Prop
 |i (a:Addr) (t:List Nat) (_:vs=[.ref a]) (_:aL K H a (VL t)) (_:t.length<=sizeLine) (_:iW H (t.map Lh) Q)
theorem ok_small (g:G w K mg):aI P w K mg base bO 1 g.small.f g.small.fd ["points"] (sp_small g):=by
 apply g.small.fn.bW sc_small λvs H Q E h=>?_;obtain⟨a,t,rfl,ha,hz,k⟩:=h;apply⟨rfl,λ_ _ _ _ hr=>?_⟩;apply⟨_,%[ao (rO (own:=[("point",1)]) rfl sc_small.nd (bV (pv 0)) (fJ (N:=["points","point"]) (sc:=ai s_small) (by decide+kernel)) (λ_ _ _ _ _=>bI (i:=1) sc_small.nd rfl (CM rfl)) (λ_ _ _ _ _=>lJ) (λ_ _ _ _ _=>mP (dq op_le op_le (ag) (pv 1) (ag)) (ay op_add (pv 1) (ag)) (pv 1)))|b],?_⟩;apply⟨a,rfl, ⟨_,ha⟩,zS (λ_=>true) (λv=>match v with| .int n=>if 65<=n/\n<=90 then .int (n+32)else .int n|v=>v) ha (by rw[ax];exact hz) (λx=>rfl) (λx hx H' hs=>⟨λQ2 q=>q,λ_ Q2 q=>?_⟩) (λD hD=>?_)⟩
 .obtain⟨n,_,rfl⟩:=BC.mp hx;simp only[vi]at q ⊢;show Ru _ _ _ [some (V.ref a),some (V.int (n:Int))] H' Q2
  walk_at"rd"
  repeat' split
  all_goals simp_all
 .rw[iF]
  apply k D _ hD (aj.upd hD) (by
   rw[aa];congr 2;unfold VL;rw[BR,BR];apply E4 λn _=>?_;simp only[vi,Function.comp,Lh]
   by_cases h:65<=n/\n<=90
   .rw[iP h,iP (by lia)];rfl
   .rw[iN h,iN (by lia)])
theorem Ms {x:Str} {i:Nat} {te:TE} {vs:List Nat} {σ:St} {H1:Hp} (f:Nat->V) (hz:x.cps.size<=sizeLine)
  (hw:∀v,wipe ((wipe σ vs).set i (some v)) vs=wipe σ vs)
  (hs:∀c:Nat,c∈x.cps.toList->∀H',aj H1 H'->∀Q2:VK,Q2 (f c) H'->te ((wipe σ vs).set i (some (.str ⟨#[c]⟩))) H' Q2)
  (k:∀D,H1 D=none->Q (.ref D) (upd H1 D (.lst (x.cps.toList.map f)))):
  ∀D,H1 D=none->∃W:Nat->Nat->Hp->Prop, (∃m,W 0 m (upd H1 D (.lst [])))/\∀i' m H,W i' m H->
   ((Of x).stop i' H/\Q (.ref D) H)\/((Of x).go i' H/\∃Nx:Hp->Prop, (∀H',Nx H'->∃m',m'<m/\W (i'+1) m' H')/\∀v H', (Of x).Io i' H v H'->gq i v (wipe σ vs) H' λσ2 H2=>wipe σ2 vs=wipe σ vs/\Fs σ2 H2 λb H3=>
    if b=true then te σ2 H3 λy H4=>∃acc,H4 D=some (.lst acc)/\acc.length<sizeLine/\Nx (upd H4 D (.lst (acc++[y])))else Nx H3):=by
 intro D hD;apply⟨λj m H=>m=x.cps.size-j/\j<=x.cps.size/\H=upd H1 D (.lst ((x.cps.toList.take j).map f)), ⟨_,rfl,A0 _,by simp⟩,?_⟩;rintro j m H ⟨rfl,hj,rfl⟩
 by_cases h:j<x.cps.size
 .right
  apply⟨h,λH=>H=upd H1 D (.lst ((x.cps.toList.take (j+1)).map f)),λH' e=>⟨x.cps.size-(j+1),by lia,rfl,by nofun,e⟩,?_⟩;rintro v H' ⟨rfl,c,hc,rfl⟩;have Jl:x.cps.toList[j]? =some c:=by simpa using hc
  apply⟨hw _,?_⟩;show Fs _ _ _
  simp only[Fs,if_true];apply hs c (AO Jl) _ (aj.upd hD) _ ⟨_,aa,?_,?_⟩
  .rw[AF,AX];simp;lia
  .show _=upd H1 D _
   rw[d5,FR,Jl,AL];rfl
 .left
  apply⟨by show x.cps.size<=j;nofun,?_⟩;have e:x.cps.toList.take j=x.cps.toList:=AK (by simp;omega);rw[e];exact k D hD
inductive sp_points_of (_:G w K mg) (vs:List V) (H:Hp) (Q:VK) (_:XK):Prop
 |i (x:Str) (_:vs=[.str x]) (_:x.cps.size<=sizeLine) (_:iW H x.cps.toList Q)
theorem ok_points_of (g:G w K mg):aI P w K mg base bO 1 g.points_of.f g.points_of.fd ["text"] (sp_points_of g):=by
 apply g.points_of.fn.bW sc_points_of λvs H Q E h=>?_;obtain⟨x,rfl,hz,k⟩:=h;apply⟨rfl,λ_ _ _ _ hr=>?_⟩;apply⟨_,%[ao (rO (own:=[("sign",1)]) rfl sc_points_of.nd (Ml (pv 0)) (fJ (N:=["text","sign"]) (sc:=ai s_points_of) (by decide+kernel)) (λ_ _ _ _ _=>bI (i:=1) sc_points_of.nd rfl (CM rfl)) (λ_ _ _ _ _=>lJ) (λ_ _ _ _ _=>fE De (by rfl) g.n_ord MN %[pv 1|a]))|b],?_⟩;apply⟨x,rfl,Ms (λc=>vi c) hz (λx=>rfl) (λc hc H' hs Q2 q=>?_) (λD hD=>k D _ hD (aj.upd hD) (by rw[aa];rfl))⟩;exact⟨rfl,q⟩
def eW (n:Nat):Bool:=(decide (97<=n)&&decide (n<=122))||(decide (48<=n)&&decide (n<=57))
def gi (t:List Nat):List Nat:=if t.all eW=true then t else t.flatMap λn=>44::TL.dv n
def W (t:List Nat):Str:=⟨(gi t).toArray⟩
theorem vF:∀k,k<26->(("abcdefghijklmnopqrstuvwxyz":Str).cps.toList)[k]? =some (97+k):=by decide+kernel
theorem yF:∀k,k<10->(("0123456789":Str).cps.toList)[k]? =some (48+k):=by decide+kernel
theorem o6:∀l:List (List Nat),TL.hW [] l=l.flatten
 |[]=>rfl
 |[p]=>by simp[TL.hW]
 |p::q::r=>by
  show p++([]++TL.hW [] (q::r))=_
  rw[o6 (q::r)];simp
theorem kN:∀l:List (List Nat),l≠[]->44::TL.hW [44] l=l.flatMap λd=>44::d
 |[],h=>absurd rfl h
 |[p],_=>by simp[TL.hW]
 |p::q::r,_=>by
  show 44::(p++([44]++TL.hW [44] (q::r)))=_
  rw[CV,<-kN (q::r) (by simp)];simp
theorem join_one (t:List Nat):Txt.join (Str.ofString "") (t.map λn=>(⟨#[n]⟩:Str))=⟨t.toArray⟩:=by
 apply TL.uX ?_;rw[TL.join_eq,TL.qk];have e:TL.tl (Str.ofString "")=[]:=by decide+kernel
 rw[e,o6,BR];show _=t
 have:(TL.tl∘λn:Nat=>(⟨#[n]⟩:Str))=λn=>[n]:=rfl;rw[this]
 induction t with
 |nil=>rfl
 |cons c t ih=>rw[AI,List.flatten_cons,ih];rfl
theorem vI (t:List Nat) (h:t≠[]):Str.ofString ","++Txt.join (Str.ofString ",") (t.map λn=>Str.ofString (toString ((n:Nat):Int)))=⟨(t.flatMap λn=>44::TL.dv n).toArray⟩:=by
 apply TL.uX ?_;rw[TL.gS,TL.join_eq,TL.qk];have e:TL.tl (Str.ofString ",")=[44]:=by decide+kernel
 rw[e,BR];have:(TL.tl∘λn:Nat=>Str.ofString (toString ((n:Nat):Int)))=TL.dv:=funext λn=>TL.uJ n;rw[this];show 44::TL.hW [44] (t.map TL.dv)=t.flatMap λn=>44::TL.dv n
 rw[kN _ (by simpa using h),HU]
theorem Bo (t:List Nat):(D6 ((λx=>x.length)∘λn:Nat=>(⟨#[n]⟩:Str)) t).sum=t.length:=by
 induction t with
 |nil=>rfl
 |cons c t ih=>rw[AI,FY,ih,AA];show 1+_=_;lia
inductive sp_word_of (_:G w K mg) (vs:List V) (H:Hp) (Q:VK) (_:XK):Prop
 |i (a:Addr) (t:List Nat) (_:vs=[.ref a]) (_:aL K H a (VL t)) (_:t.length<=100) (_:(∀n∈t,n<10000000)) (_:∀H',aj H H'->Q (.str (W t)) H')
theorem ok_word_of (g:G w K mg):aI P w K mg base bO 1 g.word_of.f g.word_of.fd ["points"] (sp_word_of g):=by
 apply g.word_of.fn.bW sc_word_of λvs H Q E h=>?_;obtain⟨a,t,rfl,ha,hl,hn,k⟩:=h;apply⟨rfl,λ_ _ _ _ hr=>?_⟩;apply⟨_,%[leftact% word_of 1 (aM %[|a]),dy PassesOwn.never rfl (bV (pv 0)) (bI (i:=2) sc_word_of.nd rfl (CM rfl)) %[aw (dq op_le op_le (ag) (pv 2) (ag)) %[au (binop% B.append.aU (pv 1) %[rightact% Az (g.c_LETTERS.pe rfl) (ay op_sub (pv 2) (ag))|a])|b] %[aw (dq op_le op_le (ag) (pv 2) (ag)) %[au (binop% B.append.aU (pv 1) %[rightact% Az (g.c_DIGITS.pe rfl) (ay op_sub (pv 2) (ag))|a])|b] %[ao (ay op_add_str (aB) (wQ (aB) (rO (own:=[("each",3)]) rfl sc_word_of.nd (bV (pv 0)) (fJ (N:=["points","signs","point","each"]) (sc:=ai s_word_of) (by decide+kernel)) (λ_ _ _ _ _=>bI (i:=3) sc_word_of.nd rfl (CM rfl)) (λ_ _ _ _ _=>lJ) (λ_ _ _ _ _=>gU qS (by rfl) g.n_str MM %[pv 3|a]))))|b]|b]|b],ao (wQ (aB) (pv 1))|b],?_⟩;apply⟨A0 _,λp hp=>?_⟩;apply⟨a,rfl, ⟨_, (aj.upd hp).seq ha⟩,jm (K:=K) (a:=a) (xs:=VL t) (λi σ H'=>∃v:Option V,σ=[some (.ref a),some (.ref p),v,none]/\H'=upd H p (.lst ((t.take i).map λn=> .str ⟨#[n]⟩))/\(t.take i).all eW=true) ⟨none,rfl,by simp,rfl⟩ ?_ ?_ ?_⟩
 .rintro i σ H' hi ⟨v,rfl,rfl,_⟩;exact(aj.upd hp).seq ha
 .rintro i x σ H' hx ⟨v,rfl,rfl,K5⟩;obtain⟨n,xA,rfl⟩:=iz hx;simp only[vi];walk_at"rd";have hi:=b7 xA;have hm:=AO xA
  have l1:(D6 (λn=>V.str ⟨#[n]⟩) (ER i t)).length<sizeLine:=by
   rw[AF,AX];exact cY (by lia)
  apply lq (λhc=>?_) (λhc=>lq (λhd=>?_) (λhd=>?_))
  .have e1:=vF (n-97) (by lia);have e2:(n:Int)-97=((n-97:Nat):Int):=by lia
   apply⟨fq aa,by decide,_,by rw[e2];exact dG e1,l1,?_,?_⟩
   .rw[take_snoc xA,AL];have:97+(n-97)=n:=by lia
    rw[this];rfl
   .rw[take_snoc xA,IF,K5];simp[eW];lia
  .have e1:=yF (n-48) (by lia);have e2:(n:Int)-48=((n-48:Nat):Int):=by lia
   apply⟨fq aa,by decide,_,by rw[e2];exact dG e1,l1,?_,?_⟩
   .rw[take_snoc xA,AL];have:48+(n-48)=n:=by lia
    rw[this];rfl
   .rw[take_snoc xA,IF,K5];simp[eW];lia
  .have T5:t.all eW=false:=by
    rw[List.all_eq_false];apply⟨n,hm,?_⟩;simp[eW];lia
   apply zT (a:=a) (λR r=>r) (λ_=>true) (λv=>match v with| .int m=> .str (Str.ofString (toString m))|v=>v) ((aj.upd hp).seq ha) (by rw[ax];exact cF (by nofun)) (λx=>rfl) (λx hx H' hs=>⟨λQ2 q=>q,λ_ Q2 q=>?_⟩) (λD hD=>?_)
   .obtain⟨m,Yt,rfl⟩:=BC.mp hx;exact⟨yl (hn m Yt),q⟩
   .rw[iF]
    have e1:(VL t).map (λv=>match v with|V.int m=>V.str (Str.ofString (toString m))|v=>v)=(t.map λn=>Str.ofString (toString ((n:Nat):Int))).map V.str:=by
     unfold VL;rw[BR,BR];rfl
    rw[e1]
    have Yv:∀n∈t, (Str.ofString (toString ((n:Nat):Int))).length<=7:=λn h=>by
     rw[TL.mD,TL.uJ];exact TL.sQ nofun (hn n h)
    have TQ:∀l:List Nat, (∀n∈l,n∈t)->((l.map λn=>Str.ofString (toString ((n:Nat):Int))).map (λx=>x.length)).sum<=7*l.length:=by
     intro l
     induction l with
     |nil=>intro _;simp
     |cons c l ih=>
      intro h;rw[AI,AI,FY,AA];have:=ih λn hn=>h n (by simp[hn]);have:=Yv c (h c (by simp));lia
    have Z9:=TQ t λ_ h=>h;have g9:(Str.ofString ",").length=1:=by decide
    have dF:t≠[]:=λz=>by rw[z]at hm;simp at hm
    have hj:=vI t dF
    have hlen:(Str.ofString ",").length+(Txt.join (Str.ofString ",") (t.map λn=>Str.ofString (toString ((n:Nat):Int)))).length<=800:=by
     have e:=congrArg Str.length hj
     have e2:(Str.ofString ","++Txt.join (Str.ofString ",") (t.map λn=>Str.ofString (toString ((n:Nat):Int)))).length=(Str.ofString ",").length+(Txt.join (Str.ofString ",") (t.map λn=>Str.ofString (toString ((n:Nat):Int)))).length:=by
      rw[TL.mD,TL.gS,AB,<-TL.mD,<-TL.mD]
     rw[e2]at e;rw[e];show((t.flatMap λn=>44::TL.dv n).toArray).size<=800
     rw[AJ]
     have:∀l:List Nat, (∀n∈l,n∈t)->(l.flatMap λn=>44::TL.dv n).length<=8*l.length:=by
      intro l
      induction l with
      |nil=>intro _;simp
      |cons c l ih=>
       intro h;rw[CV,AB,AA,AA];have:=ih λn hn=>h n (by simp[hn]);have:=TL.sQ (k:=7) nofun (hn c (h c (by simp)));lia
     have:=this t λ_ h=>h;lia
    apply⟨D,rfl,_,.inl (aL.of aa),?_,?_,?_⟩
    .rw[g9,AF];lia
    .exact cF (by nofun)
    .rw[hj];have e:W t=⟨(t.flatMap λn=>44::TL.dv n).toArray⟩:=by unfold W gi;rw[T5,iN nofun]
     rw[<-e];exact k _ ((aj.upd hp).trans (aj.upd hD))
 .rintro σ H' ⟨v,rfl,rfl,K5⟩;walk_at"rd";rw[ax,DA]at*;apply⟨t.map λn=>⟨#[n]⟩,.inl (aL.of ?_),?_,?_⟩
  .rw[aa,BR];rfl
  .rw[BR];rw[Bo,AF];have:(Str.ofString "").length=0:=by decide
   rw[this];nofun
  .rw[join_one];have e:W t=⟨t.toArray⟩:=by unfold W gi;rw[iP K5]
   rw[<-e];exact k _ (aj.upd hp)
inductive sp_sequence_length (_:G w K mg) (vs:List V) (H:Hp) (Q:VK) (_:XK):Prop
 |i (a:Nat) (_:vs=[.int a]) (_:Q (.int (aK a)) H)
theorem ok_sequence_length (g:G w K mg):aI P w K mg base bO 1 g.sequence_length.f g.sequence_length.fd ["lead"] (sp_sequence_length g):=by
 apply g.sequence_length.fn.bW sc_sequence_length λvs H Q E h=>?_;obtain⟨n,rfl,k⟩:=h;apply⟨rfl,λ_ _ _ _ hr=>?_⟩;apply⟨_,%[aw (binrel% op_lt (pv 0) (ag)) %[ao (ag)|b] %[|b],aw (dq op_le op_lt (ag) (pv 0) (ag)) %[ao (ag)|b] %[|b],aw (dq op_le op_lt (ag) (pv 0) (ag)) %[ao (ag)|b] %[|b],aw (dq op_le op_lt (ag) (pv 0) (ag)) %[ao (ag)|b] %[|b],ao (ag)|b],?_⟩;walk_at"rd"
 repeat' split
 all_goals (apply ej k ?_;unfold aK;repeat' split)
 all_goals lia
theorem qN (l:List Nat):∀(p:Int) (i n:Nat) (q:Int),l[i]? =some n->¬(n:Int)/64=2->bH p (l.take i)=some q->bH p l=none:=by
 induction l with
 |nil=>intro p i n q h;simp at h
 |cons c l ih=>
  intro p i n q h hn hq;cases i with
  |zero=>
   have:c=n:=by simpa using h
   rw[bH,iN (by rw[this];exact hn)]
  |succ i=>
   rw[BK,bH]at hq;rw[bH]
   by_cases hc:(c:Int)/64=2
   .rw[iP hc]at hq ⊢;exact ih _ i n q (by simpa using h) hn hq
   .rw[iN hc]
theorem qM (l:List Nat):∀(p:Int) (q:Int) (n:Nat),bH p l=some q->(n:Int)/64=2->bH p (l++[n])=some (q*64+(n:Int) % 64):=by
 induction l with
 |nil=>intro p q n h hn;cases h;rw[BA,bH,iP hn];rfl
 |cons c l ih=>
  intro p q n h hn;rw[bH]at h;rw[AS,bH]
  by_cases hc:(c:Int)/64=2
  .rw[iP hc]at h ⊢;exact ih _ _ _ h hn
  .rw[iN hc]at h;cases h
theorem Hz (n:Nat) (h:n<=4):qZ [V.int 0,V.int 0,V.int 192,V.int 224,V.int 240] (n:Int)=some (V.int (fH n)):=by
 have:n=0\/n=1\/n=2\/n=3\/n=4:=by lia
 rcases this with rfl|rfl|rfl|rfl|rfl<;>rfl
theorem Co (n:Nat) (h:n<=4):qZ [V.int 0,V.int 0,V.int 128,V.int 2048,V.int 65536] (n:Int)=some (V.int (i8 n)):=by
 have:n=0\/n=1\/n=2\/n=3\/n=4:=by omega
 rcases this with rfl|rfl|rfl|rfl|rfl<;>rfl
inductive sp_sequence_point (_:G w K mg) (vs:List V) (H:Hp) (Q:VK) (_:XK):Prop
 |i (a:Addr) (t:List Nat) (n:Nat) (_:vs=[.ref a,.int n]) (_:aL K H a (VL t)) (_:n<=4) (_:t.length<=1000000) (_:(∀c∈t,c<100000)) (_:∀H',aj H H'->Q (.int (cB t n)) H')
theorem ok_sequence_point (g:G w K mg):aI P w K mg base bO 2 g.sequence_point.f g.sequence_point.fd ["sequence","length"] (sp_sequence_point g):=by
 apply g.sequence_point.fn.bW sc_sequence_point λvs H Q E h=>?_;obtain⟨a,t,n,rfl,ha,hn,hl,hb,k⟩:=h;apply⟨rfl,λ_ _ _ _ hr=>?_⟩;apply⟨_,%[aw (PW.pt (hU (binrel% op_eq (pv 1) (ag)) (fS (binrel% op_lt (unop% L.n (pv 0)) (pv 1))))) %[ao (dM cG (ag))|b] %[|b],leftact% sequence_point 2 (ay op_sub (rightact% aN (pv 0) (ag)) (rightact% cQ (g.c_LEAD_MARKS.pe rfl) (pv 1))),dy PassesOwn.never rfl (bV (aO aW (pv 0) (aF (ag)) cE)) (bI (i:=3) sc_sequence_point.nd rfl (CM rfl)) %[aw (binrel% op_ne (ay op_fdiv (pv 3) (ag)) (ag)) %[ao (dM cG (ag))|b] %[|b],leftact% sequence_point 2 (ay op_add (ay op_mul (pv 2) (ag)) (ay op_mod (pv 3) (ag)))|b],aw (PW.pt (hU (binrel% op_lt (pv 2) (rightact% cQ (g.c_LEAST_POINTS.pe rfl) (pv 1))) (fS (mz (c7 (unop% is_point %[pv 2|a])))))) %[ao (dM cG (ag))|b] %[|b],ao (pv 2)|b],?_⟩;walk_at"rd";have hv:∀{i:Nat} {c:Nat},t[i]? =some c->qZ (VL t) (i:Int)=some (vi c):=λh=>cR h;apply lq (λh0=>?_) (λh0=>?_)
 .refine ej (k H (aj.refl H)) ?_;unfold cB;rw[iP (by left;lia)]
 apply⟨_,.inl ha,?_⟩;ext;rw[ax];apply lq (λh1=>?_) (λh1=>?_)
 .refine ej (k H (aj.refl H)) ?_;unfold cB;rw[iP (by right;lia)]
 obtain⟨c,r,rfl⟩:∃c r,t=c::r:=by
  cases t with
  |nil=>simp at h1;lia
  |cons c r=>exact⟨c,r,rfl⟩
 apply⟨_,ha,vi c,cR (i:=0) rfl,_,g.c_LEAD_MARKS.sq H,_,Hz n hn,?_⟩;ext;apply wZ (xs:=VL r) (H0:=H) (λR q=>⟨_,ha,λp hp=>q p _ hp (aj.upd hp) ?_⟩) (λp H1 hp zb Si=>⟨λi σ H'=>∃(v:Option V) (q:Int),SE σ [some (.ref a),some (.int n),some (.int q),v]/\aj H1 H'/\bH ((c:Int)-fH n) (r.take i)=some q, ⟨none,_,rfl,aj.refl _,rfl⟩,?_,?_,?_⟩)
 .rw[aa];exact congrArg (λq=>some (HO.lst q)) (lV (c::r) 1)
 .rintro i σ H' _ ⟨v,q,rfl,s',_⟩;exact aL.of (s' _ _ Si)
 .rintro i x σ H' hx ⟨v,q,rfl,s',hq⟩;obtain⟨m,hm,rfl⟩:=iz hx;simp only[vi];walk_at"rd";apply⟨⟨by decide,by decide⟩,?_⟩;ext;apply lq (λh2=>?_) (λh2=>?_)
  .refine ej (k H' (zb.trans s')) ?_;unfold cB;rw[iN (by simp at h1;simp;lia),GN,GW,qN r _ i m q hm h2 hq]
  .have h2:(m:Int)/64=2:=by lia
   apply⟨.inr ⟨by decide,by decide⟩,by decide,_,_,rfl,s',?_⟩;rw[take_snoc hm];exact qM _ _ _ _ hq h2
 .rintro σ H' ⟨v,q,rfl,s',hq⟩;rw[ax,DA]at hq
  have e:cB (c::r) n=if q<i8 n\/fO q=false then-1 else q:=by
   unfold cB;rw[iN (by simp at h1;simp;lia),GN,GW,hq]
  have kk:=k H' (zb.trans s');rw[e]at kk;walk_at"rd";apply⟨_,g.c_LEAST_POINTS.sq H',_,Co n hn,?_⟩;ext;apply lq (λh2=>?_) (λh2=>⟨_,rfl,?_⟩)
  .exact ej kk (by rw[iP (.inl h2)])
  .walk_at"rd";apply lq (λh3=>?_) (λh3=>?_)
   .exact ej kk (by rw[iP (.inr h3)])
   .exact ej kk (by rw[iN (λz=>z.elim h2 h3)])
inductive sp_from_utf8 (_:G w K mg) (vs:List V) (H:Hp) (Q:VK) (_:XK):Prop
 |i (a:Addr) (t:List Nat) (_:vs=[.ref a]) (_:aL K H a (VL t)) (_:t.length<=1000000) (_:(∀c∈t,c<100000)) (_:iW H (Oj 0 t) Q)
theorem ok_from_utf8 (g:G w K mg):aI P w K mg base bO 3 g.from_utf8.f g.from_utf8.fd ["came"] (sp_from_utf8 g):=by
 apply g.from_utf8.fn.bW sc_from_utf8 λvs H Q E h=>?_;obtain⟨a,t,rfl,ha,hl,hb,k⟩:=h;apply⟨rfl,λ_ _ _ _ hr=>?_⟩;apply⟨_,%[leftact% from_utf8 1 (aM %[|a]),leftact% from_utf8 2 (ag),bE PassesOwn.never (binrel% op_lt (pv 2) (unop% L.n (pv 0))) %[leftact% from_utf8 3 (unop% sequence_length %[rightact% aN (pv 0) (pv 2)|a]),leftact% from_utf8 4 (unop% sequence_point %[aO aW (pv 0) (aF (pv 2)) (aF (ay op_add (pv 2) (pv 3))),pv 3|a]),aw (binrel% op_lt (pv 4) (ag)) %[au (binop% B.append.aU (pv 1) %[g.c_REPLACEMENT.pe rfl|a]),eD (i:=2) sc_from_utf8.nd rfl (CM rfl) (ag) gw|b] %[au (binop% B.append.aU (pv 1) %[pv 4|a]),eD (i:=2) sc_from_utf8.nd rfl (CM rfl) (pv 3) gw|b]|b],ao (pv 1)|b],?_⟩;walk_at"rd";apply⟨A0 _,λp hp=>?_⟩
 apply⟨λm σ H'=>∃(q:Nat) (out:List Nat) (v3 v4:Option V),SE σ [some (.ref a),some (.ref p),some (.int q),v3,v4]/\m=t.length-q/\out.length<=q/\q<=t.length/\H' p=some (.lst (VL out))/\aj H H'/\out++Oj 0 (t.drop q)=Oj 0 t,
  ⟨t.length,0, [],none,none,rfl,by simp,by simp,by simp,aa,aj.upd hp,by simp⟩,?_⟩
 rintro m σ H' ⟨q,out,v3,v4,rfl,rfl,hq,R6,ik,sH,he⟩;walk_at"rd";apply⟨_,.inl (sH.seq ha),?_⟩;rw[ax];apply lq (λh=>⟨_,λ_ _ h=>h,?_⟩) (λh=>?_)
 .have gc:q<t.length:=by lia
  obtain⟨c,hc⟩:∃c,t[q]? =some c:=⟨t[q],AN gc⟩
  have hd:=aJ hc;have Sk:=AO hc;have step:=kU c (t.drop (q+1));rw[<-hd]at step;walk_at"rd";apply⟨_,sH.seq ha,_,cR hc,c,rfl,?_⟩;walk_at"rd";apply⟨_,sH.seq ha,λl oy=>?_⟩;have s1:aj H (upd H' l (.lst (cb (VL t) (some (q:Int)) (some ((q:Int)+(aK c:Int)))))):=sH.trans (aj.upd oy)
  have LO:cb (VL t) (some (q:Int)) (some ((q:Int)+(aK c:Int)))=VL ((t.drop q).take (aK c)):=by
   have:(q:Int)+(aK c:Int)=((q+aK c:Nat):Int):=by nofun
   rw[this,jN];congr 2;lia
  have h4:aK c<=4:=by
   unfold aK
   repeat' split
   all_goals lia
  have Xk:p≠l:=af ik oy;apply⟨l, (t.drop q).take (aK c),aK c,rfl,?_,h4,?_,?_,λH2 s2=>?_⟩
  .rw[LO];exact aL.of aa
  .rw[AX,AM];omega
  .exact λc hc=>hb c (BH (CB hc))
  walk_at"rd";have eK:H2 p=some (.lst (VL out)):=s2 _ _ (by rw[ae Xk];exact ik);have lo:(VL out).length<sizeLine:=by rw[ax];exact cY (by lia)
  have sa:aj H H2:=s1.trans s2;apply lq (λhn=>?_) (λhn=>?_)
  .rw[iP hn]at step;apply⟨fq eK,_,eK,lo,t.length-(q+1),by lia,q+1,out++[65533],_,_,rfl,rfl,by simp;nofun,by nofun,?_,λb o e=>?_,?_⟩
   .rw[bh];rfl
   .rw[ae (af e hp)];exact sa b o e
   .rw[<-he,step];simp
  .rw[iN hn]at step;have TV:=m8 hn
   have hle:aK c<=t.length-q:=by
    have:=cI ((t.drop q).take (aK c)) (aK c);rw[AX,AM]at this
    by_cases z:aK c<=t.length-q
    .exact z
    .exact absurd (by rw[this (by omega)];decide) hn
   apply⟨fq eK,_,eK,lo,t.length-(q+aK c),by lia,q+aK c,out++[(cB ((t.drop q).take (aK c)) (aK c)).toNat],_,_,rfl,rfl,by simp;lia,by lia,?_,λb o e=>?_,?_⟩
   .rw[bh];congr 1;show [_]=[vi _]
    unfold vi;rw[D4 (by lia)]
   .rw[ae (af e hp)];exact sa b o e
   .rw[<-he,step,A7];simp
 .have:q=t.length:=by lia
  subst this;rw[DJ]at he;have e0:Oj 0 []=[]:=rfl;rw[e0,A6]at he;rw[he]at ik;exact k p H' hp sH ik
inductive sp_with_plain_lines (_:G w K mg) (vs:List V) (H:Hp) (Q:VK) (_:XK):Prop
 |i (a:Addr) (t:List Nat) (_:vs=[.ref a]) (_:aL K H a (VL t)) (_:t.length<=1000000) (_:iW H (Rd27.plain t) Q)
def iX (b:Int) (t:List Nat):Int:=match t.getLast? with|none=>b|some d=>(d:Int)
theorem vH (b:Int) (t:List Nat) (c:Nat):iX b (t++[c])=c:=by unfold iX;simp
theorem gL:∀(t:List Nat) (b:Int) (c:Nat),aZ b (t++[c])=aZ b t++plain1 (iX b t) c
 |[],b,c=>by simp[aZ,iX]
 |d::t,b,c=>by
  rw[AS,aZ,gL t,aZ,AZ];unfold iX;cases t with
  |nil=>rfl
  |cons e t=>rw[DI];rfl
theorem ib:∀(t:List Nat) (b:Int), (aZ b t).length<=t.length
 |[],_=>AE _
 |c::t,b=>by
  rw[aZ,AB,AA];have:=ib t c
  have:(plain1 b c).length<=1:=by
   unfold plain1
   repeat' split
   all_goals simp
  lia
theorem ok_with_plain_lines (g:G w K mg):aI P w K mg base bO 1 g.with_plain_lines.f g.with_plain_lines.fd ["points"] (sp_with_plain_lines g):=by
 apply g.with_plain_lines.fn.bW sc_with_plain_lines λvs H Q E h=>?_;obtain⟨a,t,rfl,ha,hl,k⟩:=h;apply⟨rfl,λ_ _ _ _ hr=>?_⟩;apply⟨_,%[leftact% with_plain_lines 1 (aM %[|a]),leftact% with_plain_lines 2 (dM cG (ag)),dy PassesOwn.never rfl (bV (pv 0)) (bI (i:=3) sc_with_plain_lines.nd rfl (CM rfl)) %[aw (binrel% op_eq (pv 3) (g.c_RETURN.pe rfl)) %[au (binop% B.append.aU (pv 1) %[g.c_LINE_FEED.pe rfl|a])|b] %[aw (binrel% op_eq (pv 3) (ag)) %[au (binop% B.append.aU (pv 1) %[g.c_REPLACEMENT.pe rfl|a])|b] %[aw (PW.pt (hU (binrel% op_ne (pv 3) (g.c_LINE_FEED.pe rfl)) (fS (binrel% op_ne (pv 2) (g.c_RETURN.pe rfl))))) %[au (binop% B.append.aU (pv 1) %[pv 3|a])|b] %[|b]|b]|b],leftact% with_plain_lines 2 (pv 3)|b],ao (pv 1)|b],?_⟩;walk_at"rd";apply⟨A0 _,λp hp=>?_⟩;apply iy (xs:=VL t) (a:=a) (λR r=>r) (λi σ H'=>∃v:Option V,SE σ [some (.ref a),some (.ref p),some (.int (iX (-1) (t.take i))),v]/\aj H H'/\H' p=some (.lst (VL (aZ (-1) (t.take i))))) ⟨none,rfl,aj.upd hp,aa⟩ (λi σ H' _ ⟨_,_,s',_⟩=>s'.seq ha) ?_ ?_
 .rintro i x σ H' hx ⟨v,rfl,s',ik⟩;obtain⟨c,hc,rfl⟩:=iz hx;have hi:=b7 hc;simp only[vi];walk_at"rd"
  have lo:(VL (aZ (-1) (t.take i))).length<sizeLine:=by
   rw[ax];have:=ib (t.take i) (-1);rw[AX]at this;exact cY (by lia)
  have sp:∀o,aj H (upd H' p o):=λo b u e=>by rw[ae (af e hp)];exact s' b u e
  have eq:=gL (t.take i) (-1) c;have eg:iX (-1) (t.take (i+1))=c:=by rw[take_snoc hc];exact vH _ _ _
  rw[<-take_snoc hc]at eq
  have go:∀l:List Nat,plain1 (iX (-1) (t.take i)) c=l->VL (aZ (-1) (t.take i))++VL l=VL (aZ (-1) (t.take (i+1))):=λl e=>by
   rw[eq,bh,e]
  simp only[eg];apply lq (λh1=>?_) (λh1=>lq (λh2=>?_) (λh2=>lq (λh3=>?_) (λh3=>?_)))
  .refine⟨fq ik,_,ik,lo,_,rfl,sp _,go [10] ?_⟩
   .unfold plain1;rw[iP (by lia)]
  .refine⟨fq ik,_,ik,lo,_,rfl,sp _,go [65533] ?_⟩
   .unfold plain1;rw[iN (by lia),iP (by lia)]
  .refine⟨fq ik,_,ik,lo,_,rfl,sp _,go [c] ?_⟩
   .unfold plain1;rw[iN (by lia),iN (by lia),iP (by lia)]
  .refine⟨_,rfl,s',?_⟩
   .have:plain1 (iX (-1) (t.take i)) c=[]:=by unfold plain1;rw[iN (by lia),iN (by lia),iN (by lia)]
    rw[eq,this,A6];exact ik
 .rintro σ H' ⟨v,rfl,s',ik⟩;rw[ax,DA,lA]at ik;exact k p H' hp s' ik
theorem iH:∀(n:Nat) (t:List Nat),t.length<=n->(Oj 0 t).length<=t.length
 |_, [],_=>AE _
 |0,_::_,h=>by simp at h
 |n+1,c::t,h=>by
  have hn:t.length<=n:=by simpa using h
  rw[kU]
  split
  .rw[AA,AA];have:=iH n t hn;nofun
  .rename_i hs
   have hp:=m8 hs;have:=iH n ((c::t).drop (aK c)) (by simp;lia);rw[AA,AA];rw[AM,AA]at this;omega
inductive sp_decoded (_:G w K mg) (vs:List V) (H:Hp) (Q:VK) (_:XK):Prop
 |i (a:Addr) (t:List Nat) (_:vs=[.ref a]) (_:aL K H a (VL t)) (_:t.length<=1000000) (_:(∀c∈t,c<100000)) (_:iW H (Rp t) Q)
theorem ok_decoded (g:G w K mg):aI P w K mg base bO 4 g.decoded.f g.decoded.fd ["came"] (sp_decoded g):=by
 apply g.decoded.fn.bW sc_decoded λvs H Q E h=>?_;obtain⟨a,t,rfl,ha,hl,hb,k⟩:=h;apply⟨rfl,λ_ _ _ _ hr=>?_⟩;apply⟨_,%[ao (unop% with_plain_lines %[unop% from_utf8 %[pv 0|a]|a])|b],?_⟩;walk_at"rd";apply⟨a,t,rfl,ha,hl,hb,λp H1 hp s1 h1=>?_⟩;exact⟨p,_,rfl,aL.of h1,AY (iH _ t (AE _)) hl,λq H2 hq s2 h2=>k q H2 (s1.free hq) (s1.trans s2) h2⟩
theorem kR (t:List Nat) {i c:Nat} (h:t[i]? =some c):d9 (t.take (i+1))=d9 (t.take i)++Js c:=by
 rw[take_snoc h,cV];congr 1;simp[d9]
inductive sp_encoded (_:G w K mg) (vs:List V) (H:Hp) (Q:VK) (_:XK):Prop
 |i (a:Addr) (t:List Nat) (_:vs=[.ref a]) (_:aL K H a (VL t)) (_:(d9 t).length<=sizeLine) (_:iW H (d9 t) Q)
theorem vO (t:List Nat) {i c:Nat} (h:t[i]? =some c):(d9 (t.take i)).length+(Js c).length<=(d9 t).length:=by
 have e:d9 t=d9 (t.take (i+1))++d9 (t.drop (i+1)):=by rw[<-cV,BV]
 rw[e,kR t h,AB,AB];lia
theorem ok_encoded (g:G w K mg):aI P w K mg base bO 1 g.encoded.f g.encoded.fd ["points"] (sp_encoded g):=by
 apply g.encoded.fn.bW sc_encoded λvs H Q E h=>?_;obtain⟨a,t,rfl,ha,hl,k⟩:=h;apply⟨rfl,λ_ _ _ _ hr=>?_⟩;apply⟨_,%[leftact% encoded 1 (aM %[|a]),dy PassesOwn.never rfl (bV (pv 0)) (bI (i:=2) sc_encoded.nd rfl (CM rfl)) %[aw (binrel% op_lt (pv 2) (ag)) %[au (binop% B.append.aU (pv 1) %[pv 2|a])|b] %[aw (binrel% op_lt (pv 2) (ag)) %[au (binop% B.extend.bp (pv 1) %[aM %[ay op_add (ag) (ay op_fdiv (pv 2) (ag)),ay op_add (ag) (ay op_mod (pv 2) (ag))|a]|a])|b] %[aw (binrel% op_lt (pv 2) (ag)) %[au (binop% B.extend.bp (pv 1) %[aM %[ay op_add (ag) (ay op_fdiv (pv 2) (ag)),ay op_add (ag) (ay op_mod (ay op_fdiv (pv 2) (ag)) (ag)),ay op_add (ag) (ay op_mod (pv 2) (ag))|a]|a])|b] %[au (binop% B.extend.bp (pv 1) %[aM %[ay op_add (ag) (ay op_fdiv (pv 2) (ag)),ay op_add (ag) (ay op_mod (ay op_fdiv (pv 2) (ag)) (ag)),ay op_add (ag) (ay op_mod (ay op_fdiv (pv 2) (ag)) (ag)),ay op_add (ag) (ay op_mod (pv 2) (ag))|a]|a])|b]|b]|b]|b],ao (pv 1)|b],?_⟩;walk_at"rd";apply⟨A0 _,λp hp=>?_⟩;apply iy (xs:=VL t) (a:=a) (λR r=>r) (λi σ H'=>∃v:Option V,SE σ [some (.ref a),some (.ref p),v]/\aj H H'/\H' p=some (.lst (VL (d9 (t.take i))))) ⟨none,rfl,aj.upd hp,aa⟩ (λi σ H' _ ⟨_,_,s',_⟩=>s'.seq ha) ?_ ?_
 .rintro i x σ H' hx ⟨v,rfl,s',ik⟩;obtain⟨c,hc,rfl⟩:=iz hx;have hi:=b7 hc;simp only[vi];walk_at"rd";have fi:=vO t hc;have het:=kR t hc;have ee:∀l:List Nat,Js c=l->VL (d9 (t.take i))++VL l=VL (d9 (t.take (i+1))):=λl e=>by rw[het,bh,e]
  have lo:∀l:List Nat,Js c=l->(VL (d9 (t.take i))).length+l.length<=sizeLine:=λl e=>by rw[ax];rw[e]at fi;nofun
  unfold Js at ee lo;generalize hX:(65536:Int)=X;apply bb (λh1=>?_) (λh1=>bb (λh2=>?_) (λh2=>bb (λh3=>?_) (λh3=>?_)))
  .rw[iP (by omega)]at ee lo;exact⟨fq ik,_,ik,lo [c] rfl,_,rfl,Jz s' hp,ee [c] rfl⟩
  .rw[iN (by omega),iP (by omega)]at ee lo;exact⟨fq ik, ⟨by nofun,by nofun⟩,by decide,by decide,λl hl=>⟨_,uY ik hl,lo _ rfl,_,rfl,zP s' hp hl,ee _ rfl⟩⟩
  .rw[iN (by omega),iN (by omega),iP (by omega)]at ee lo;exact⟨fq ik, ⟨by nofun,by nofun⟩, ⟨by omega,by omega⟩,by decide,by decide,by decide,λl hl=>⟨_,uY ik hl,lo _ rfl,_,rfl,zP s' hp hl,ee _ rfl⟩⟩
  .rw[iN (by omega),iN (by omega),iN (by omega)]at ee lo;exact⟨fq ik, ⟨by nofun,by nofun⟩, ⟨by omega,by omega⟩,by decide, ⟨by omega,by omega⟩,by decide,by decide,by decide,λl hl=>⟨_,uY ik hl,lo _ rfl,_,rfl,zP s' hp hl,ee _ rfl⟩⟩
 .rintro σ H' ⟨v,rfl,s',ik⟩;rw[ax,DA]at ik;exact k p H' hp s' ik
inductive sp_digit_of (_:G w K mg) (vs:List V) (H:Hp) (Q:VK) (_:XK):Prop
 |i (a:Nat) (_:vs=[.int a]) (_:Q (.int (aX a)) H)
theorem ok_digit_of (g:G w K mg):aI P w K mg base bO 1 g.digit_of.f g.digit_of.fd ["point"] (sp_digit_of g):=by
 apply g.digit_of.fn.bW sc_digit_of λvs H Q E h=>?_;obtain⟨n,rfl,k⟩:=h;apply⟨rfl,λ_ _ _ _ hr=>?_⟩;apply⟨_,%[aw (dq op_le op_le (ag) (pv 0) (ag)) %[ao (ay op_sub (pv 0) (ag))|b] %[|b],aw (dq op_le op_le (ag) (pv 0) (ag)) %[ao (ay op_sub (pv 0) (ag))|b] %[|b],aw (dq op_le op_le (ag) (pv 0) (ag)) %[ao (ay op_sub (pv 0) (ag))|b] %[|b],ao (ag)|b],?_⟩;walk_at"rd"
 repeat' split
 all_goals (apply ej k ?_;unfold aX;repeat' split)
 all_goals lia
inductive sp_number_of (_:G w K mg) (vs:List V) (H:Hp) (Q:VK) (_:XK):Prop
 |i (a:Addr) (t:List Nat) (b:Nat) (_:vs=[.ref a,.int b]) (_:aL K H a (VL t)) (_:2<=b) (_:b<=16) (_:t.length<=8) (_:Q (.int (numOf t b)) H)
theorem ok_number_of (g:G w K mg):aI P w K mg base bO 2 g.number_of.f g.number_of.fd ["digits","base"] (sp_number_of g):=by
 apply g.number_of.fn.bW sc_number_of λvs H Q E h=>?_;obtain⟨a,t,b,rfl,ha,K4,hb,hl,k⟩:=h;apply⟨rfl,λ_ _ _ _ hr=>?_⟩;apply⟨_,%[aw (mz (dP (pv 0) (λ_=>rfl))) %[ao (dM cG (ag))|b] %[|b],leftact% number_of 2 (ag),dy PassesOwn.never rfl (bV (pv 0)) (bI (i:=3) sc_number_of.nd rfl (CM rfl)) %[leftact% number_of 4 (unop% digit_of %[pv 3|a]),aw (binrel% op_ge (pv 4) (pv 1)) %[ao (dM cG (ag))|b] %[|b],leftact% number_of 2 (ay op_add (ay op_mul (pv 2) (pv 1)) (pv 4))|b],ao (pv 2)|b],?_⟩;walk_at"rd";apply⟨_,.inl ⟨_,ha,rfl⟩,?_⟩;have he:(!(VL t).isEmpty)=false↔t=[]:=by cases t<;>simp[VL]
 split
 .rename_i h0
  apply ej k ?_;unfold numOf;rw[iP (he.mp h0)]
 rename_i h0
 have dF:t≠[]:=λz=>h0 (he.mpr z);apply iy (xs:=VL t) (a:=a) (λR r=>r) (λi σ H'=>∃(n:Nat) (v v':Option V),SE σ [some (.ref a),some (.int b),some (.int n),v,v']/\H'=H/\cX b 0 (t.take i)=some n/\n<16 ^ i) ⟨0,none,none,rfl,rfl,rfl,by decide⟩ (λi σ H' _ ⟨_,_,_,_,e,_⟩=>e▸ha) ?_ ?_
 .rintro i x σ H' hx ⟨n,v,v',rfl,rfl,hn,Z8⟩;obtain⟨c,hc,rfl⟩:=iz hx;have hi:=b7 hc;simp only[vi];walk_at"rd";apply⟨c,rfl,?_⟩;walk_at"rd";have Z4:(16:Nat) ^ i<=16 ^ 8:=GZ nofun (by nofun)
  have Z7:aX c<=16:=by
   unfold aX
   repeat' split
   all_goals lia
  split
  .rename_i hd
   apply ej k ?_;unfold numOf;rw[iN dF,gF b t 0 λz=>by have:=z c (AO hc);lia]
  .rename_i hd
   apply⟨.inr ⟨by nofun,by omega⟩,n*b+aX c,some (.int c),some (.int (aX c)),?_,rfl,?_,?_⟩
   .show _=_
    simp
   .rw[take_snoc hc]
    have key:∀(l:List Nat) (n0 n:Nat),cX b n0 l=some n->cX b n0 (l++[c])=some (n*b+aX c):=by
     intro l
     induction l with
     |nil=>intro n0 n h;cases h;rw[BA,cX,iN (by lia)];rfl
     |cons d l ih=>
      intro n0 n h;rw[cX]at h;rw[AS,cX]
      by_cases rA:b<=aX d
      .rw[iP rA]at h;cases h
      .rw[iN rA]at h ⊢;exact ih _ _ h
    exact key _ _ _ hn
   .rw[Nat.pow_succ];have h1:n*b<=n*16:=Nat.mul_le_mul_left _ hb;lia
 .rintro σ H' ⟨n,v,v',rfl,rfl,hn,_⟩;rw[ax,DA]at hn;apply ej k ?_;unfold numOf;rw[iN dF,hn]
inductive sp_numbered_point (_:G w K mg) (vs:List V) (H:Hp) (Q:VK) (_:XK):Prop
 |i (a:Addr) (t:List Nat) (_:vs=[.ref a]) (_:aL K H a (VL t)) (_:t.length<=8) (_:∀H',aj H H'->Q (.int (numbered t)) H')
theorem ok_numbered_point (g:G w K mg):aI P w K mg base bO 3 g.numbered_point.f g.numbered_point.fd ["points"] (sp_numbered_point g):=by
 apply g.numbered_point.fn.bW sc_numbered_point λvs H Q E h=>?_;obtain⟨a,t,rfl,ha,hl,k⟩:=h;apply⟨rfl,λ_ _ _ _ hr=>?_⟩;apply⟨_,%[aw (PW.pt (bG (dP (pv 0) (λ_=>rfl)) (a9 (binrel_no_prop% op_in_seq (rightact% aN (pv 0) (ag)) (g.c_HEXADECIMAL_SIGNS.pe rfl))))) %[leftact% numbered_point 1 (unop% number_of %[aO aW (pv 0) (aF (ag)) cE,ag|a])|b] %[leftact% numbered_point 1 (unop% number_of %[pv 0,ag|a])|b],aw (PW.pt (bG (binrel% op_ge (pv 1) (ag)) (a9 (PW.pt (hU (binrel% op_eq (pv 1) (ag)) (fS (mz (c7 (unop% is_point %[pv 1|a]))))))))) %[ao (g.c_REPLACEMENT.pe rfl)|b] %[|b],ao (pv 1)|b],?_⟩
 have tail:∀(n:Int) (H':Hp),aj H H'->numbered t=(if 0<=n/\(n=0\/fO n=false)then 65533 else n)->(if 0<=n then if n=0 then Q (V.int 65533) H' else sp_is_point g [V.int n] H' (λx H1=>pM x λc=>if c=false then Q (V.int 65533) H1 else Q (V.int n) H1) E0 else Q (V.int n) H'):=by
  intro n H' s' e;have kk:=k H' s';rw[e]at kk
  split
  .rename_i h0
   split
   .rename_i h1
    exact ej kk (by rw[iP ⟨h0,.inl h1⟩])
   .rename_i h1
    apply⟨n,rfl,?_⟩;ext
    split
    .rename_i h2
     exact ej kk (by rw[iP ⟨h0,.inr h2⟩])
    .rename_i h2
     exact ej kk (by rw[iN λz=>z.2.elim h1 h2])
  .rename_i h0
   exact ej kk (by rw[iN λz=>h0 z.1])
 walk_at"rd";apply⟨_,.inl ⟨_,ha,rfl⟩,?_⟩;cases t with
 |nil=>
  rw[iN (by simp[VL])];apply⟨a, [],10,rfl,ha,by decide,by decide,by decide,?_⟩;walk_at"rd";exact tail _ H (aj.refl H) (by unfold numbered;rfl)
 |cons c r=>
  rw[iP (by simp[VL])];apply⟨_,ha,_,cR (i:=0) rfl,g.c_HEXADECIMAL_SIGNS.a,VL [88,120],rfl,.inr (g.c_HEXADECIMAL_SIGNS.sq H),rfl,rfl,?_⟩
  have Ex:xw (vi c) (VL [88,120])=decide (c=88\/c=120):=by
   show xw (.int c) _=_
   rw[jK,C6];simp
  simp only[BS,if_false,Ex,decide_eq_true_eq];have X7:r.length<=8:=by simp at hl;nofun
  ext
  split
  .rename_i hx
   apply⟨_,ha,λp hp=>⟨p,r,16,rfl,?_,by decide,by decide,X7,?_⟩⟩
   .have:cb (VL (c::r)) (some 1) none=VL r:=lV (c::r) 1;rw[this];exact aL.of aa
   .walk_at"rd";apply tail _ _ (aj.upd hp) ?_;unfold numbered;simp[hx]
  .rename_i hx
   apply⟨a,c::r,10,rfl,ha,by decide,by decide,hl,?_⟩;walk_at"rd";apply tail _ _ (aj.refl H) ?_;unfold numbered;simp[hx]
theorem wc {x:List Nat} (hx:x.all eW=true) (b:List Nat):W b=⟨x.toArray⟩↔b=x:=by
 constructor
 .intro e
  have e1:gi b=x:=by
   have:=congrArg (λs:Str=>s.cps.toList) e;simpa [W]using this
  unfold gi at e1
  split at e1
  .exact e1
  .rename_i hb
   cases b with
   |nil=>simp at hb
   |cons c b=>
    rw[CV]at e1;rw[<-e1]at hx;simp[eW]at hx
 .intro e;subst e;unfold W gi;rw[iP hx]
theorem Qa {s:String} (h:(aG s).all eW=true) (b:List Nat):W b=Str.ofString s↔b=aG s:=by
 have e:Str.ofString s=⟨(aG s).toArray⟩:=TL.uX (by rw[TL.fc];rfl);rw[e];exact wc h b
def wW:List (Key×V):=S3.map λx=>(AW ⟨x.1.toArray⟩,V.int x.2)
theorem tS:∀x∈S3,x.1.all eW=true:=by decide+kernel
theorem vg (b:List Nat):(cS wW (AW (W b))).getD (.int (-1))= .int (bB b):=by
 unfold bB wW;have h:=tS;generalize S3=l at h
 induction l with
 |nil=>rfl
 |cons x l ih=>
  have hx:=wc (h x (by simp)) b;rw[AI,CY]
  by_cases e:x.1=b
  .have:(x.1==b)=true:=by simpa using e
   rw[this];have e2:(AW (⟨x.1.toArray⟩:Str):Key)=AW (W b):=by rw[hx.mpr e.symm]
   rw[fD e2];rfl
  .have:(x.1==b)=false:=by simpa using e
   rw[this];have e2:¬(AW (⟨x.1.toArray⟩:Str):Key)=AW (W b):=λz=>e (hx.mp (J4 z).symm).symm;rw[cT e2];exact ih λy hy=>h y (by simp[hy])
def US (H:Hp) (xs:List V) (Q:VK):Prop:=∀p H',H p=none->aj H H'->H' p=some (.tup xs)->Q (.ref p) H'
inductive sp_told_at (_:G w K mg) (vs:List V) (H:Hp) (Q:VK) (_:XK):Prop
 |i (a:Addr) (t:List Nat) (n c:Nat) (_:vs=[.ref a,.int n]) (_:aL K H a (VL t)) (_:t[n]? =some c) (_:t.length<=1000000) (_:(∀c∈t,c<10000000)) (_:US H [.int (aR c (t.drop (n+1))).1,.int ((n+(aR c (t.drop (n+1))).2:Nat):Int)] Q)
theorem ok_told_at (g:G w K mg):aI P w K mg base bO 4 g.told_at.f g.told_at.fd ["points","place"] (sp_told_at g):=by
 apply g.told_at.fn.bW sc_told_at λvs H Q E h=>?_;obtain⟨a,t,n,c,rfl,ha,hc,hl,hb,k⟩:=h;apply⟨rfl,λ_ _ _ _ hr=>?_⟩;apply⟨_,%[leftact% told_at 2 (br %[rightact% aN (pv 0) (pv 1),ay op_add (pv 1) (ag)|a]),aw (binrel% op_ne (rightact% aN (pv 0) (pv 1)) (g.c_AMPERSAND.pe rfl)) %[ao (pv 2)|b] %[|b],leftact% told_at 3 (aO aW (pv 0) (aF (ay op_add (pv 1) (ag))) (aF (ay op_add (ay op_add (pv 1) (ag)) (g.c_LONGEST.pe rfl)))),aw (binrel_no_prop% op_notIn_seq (g.c_SEMICOLON.pe rfl) (pv 3)) %[ao (pv 2)|b] %[|b],leftact% told_at 4 (aO aW (pv 3) cE (aF (binop% B.index.Ci (pv 3) %[g.c_SEMICOLON.pe rfl|a]))),aw (cD (op_eqD hr.units) (aO aW (pv 4) cE (aF (ag))) (aM %[g.c_NUMBER_SIGN.pe rfl|a]) (dk _)) %[leftact% told_at 5 (unop% numbered_point %[aO aW (pv 4) (aF (ag)) cE|a])|b] %[leftact% told_at 5 (Bz g.c_NAMED.d (g.c_NAMED.pe rfl) (unop% word_of %[pv 4|a]) (dM cG (ag)) ⟨rfl,rfl,rfl,rfl⟩)|b],aw (binrel% op_lt (pv 5) (ag)) %[ao (pv 2)|b] %[|b],ao (br %[pv 5,ay op_add (ay op_add (pv 1) (ag)) (unop% L.n (pv 4))|a])|b],?_⟩;walk_at"rd";apply⟨_,ha,_,cR hc,by decide,λp hp=>⟨_, (aj.upd hp).seq ha,_,cR hc,?_⟩⟩;walk_at"rd";have s1:aj H (upd H p (.tup [.int c,.int ((n:Int)+1)])):=aj.upd hp
 have Li:∀H',aj (upd H p (.tup [.int c,.int ((n:Int)+1)])) H'->aR c (t.drop (n+1))=(c,1)->Q (.ref p) H':=λH' s' e=>by
  rw[e]at k;apply k p H' hp (s1.trans s') (s' _ _ ?_);rw[aa];rfl
 have te:=gx c (t.drop (n+1));apply bb (λN4=>?_) (λN4=>?_)
 .exact Li _ (aj.refl _) (by rw[te,iN (by lia)])
 have N4:c=38:=by lia
 rw[iP N4]at te;apply⟨_,s1.seq ha,λq hq=>?_⟩
 have LO:cb (VL t) (some ((n:Int)+1)) (some ((n:Int)+2+8))=VL ((t.drop (n+1)).take 9):=by
  have e1:(n:Int)+1=((n+1:Nat):Int):=by nofun
  have e2:(n:Int)+2+8=((n+10:Nat):Int):=by nofun
  rw[e1,e2,jN];congr 2;lia
 rw[LO];have s2:=aj.upd (o:= .lst (VL ((t.drop (n+1)).take 9))) hq;generalize zg:upd (upd H p (.tup [.int c,.int ((n:Int)+1)])) q (.lst (VL ((t.drop (n+1)).take 9)))=H2 at s2 ⊢;have pI:H2 q=some (.lst (VL ((t.drop (n+1)).take 9))):=by rw[<-zg,aa]
 have Ex:xw (.int 59) (VL ((t.drop (n+1)).take 9))=((t.drop (n+1)).take 9).contains 59:=jK 59 _;apply⟨q,_,rfl,.inl (aL.of pI),rfl,jc _,?_⟩;rw[Ex];walk_at"rd";have pq:=λH' (s':aj H2 H')=>s';apply bb (λEf=>?_) (λEf=>?_)
 .refine Li _ s2 ?_
  have:fN (t.drop (n+1))=none:=by
   unfold fN;rw[iP (by intro z;rw[DU.mpr z]at Ef;cases Ef)]
  rw[te,this,N4]
 have Ef:59∈(t.drop (n+1)).take 9:=by
  by_cases z:59∈(t.drop (n+1)).take 9
  .exact z
  .exact absurd (by simpa using z) Ef
 obtain⟨b,r,er,nb,lb,eb⟩:=Ko _ Ef
 have e9:(t.drop (n+1)).take 9=b++(59::r).take (9-b.length):=by
  rw[er,DW,AK (by nofun)]
 have ZH:∃r', (t.drop (n+1)).take 9=b++59::r':=by
  obtain⟨j,hj⟩:∃j,9-b.length=j+1:=⟨8-b.length,by lia⟩
  rw[e9,hj,BK];exact⟨_,rfl⟩
 obtain⟨r',e9⟩:=ZH
 have rT:fN (t.drop (n+1))=if(if b.take 1=[35]then numbered (b.drop 1)else bB b)<0 then none else some ((if b.take 1=[35]then numbered (b.drop 1)else bB b),b.length+1):=by
  unfold fN;rw[iN (not_not_intro Ef)];simp only[eb]
 rw[e9]at pI;have bt:∀c∈b,c<10000000:=λc hc=>hb c (BH (by rw[er];simp[hc]));apply⟨fq pI,q,VL (b++59::r'),.int 59,b.length,.int 59,rfl,rfl,aL.of pI,rfl,jc _,?_,rfl,λm z hm hz=>?_,?_⟩
 .rw[bh,BW (by rw[ax];nofun),ax,DP];rfl
 .obtain⟨d,hd,rfl⟩:=iz hz;rw[D0 hm]at hd;have:d≠59:=λz=>nb (z▸AO hd);show((d:Int)==59)=false
  simp;lia
 walk_at"rd";apply⟨_,aL.of pI,λp1 nQ=>?_⟩
 have N6:cb (VL (b++59::r')) none (some (b.length:Int))=VL b:=by
  rw[lT,DM (AE _),DA]
 rw[N6];have s3:=aj.upd (o:= .lst (VL b)) nQ;generalize Jn:upd H2 p1 (.lst (VL b))=H3 at s3 ⊢;have Q1:H3 p1=some (.lst (VL b)):=by rw[<-Jn,aa]
 have yM:=s2.trans s3
 have fin:∀(pt:Int) (H':Hp),aj H3 H'->(if b.take 1=[35]then numbered (b.drop 1)else bB b)=pt->(if pt<0 then Q (.ref p) H' else∃x, (aL K H' p1 x\/bC K H' p1 x)/\2<=sizeLine/\∀p,H' p=none->Q (.ref p) (upd H' p (.tup [.int pt,.int ((n:Int)+2+(x.length:Int))]))):=by
  intro pt H' s' e;rw[e]at rT;apply bb (λh0=>?_) (λh0=>?_)
  .refine Li _ (yM.trans s') ?_;rw[iP h0]at rT;rw[te,rT,N4]
  .rw[iN h0]at rT;apply⟨_,.inl (aL.of (s' _ _ Q1)),by decide,λp2 eK=>?_⟩;rw[te,rT]at k;have sa:=(s1.trans yM).trans s';apply k p2 _ (sa.free eK) (sa.trans (aj.upd eK)) ?_;rw[aa,ax];have e1:(((pt.toNat:Nat):Int))=pt:=D4 (by lia);have e2:((n+(b.length+1+1):Nat):Int)=(n:Int)+2+(b.length:Int):=by lia
   show some (HO.tup [V.int pt,V.int ((n:Int)+2+(b.length:Int))])=some (HO.tup [V.int ((pt.toNat:Nat):Int),V.int ((n+(b.length+1+1):Nat):Int)])
   rw[e1,e2]
 apply⟨_,aL.of Q1,λp2 eK=>⟨by decide,λp3 ro=>?_⟩⟩;have Ws:cb (VL b) none (some (1:Int))=VL (b.take 1):=lT b 1;rw[Ws];rw[Ws]at ro;have s4:=aj.upd (o:= .lst (VL (b.take 1))) eK;have s5:=aj.upd (o:= .lst [V.int 35]) ro;have XF:p2≠p3:=af aa ro;apply jM (s:=b.take 1) (t:=[35]) (aL.of (by rw[ae XF,aa])) (aL.of (by rw[aa];rfl)) ?_;have Nu:=s4.trans s5;generalize V5:upd (upd H3 p2 (.lst (VL (b.take 1)))) p3 (.lst [V.int 35])=H5 at Nu ⊢;walk_at"rd";apply bb (λSu=>?_) (λSu=>?_)
 .refine⟨_,aL.of (Nu _ _ Q1),λp4 rn=>⟨p4,b.drop 1,rfl,?_,by simp;omega,λH6 s6=>?_⟩⟩
  .have:cb (VL b) (some (1:Int)) none=VL (b.drop 1):=lV b 1;rw[this];exact aL.of aa
  .walk_at"rd";exact fin _ _ (Nu.trans ((aj.upd rn).trans s6)) (iP Su)
 .refine⟨rfl,?_⟩;walk_at"rd";apply⟨p1,b,rfl,aL.of (Nu _ _ Q1),by nofun,bt,λH6 s6=>⟨AW (W b),rfl,?_⟩⟩;have ev:=vg b;generalize hv:cS (κ:=Key) _ _=v;have KU:v.getD (V.int (-1))=V.int (bB b):=by rw[<-hv];exact ev
  rw[KU];walk_at"rd";exact fin (bB b) H6 (Nu.trans s6) (iN Su)
inductive sp_told (_:G w K mg) (vs:List V) (H:Hp) (Q:VK) (_:XK):Prop
 |i (a:Addr) (t:List Nat) (_:vs=[.ref a]) (_:aL K H a (VL t)) (_:t.length<=1000000) (_:(∀c∈t,c<10000000)) (_:iW H (ui 0 t) Q)
theorem ok_told (g:G w K mg):aI P w K mg base bO 5 g.told.f g.told.fd ["points"] (sp_told g):=by
 apply g.told.fn.bW sc_told λvs H Q E h=>?_;obtain⟨a,t,rfl,ha,hl,hb,k⟩:=h;apply⟨rfl,λ_ _ _ _ hr=>?_⟩;apply⟨_,%[leftact% told 1 (aM %[|a]),leftact% told 2 (ag),bE PassesOwn.never (binrel% op_lt (pv 2) (unop% L.n (pv 0))) %[leftact% told 3 (unop% told_at %[pv 0,pv 2|a]),au (binop% B.append.aU (pv 1) %[rightact% cQ (pv 3) (ag)|a]),leftact% told 2 (rightact% cQ (pv 3) (ag))|b],ao (pv 1)|b],?_⟩;walk_at"rd";apply⟨A0 _,λp hp=>?_⟩
 apply⟨λm σ H'=>∃(q:Nat) (out:List Nat) (v3:Option V),SE σ [some (.ref a),some (.ref p),some (.int q),v3]/\m=t.length-q/\out.length<=q/\H' p=some (.lst (VL out))/\aj H H'/\out++ui 0 (t.drop q)=ui 0 t,
  ⟨t.length,0, [],none,rfl,by simp,by simp,aa,aj.upd hp,by simp⟩,?_⟩
 rintro m σ H' ⟨q,out,v3,rfl,rfl,hq,ik,sH,he⟩;walk_at"rd";apply⟨_,.inl (sH.seq ha),?_⟩;rw[ax];apply bb (λh=>⟨_,λ_ _ h=>h,?_⟩) (λh=>?_)
 .have gc:q<t.length:=by lia
  obtain⟨c,hc⟩:∃c,t[q]? =some c:=⟨t[q],AN gc⟩
  have hd:=aJ hc;have step:=jS c (t.drop (q+1));have TV:=jQ c (t.drop (q+1));rw[<-hd]at step;walk_at"rd";apply⟨a,t,q,c,rfl,sH.seq ha,hc,hl,hb,λl H2 nR s2 h2=>?_⟩;walk_at"rd";have eK:=s2 _ _ ik;apply⟨fq eK,_,bC.of h2,_,rfl,_,eK,by rw[ax];exact cY (by lia),_,bC.of (Ik h2 eK),_,rfl,t.length-(q+(aR c (t.drop (q+1))).2),by omega,q+(aR c (t.drop (q+1))).2,out++[(aR c (t.drop (q+1))).1],_,rfl,rfl,by simp;lia,?_,Jz (sH.trans s2) hp,?_⟩
  .rw[aa,bh];rfl
  .rw[<-he,step,A7];simp
 .rw[AQ (by lia)]at he;have e0:ui 0 []=[]:=rfl;rw[e0,A6]at he;rw[he]at ik;exact k p H' hp sH ik
theorem wm {p:Nat->Bool} {t:List Nat} {q c:Nat} (hc:t[q]? =some c) (h:p c=true):((t.drop q).takeWhile p).length=((t.drop (q+1)).takeWhile p).length+1:=by
 rw[aJ hc,CH,iP h,AA]
theorem wk {p:Nat->Bool} {t:List Nat} {q c:Nat} (hc:t[q]? =some c) (h:p c=false):((t.drop q).takeWhile p).length=0:=by
 rw[aJ hc,CH,h];rfl
theorem gN (p:Nat->Bool):∀t:List Nat,t.take (t.takeWhile p).length=t.takeWhile p
 |[]=>rfl
 |c::t=>by
  rw[CH]
  by_cases h:p c=true
  .rw[iP h,AA,BK,gN p t]
  .rw[iN h];rfl
inductive sp_place_of_any (_:G w K mg) (vs:List V) (H:Hp) (Q:VK) (_:XK):Prop
 |i (a b:Addr) (t ws:List Nat) (n:Nat) (_:vs=[.ref a,.int n,.ref b]) (_:aL K H a (VL t)) (_:bC K H b (VL ws)) (_:Q (.int ((n+((t.drop n).takeWhile λc=>!ws.contains c).length:Nat):Int)) H)
theorem ok_place_of_any (g:G w K mg):aI P w K mg base bO 1 g.place_of_any.f g.place_of_any.fd ["points","place","wanted"] (sp_place_of_any g):=by
 apply g.place_of_any.fn.bW sc_place_of_any λvs H Q E h=>?_;obtain⟨a,b,t,ws,n,rfl,ha,hb,k⟩:=h;apply⟨rfl,λ_ _ _ _ hr=>?_⟩;apply⟨_,%[bE PassesOwn.never (PW.pt (bG (binrel% op_lt (pv 1) (unop% L.n (pv 0))) (a9 (binrel_no_prop% op_notIn_seq (rightact% aN (pv 0) (pv 1)) (pv 2))))) %[eD (i:=1) sc_place_of_any.nd rfl (CM rfl) (ag) gw|b],ao (pv 1)|b],?_⟩;walk_at"rd";apply⟨λm σ H'=>∃q:Nat,SE σ [some (.ref a),some (.int q),some (.ref b)]/\H'=H/\m=t.length-q/\q+((t.drop q).takeWhile λc=>!ws.contains c).length=n+((t.drop n).takeWhile λc=>!ws.contains c).length, ⟨_,n,rfl,rfl,rfl,rfl⟩,?_⟩;rintro m σ H' ⟨q,rfl,rfl,rfl,he⟩;walk_at"rd";apply⟨_,.inl ha,?_⟩;rw[ax];apply bb (λhq=>?_) (λhq=>?_)
 .obtain⟨c,hc⟩:∃c,t[q]? =some c:=⟨t[q],AN (by omega)⟩
  apply⟨_,ha,_,cR hc,b,_,rfl,.inr hb,rfl,jc _,?_⟩;have Ex:xw (vi c) (VL ws)=ws.contains c:=jK c ws;rw[Ex];walk_at"rd";apply bb (λhw=>?_) (λhw=>?_)
  .have:=wm (p:=λc=>!ws.contains c) hc (by simp only[hw];rfl);apply⟨_,λ_ _ h=>h,?_⟩;walk_at"rd";exact⟨_,by lia,q+1,rfl,rfl,by lia⟩
  .have:=wk (p:=λc=>!ws.contains c) hc (by simpa using hw);apply ej k ?_;lia
 .refine ej k ?_;rw[AQ (by lia)]at he;simp only[HC,BI]at he;lia
inductive sp_place_behind (_:G w K mg) (vs:List V) (H:Hp) (Q:VK) (_:XK):Prop
 |i (a b:Addr) (t ws:List Nat) (n:Nat) (_:vs=[.ref a,.int n,.ref b]) (_:aL K H a (VL t)) (_:bC K H b (VL ws)) (_:Q (.int ((n+((t.drop n).takeWhile λc=>ws.contains c).length:Nat):Int)) H)
theorem ok_place_behind (g:G w K mg):aI P w K mg base bO 1 g.place_behind.f g.place_behind.fd ["points","place","passed"] (sp_place_behind g):=by
 apply g.place_behind.fn.bW sc_place_behind λvs H Q E h=>?_;obtain⟨a,b,t,ws,n,rfl,ha,hb,k⟩:=h;apply⟨rfl,λ_ _ _ _ hr=>?_⟩;apply⟨_,%[bE PassesOwn.never (PW.pt (bG (binrel% op_lt (pv 1) (unop% L.n (pv 0))) (a9 (binrel_no_prop% op_in_seq (rightact% aN (pv 0) (pv 1)) (pv 2))))) %[eD (i:=1) sc_place_behind.nd rfl (CM rfl) (ag) gw|b],ao (pv 1)|b],?_⟩;walk_at"rd";apply⟨λm σ H'=>∃q:Nat,SE σ [some (.ref a),some (.int q),some (.ref b)]/\H'=H/\m=t.length-q/\q+((t.drop q).takeWhile λc=>ws.contains c).length=n+((t.drop n).takeWhile λc=>ws.contains c).length, ⟨_,n,rfl,rfl,rfl,rfl⟩,?_⟩;rintro m σ H' ⟨q,rfl,rfl,rfl,he⟩;walk_at"rd";apply⟨_,.inl ha,?_⟩;rw[ax];apply bb (λhq=>?_) (λhq=>?_)
 .obtain⟨c,hc⟩:∃c,t[q]? =some c:=⟨t[q],AN (by omega)⟩
  apply⟨_,ha,_,cR hc,b,_,rfl,.inr hb,rfl,jc _,?_⟩;have Ex:xw (vi c) (VL ws)=ws.contains c:=jK c ws;rw[Ex];walk_at"rd";apply bb (λhw=>?_) (λhw=>?_)
  .have:=wm (p:=λc=>ws.contains c) hc hw;apply⟨_,λ_ _ h=>h,?_⟩;walk_at"rd";exact⟨_,by lia,q+1,rfl,rfl,by lia⟩
  .have:=wk (p:=λc=>ws.contains c) hc (by simpa using hw);apply ej k ?_;lia
 .refine ej k ?_;rw[AQ (by lia)]at he;simp only[HC,BI]at he;lia
inductive sp_name_from (_:G w K mg) (vs:List V) (H:Hp) (Q:VK) (_:XK):Prop
 |i (a:Addr) (t:List Nat) (_:vs=[.ref a]) (_:aL K H a (VL t)) (_:iW H ((t.take 64).map Lh) Q)
theorem ok_name_from (g:G w K mg):aI P w K mg base bO 2 g.name_from.f g.name_from.fd ["points"] (sp_name_from g):=by
 apply g.name_from.fn.bW sc_name_from λvs H Q E h=>?_;obtain⟨a,t,rfl,ha,k⟩:=h;apply⟨rfl,λ_ _ _ _ hr=>?_⟩;apply⟨_,%[ao (unop% small %[aO aW (pv 0) cE (aF (g.c_MOST_NAME_POINTS.pe rfl))|a])|b],?_⟩;walk_at"rd";apply⟨_,ha,λp hp=>⟨p,t.take 64,rfl,?_,?_,λq H' hq s' uo=>?_⟩⟩
 .have:cb (VL t) none (some (64:Int))=VL (t.take 64):=lT t 64;rw[this];exact aL.of aa
 .rw[AX];exact cF (by lia)
 .exact k q H' ((aj.upd hp).free hq) ((aj.upd hp).trans s') uo
inductive sp_read_value (_:G w K mg) (vs:List V) (H:Hp) (Q:VK) (_:XK):Prop
 |i (a:Addr) (t:List Nat) (n:Nat) (_:vs=[.ref a,.int n]) (_:aL K H a (VL t)) (_:t.length<=1000000) (_:(∀c∈t,c<10000000)) (_:∀(p l:Addr) (q:Nat) (H':Hp),H p=none->H l=none->aj H H'->H' p=some (.tup [.ref l,.int q])->H' l=some (.lst (VL (c6 (t.drop n)).1))->t.drop q=(c6 (t.drop n)).2->n<=q->Q (.ref p) H')
theorem ok_read_value (g:G w K mg):aI P w K mg base bO 6 g.read_value.f g.read_value.fd ["points","place"] (sp_read_value g):=by
 apply g.read_value.fn.bW sc_read_value λvs H Q E h=>?_;obtain⟨a,t,n,rfl,ha,hl,hb,k⟩:=h;apply⟨rfl,λ_ _ _ _ hr=>?_⟩;apply⟨_,%[leftact% read_value 1 (unop% place_behind %[pv 0,pv 1,g.c_BLANKS.pe rfl|a]),aw (PW.pt (bG (binrel% op_lt (pv 1) (unop% L.n (pv 0))) (a9 (binrel_no_prop% op_in_seq (rightact% aN (pv 0) (pv 1)) (g.c_QUOTES.pe rfl))))) %[leftact% read_value 2 (unop% place_of_any %[pv 0,ay op_add (pv 1) (ag),br %[rightact% aN (pv 0) (pv 1)|a]|a]),ao (br %[unop% told %[aO aW (pv 0) (aF (ay op_add (pv 1) (ag))) (aF (pv 2))|a],ay op_add (pv 2) (ag)|a])|b] %[|b],leftact% read_value 2 (unop% place_of_any %[pv 0,pv 1,g.c_VALUE_ENDS.pe rfl|a]),ao (br %[unop% told %[aO aW (pv 0) (aF (pv 1)) (aF (pv 2))|a],pv 2|a])|b],?_⟩;walk_at"rd";apply⟨a,g.c_BLANKS.a,t, [9,10,12,32],n,rfl,ha,g.c_BLANKS.sq H,?_⟩;walk_at"rd";generalize hm:n+((t.drop n).takeWhile λc=>[9,10,12,32].contains c).length=m;have em:t.drop m=da (t.drop n):=by rw[<-hm,<-A7];rfl
 have pJ:n<=m:=by lia
 have cut:∀x y:Nat,cb (VL t) (some (x:Int)) (some ((x+y:Nat):Int))=VL ((t.drop x).take y):=λx y=>by rw[jN];congr 2;lia
 apply⟨_,.inl ha,?_⟩;rw[ax]
 have plain:∀(c:Nat) (u:List Nat),t.drop m=c::u\/t.drop m=[]->c6 (t.drop n)=(ui 0 ((t.drop m).takeWhile λd=>![9,10,12,32,62].contains d), (t.drop m).drop ((t.drop m).takeWhile λd=>![9,10,12,32,62].contains d).length)->
   sp_place_of_any g [V.ref a,V.int (m:Int),V.ref g.c_VALUE_ENDS.a] H (λx H1=>jC x λi=>∃UY,aL K H1 a UY/\∀p,H1 p=none->sp_told g [V.ref p] (upd H1 p (HO.lst (cb UY (some (m:Int)) (some i)))) (λWQ H1=>2<=sizeLine/\∀p,H1 p=none->Q (V.ref p) (upd H1 p (HO.tup [WQ,x]))) E0) E0:=by
  intro c u _ ev;apply⟨a,g.c_VALUE_ENDS.a,t, [9,10,12,32,62],m,rfl,ha,g.c_VALUE_ENDS.sq H,_,ha,λp hp=>?_⟩;rw[cut];apply⟨p,_,rfl,aL.of aa,?_,?_,λl H2 nR s2 h2=>⟨by decide,λp2 eK=>?_⟩⟩
  .rw[AX,AM];omega
  .exact λc hc=>hb c (BH (CB hc))
  have sa:=(aj.upd hp).trans s2;have tk:(t.drop m).take ((t.drop m).takeWhile λd=>![9,10,12,32,62].contains d).length=(t.drop m).takeWhile λd=>![9,10,12,32,62].contains d:=gN _ _;apply k p2 l _ _ (sa.free eK) ((aj.upd hp).free nR) (sa.trans (aj.upd eK)) aa ?_ ?_ (by nofun)
  .rw[ae (af h2 eK),ev,h2,tk]
  .rw[ev,A7]
 apply bb (λgc=>?_) (λgc=>?_)
 .obtain⟨c,hc⟩:∃c,t[m]? =some c:=⟨t[m],AN (by omega)⟩
  have hd:=aJ hc;have Ex:xw (vi c) (VL [34,39])=[34,39].contains c:=jK c _;apply⟨_,ha,_,cR hc,g.c_QUOTES.a,VL [34,39],rfl,.inr (g.c_QUOTES.sq H),rfl,rfl,?_⟩;simp only[BS,if_false,Ex];apply bb (λhq=>?_) (λhq=>?_)
  .have uo:c=34\/c=39:=by simpa using hq
   apply⟨_,ha,_,cR hc,by decide,λp hp=>?_⟩;have e1:(m:Int)+1=((m+1:Nat):Int):=by nofun
   rw[e1];apply⟨a,p,t, [c],m+1,rfl, (aj.upd hp).seq ha,bC.of aa,_, (aj.upd hp).seq ha,λp1 nQ=>?_⟩
   have ew:(λd=>![c].contains d)=λd=>d !=c:=by
    funext d;rw[BE,BZ,BY];rfl
   have s1:=(aj.upd (o:= .tup [vi c]) hp)
   have s2:=(aj.upd (o:= .lst (VL ((t.drop (m+1)).take ((t.drop (m+1)).takeWhile λd=>![c].contains d).length))) nQ)
   have sa:=s1.trans s2;rw[cut];apply⟨p1,_,rfl,aL.of aa,?_,?_,λl H2 nR s3 h2=>⟨by decide,λp2 eK=>?_⟩⟩
   .rw[AX,AM];lia
   .exact λc hc=>hb c (BH (CB hc))
   have sb:=sa.trans s3
   have ev:c6 (t.drop n)=(ui 0 ((t.drop (m+1)).takeWhile λd=>d !=c), (t.drop (m+1)).drop (((t.drop (m+1)).takeWhile λd=>d !=c).length+1)):=by
    unfold c6;rw[<-em,hd];simp only;rw[iP uo]
   have tk:(t.drop (m+1)).take ((t.drop (m+1)).takeWhile λd=>![c].contains d).length=(t.drop (m+1)).takeWhile λd=>![c].contains d:=gN _ _;rw[tk,ew]at h2;apply k p2 l (m+1+((t.drop (m+1)).takeWhile λd=>d !=c).length+1) _ (sb.free eK) (sa.free nR) (sb.trans (aj.upd eK)) ?_ ?_ ?_ (by lia)
   .rw[aa,ew];have:((m+1+((t.drop (m+1)).takeWhile λd=>d !=c).length:Nat):Int)+1=((m+1+((t.drop (m+1)).takeWhile λd=>d !=c).length+1:Nat):Int):=by nofun
    rw[this]
   .rw[ae (af h2 eK),ev,h2]
   .rw[ev,A7];congr 1
  .have uo:¬(c=34\/c=39):=by simpa using hq
   apply plain c _ (.inl hd) ?_;unfold c6;rw[<-em,hd];simp only;rw[iN uo]
 .have h0:t.drop m=[]:=AQ (by omega);apply plain 0 [] (.inr h0) ?_;unfold c6;rw[<-em,h0];rfl
def kI (n:Nat):Key:=CU (n:Int)
theorem qc:∀{a b:List Nat},a.map kI=b.map kI->a=b
 |[], [],_=>rfl
 |[],_::_,h=>by simp at h
 |_::_, [],h=>by simp at h
 |c::a,d::b,h=>by
  rw[AI,AI]at h;injection h with h1 h2;have h1:(c:Int)=d:=J3 h1;rw[qc h2];congr 1;lia
theorem rR (t:List Nat):(t.map kI).map kV=VL t:=by
 unfold VL;rw[BR];rfl
def eO (ls:List (Aa×Aa×Addr)):List (List Key×V):=ls.map λx=>(x.1.map kI,V.ref x.2.2)
def gd (ls:List (Aa×Aa×Addr)):List cO:=ls.map λx=>(x.1,x.2.1)
structure Oh (H:Hp) (d:Addr) (ls:List (Aa×Aa×Addr)):Prop where
 dict:H d=some (.dT (eO ls))
 vals:∀x∈ls,H x.2.2=some (.lst (VL x.2.1))
def Ld (N:Addr->Prop) (H:Hp) (d:Addr) (l:List cO):Prop:=∃ls,gd ls=l/\Oh H d ls/\∀x∈ls,N x.2.2
theorem qE:∀(ls:List (Aa×Aa×Addr)) (name:List Nat), (cS (eO ls) (name.map kI)).isSome=(gd ls).any λa=>a.1==name
 |[],_=>rfl
 |x::ls,name=>by
  show(cS ((x.1.map kI,V.ref x.2.2)::eO ls) (name.map kI)).isSome=((x.1==name)||(gd ls).any λa=>a.1==name)
  by_cases e:x.1=name
  .rw[fD (by rw[e])];simp[e]
  .rw[cT (λz=>e (qc z)),qE ls name];have:(x.1==name)=false:=by simpa using e
   rw[this,JQ]
theorem fb (ls:List (Aa×Aa×Addr)):(eO ls).length=ls.length:=AF ..
theorem lR (ls:List (Aa×Aa×Addr)):(gd ls).length=ls.length:=AF ..
def iq (l:List cO) (name v:Aa):List cO:=if(l.any λa=>a.1==name)=true\/64<=l.length then l else l++[(name,v)]
theorem Di (l:List cO) (name v:Aa):addAttr l.reverse name v=(iq l name v).reverse:=by
 unfold addAttr iq;rw[HV,DG]
 split<;>simp
theorem Dj (l:List cO) (name v:Aa) (h:l.length<=64):(iq l name v).length<=64:=by
 unfold iq
 split
 .exact h
 .rw[AB];simp;lia
def fB (d:Addr) (H H':Hp):Prop:=∀b o,H b=some o->b≠d->H' b=some o
theorem aj.b (s:aj H H') (d:Addr):fB d H H':=λb o e _=>s b o e
theorem Ld.same {N:Addr->Prop} {d:Addr} {l:List cO} (s:aj H H') (h:Ld N H d l):Ld N H' d l:=by
 obtain⟨ls,e, ⟨h1,h2⟩,h3⟩:=h;exact⟨ls,e, ⟨s _ _ h1,λx hx=>s _ _ (h2 x hx)⟩,h3⟩
inductive sp_read_attribute (_:G w K mg) (vs:List V) (H:Hp) (Q:VK) (_:XK):Prop
 |i (a d:Addr) (t:List Nat) (n c:Nat) (l:List cO) (N:Addr->Prop) (_:vs=[.ref a,.int n,.ref d]) (_:(∀b,H b=none->N b)) (_:aL K H a (VL t)) (_:t.length<=1000000) (_:(∀c∈t,c<10000000)) (_:t[n]? =some c) (_:Ld N H d l) (_:l.length<=64) (_:∀(q:Nat) (H':Hp),fB d H H'->Ld N H' d (iq l (attrName c (t.drop (n+1))) (dN (t.drop (n+1))).1)->t.drop q=(dN (t.drop (n+1))).2->n<q->Q (.int q) H')
theorem ok_read_attribute (g:G w K mg):aI P w K mg base bO 7 g.read_attribute.f g.read_attribute.fd ["points","place","attributes"] (sp_read_attribute g):=by
 apply g.read_attribute.fn.bW sc_read_attribute λvs H Q E h=>?_;obtain⟨a,d,t,n,c,l,N,rfl,hN,ha,hl,hb,hc,hA,Gd,k⟩:=h;apply⟨rfl,λ_ _ _ _ hr=>?_⟩;apply⟨_,%[leftact% read_attribute 3 (unop% place_of_any %[pv 0,ay op_add (pv 1) (ag),g.c_ATTRIBUTE_NAME_ENDS.pe rfl|a]),leftact% read_attribute 4 (gU ou (by rfl) g.n_tuple Df %[unop% name_from %[aO aW (pv 0) (aF (pv 1)) (aF (pv 3))|a]|a]),leftact% read_attribute 5 (aM %[|a]),leftact% read_attribute 1 (unop% place_behind %[pv 0,pv 3,g.c_BLANKS.pe rfl|a]),aw (PW.pt (bG (binrel% op_lt (pv 1) (unop% L.n (pv 0))) (a9 (binrel% op_eq (rightact% aN (pv 0) (pv 1)) (g.c_EQUALS.pe rfl))))) %[leftact% read_attribute 6 (unop% read_value %[pv 0,ay op_add (pv 1) (ag)|a]),leftact% read_attribute 5 (rightact% cQ (pv 6) (ag)),leftact% read_attribute 1 (rightact% cQ (pv 6) (ag))|b] %[|b],aw (PW.pt (bG (uP (oY (mi hr) (pv 4) (pv 2))) (a9 (binrel% op_lt (fE j3 (by rfl) g.n_len qg %[pv 2|a]) (g.c_MOST_ATTRIBUTES.pe rfl))))) %[wN (mi hr) (pv 2) (pv 4) (pv 5) rfl|b] %[|b],ao (pv 1)|b],?_⟩;have hd:=aJ hc;have cut:∀x y:Nat,cb (VL t) (some (x:Int)) (some ((x+y:Nat):Int))=VL ((t.drop x).take y):=λx y=>by rw[jN];congr 2;lia
 have e1:(n:Int)+1=((n+1:Nat):Int):=by nofun
 cbv;ext;rw[e1];apply⟨a,g.c_ATTRIBUTE_NAME_ENDS.a,t, [9,10,12,32,47,61,62],n+1,rfl,ha,g.c_ATTRIBUTE_NAME_ENDS.sq H,?_⟩;ext;cbv;ext;apply⟨_,ha,λp1 nQ=>?_⟩;have er:n+1+((t.drop (n+1)).takeWhile λc=>![9,10,12,32,47,61,62].contains c).length=n+(((t.drop (n+1)).takeWhile λc=>![9,10,12,32,47,61,62].contains c).length+1):=by lia
 rw[er,cut,hd,BK,gN];apply⟨p1,_,rfl,aL.of aa,λp2 H2 eK s2 h2=>?_⟩;have eN:((c::(t.drop (n+1)).takeWhile λc=>![9,10,12,32,47,61,62].contains c).take 64).map Lh=attrName c (t.drop (n+1)):=rfl;rw[eN]at h2;have sa:=(aj.upd nQ).trans s2;ext;apply⟨_,.inl ⟨aL.of h2,λp3 ro=>?_⟩⟩;have sb:=sa.trans (aj.upd (o:= .tup (VL (attrName c (t.drop (n+1))))) ro);cbv;ext;apply⟨A0 _,λp4 rn=>?_⟩;have sc:=sb.trans (aj.upd (o:= .lst []) rn);generalize V6:upd (upd H2 p3 (.tup (VL (attrName c (t.drop (n+1)))))) p4 (.lst [])=H4 at sc ⊢
 have Wg:H4 p3=some (.tup ((attrName c (t.drop (n+1))).map kI|>.map kV)):=by
  rw[rR,<-V6,ae (af aa rn),aa]
 have Wf:H4 p4=some (.lst (VL [])):=by rw[<-V6,aa];rfl
 cbv;ext;have Zw:n+(((t.drop (n+1)).takeWhile λc=>![9,10,12,32,47,61,62].contains c).length+1)=n+1+((t.drop (n+1)).takeWhile λc=>![9,10,12,32,47,61,62].contains c).length:=by nofun
 generalize hE:n+(((t.drop (n+1)).takeWhile λc=>![9,10,12,32,47,61,62].contains c).length+1)=en
 have K0:t.drop en=bu (t.drop (n+1)):=by
  rw[<-hE,Zw,<-A7];rfl
 apply⟨a,g.c_BLANKS.a,t, [9,10,12,32],en,rfl,sc.seq ha,g.c_BLANKS.sq H4,?_⟩;generalize hm:en+((t.drop en).takeWhile λc=>[9,10,12,32].contains c).length=m
 have Jh:t.drop m=da (bu (t.drop (n+1))):=by
  rw[<-hm,<-A7,K0];rfl
 have pJ:n<m:=by lia
 ext;apply g7 λR hR=>?_
 have tail:∀(q:Nat) (lv:Addr) (v:List Nat) (v6:Option V) (H':Hp),H lv=none->aj H4 H'->H' lv=some (.lst (VL v))->v=(dN (t.drop (n+1))).1->t.drop q=(dN (t.drop (n+1))).2->n<q->
   R [some (V.ref a),some (V.int (q:Int)),some (V.ref d),some (V.int (en:Int)),some (V.ref p3),some (V.ref lv),v6] H':=by
  intro q lv v v6 H' Ug s' VN ev eq hq;obtain⟨ls,el, ⟨Fb,Er⟩,qX⟩:=hA;have sf:=sc.trans s';have qY:=sf _ _ Fb;have hg:=lx.t (k:=(attrName c (t.drop (n+1))).map kI) qY (s' _ _ Wg);have dW:=qE ls (attrName c (t.drop (n+1)));rw[el]at dW;subst hR;cbv;ext;apply⟨d,_,rfl,hg,?_⟩;rw[dW];apply bb (λh1=>?_) (λh1=>?_)
  .have h1:(l.any λa=>a.1==attrName c (t.drop (n+1)))=false:=by simpa using h1
   ext;apply⟨_,qY,?_⟩;rw[fb];have Zy:l.length=ls.length:=by rw[<-el,lR]
   apply bb (λh2=>?_) (λh2=>?_)
   .refine⟨d,_,rfl,xK.t qY (s' _ _ Wg) (by rw[fb];exact cY (by lia)),?_⟩;ext
    have LN:putK (eO ls) ((attrName c (t.drop (n+1))).map kI) (V.ref lv)=eO (ls++[(attrName c (t.drop (n+1)),v,lv)]):=by
     have e0:cS (eO ls) ((attrName c (t.drop (n+1))).map kI)=none:=by
      rw[h1]at dW;cases hv:cS (eO ls) ((attrName c (t.drop (n+1))).map kI)with
      |none=>rfl
      |some x=>rw[hv]at dW;cases dW
     rw[sE _ e0];unfold eO;rw[AL];rfl
    rw[LN];apply k q _ (λb o e nb=>by rw[ae nb];exact sf _ _ e) ⟨ls++[(attrName c (t.drop (n+1)),v,lv)],?_, ⟨aa,λx hx=>?_⟩,λx hx=>?_⟩ eq hq
    .unfold iq;rw[iN (by intro z;rcases z with z|z;rw[h1]at z;cases z;lia),<-el,<-ev];unfold gd;rw[AL];rfl
    .rcases AU.mp hx with hx|hx
     .rw[ae (aE (sf _ _ (Er x hx)) qY (by intro z;cases z))];exact sf _ _ (Er x hx)
     .have e:x=(attrName c (t.drop (n+1)),v,lv):=by simpa using hx
      subst e;rw[ae (aE VN qY (by intro z;cases z))];exact VN
    .rcases AU.mp hx with hx|hx
     .exact qX x hx
     .have e:x=(attrName c (t.drop (n+1)),v,lv):=by simpa using hx
      subst e;exact hN _ Ug
   .refine k q _ (aj.b sf d) ⟨ls,?_, ⟨qY,λx hx=>sf _ _ (Er x hx)⟩,qX⟩ eq hq;unfold iq;rw[iP (.inr (by lia))];exact el
  .have h1:(l.any λa=>a.1==attrName c (t.drop (n+1)))=true:=by simpa using h1
   apply k q _ (aj.b sf d) ⟨ls,?_, ⟨qY,λx hx=>sf _ _ (Er x hx)⟩,qX⟩ eq hq;unfold iq;rw[iP (.inl h1)];exact el
 ext;apply⟨_,.inl (sc.seq ha),?_⟩;rw[ax];apply bb (λh1=>?_) (λh1=>?_)
 .obtain⟨e,he⟩:∃e,t[m]? =some e:=⟨t[m],AN (by omega)⟩
  have VX:=aJ he;apply⟨_,sc.seq ha,_,cR he,?_⟩;ext;have e2:(m:Int)+1=((m+1:Nat):Int):=by nofun
  apply bb (λh2=>?_) (λh2=>?_)
  .have h2:e=61:=by lia
   cbv;ext;rw[e2];apply⟨a,t,m+1,rfl,sc.seq ha,hl,hb,λp5 l5 q5 H5 Jd Yw s5 Wd Q0 e5 hq5=>?_⟩;ext;cbv;ext;apply⟨_,bC.of Wd,_,rfl,?_⟩;ext;apply⟨_,bC.of Wd,_,rfl,?_⟩
   have ea:dN (t.drop (n+1))=c6 (t.drop (m+1)):=by
    unfold dN;rw[<-Jh,VX];simp only;rw[iP h2]
   exact tail q5 l5 _ _ H5 (sc.free Yw) s5 Q0 (by rw[ea]) (by rw[ea];exact e5) (by nofun)
  .have h2:¬e=61:=by lia
   have ea:dN (t.drop (n+1))=([],t.drop m):=by
    unfold dN;rw[<-Jh,VX];simp only;rw[iN h2]
   exact tail m p4 [] _ H4 (sb.free rn) (aj.refl _) Wf (by rw[ea]) (by rw[ea]) pJ
 .have ea:dN (t.drop (n+1))=([],t.drop m):=by
   unfold dN;have h0:t.drop m=[]:=AQ (by omega);rw[<-Jh,h0]
  exact tail m p4 [] _ H4 (sb.free rn) (aj.refl _) Wf (by rw[ea]) (by rw[ea]) pJ
def dw (nm:Addr) (wd:Str) (at_:Addr) (sh:Bool) (tx:Addr) (wr:V):List (Str×V):=
 [("name",.ref nm), ("word",.str wd), ("attributes",.ref at_), ("short",.bl sh), ("text",.ref tx), ("written",wr)]
def hG (depth:Nat) (tag:Addr) (wd:Str) (ins:Addr):List (Str×V):=
 [("kind",.int 1), ("depth",.int depth), ("tag",.ref tag), ("word",.str wd), ("inside",.ref ins)]
def Dt (kind depth:Nat) (bF:Addr):List (Str×V):=[("kind",.int kind), ("depth",.int depth), ("points",.ref bF)]
theorem cq {n:Nat} (h:Nat.ble n 10=true):n<1000:=CL (Nat.le_of_ble_eq_true h) nofun
inductive sp_Tag_init (g:G w K mg) (vs:List V) (H:Hp) (Q:VK) (_:XK):Prop
 |i (x dx nm d:Addr) (t:List Nat) (sh:Bool) (_:vs=[.ref x,.ref nm,.ref d,.bl sh]) (_:H x=some (.ins g.k_Tag dx [])) (_:H nm=some (.lst (VL t))) (_:t.length<=100) (_:(∀n∈t,n<10000000)) (_:∀(tx:Addr) (H':Hp),H tx=none->H' x=some (.ins g.k_Tag dx (dw nm (W t) d sh tx .aY))->H' tx=some (.lst [])->fB x H H'->Q .aY H')
theorem ok_Tag_init (g:G w K mg):aI P w K mg base bO 2 g.Tag_init.f g.Tag_init.fd ["self","name","attributes","short"] (sp_Tag_init g):=by
 apply g.Tag_init.fn.bW sc_Tag_init λvs H Q E h=>?_;obtain⟨x,dx,nm,d,t,sh,rfl,hx,hn,hl,hb,k⟩:=h;apply⟨rfl,λ_ _ _ _ hr=>?_⟩;apply⟨_,%[aT (pv 0) (pv 1) rfl,aT (pv 0) (unop% word_of %[pv 1|a]) rfl,aT (pv 0) (pv 2) rfl,aT (pv 0) (pv 3) rfl,aT (pv 0) (aM %[|a]) rfl,aT (pv 0) (fT) rfl|b],?_⟩;cbv;apply⟨_,dx,_,hx,g.cl_Tag,g.na_Tag_name,cq rfl,?_⟩;cbv;have n1:nm≠x:=aE hn hx (by intro z;cases z);apply⟨nm,t,rfl,aL.of (by rw[ae n1];exact hn),hl,hb,λH1 s1=>⟨_,dx,_,s1 _ _ aa,g.cl_Tag,g.na_Tag_word,cq rfl,?_⟩⟩;cbv;apply⟨_,dx,_,aa,g.cl_Tag,g.na_Tag_attributes,cq rfl,?_⟩;cbv;apply⟨_,dx,_,aa,g.cl_Tag,g.na_Tag_short,cq rfl,?_⟩;cbv;apply⟨A0 _,λp hp=>?_⟩;rw[d5,d5]at hp ⊢;have y6:x≠p:=af aa hp;apply⟨_,dx,_, (by rw[ae y6];exact aa),g.cl_Tag,g.na_Tag_text,cq rfl,?_⟩;apply⟨_,dx,_,aa,g.cl_Tag,g.na_Tag_written,cq rfl,?_⟩;have nQ:H1 p=none:=by rw[ae y6.symm]at hp;exact hp
 have QI:H p=none:=by
  have:=s1.free nQ;rw[ae y6.symm]at this;exact this
 apply k p _ QI ?_ ?_ ?_
 .rw[aa];rfl
 .rw[ae y6.symm,ae y6.symm,aa]
 .intro b o e nb;have e1:H1 b=some o:=s1 _ _ (by rw[ae nb];exact e);rw[ae nb,ae nb,ae (af e1 nQ),ae nb];exact e1
inductive sp_Element_init (g:G w K mg) (vs:List V) (H:Hp) (Q:VK) (_:XK):Prop
 |i (x dx tg dt nm at_ tx:Addr) (depth:Nat) (wd:Str) (sh:Bool) (wr:V) (_:vs=[.ref x,.ref tg,.int depth]) (_:H x=some (.ins g.k_Element dx [])) (_:H tg=some (.ins g.k_Tag dt (dw nm wd at_ sh tx wr))) (_:∀(li:Addr) (H':Hp),H li=none->H' x=some (.ins g.k_Element dx (hG depth tg wd li))->H' li=some (.lst [])->fB x H H'->Q .aY H')
theorem ok_Element_init (g:G w K mg):aI P w K mg base bO 1 g.Element_init.f g.Element_init.fd ["self","tag","depth"] (sp_Element_init g):=by
 apply g.Element_init.fn.bW sc_Element_init λvs H Q E h=>?_;obtain⟨x,dx,tg,dt,nm,at_,tx,depth,wd,sh,wr,rfl,hx,ht,k⟩:=h;apply⟨rfl,λ_ _ _ _ hr=>?_⟩;apply⟨_,%[aT (pv 0) (g.c_ELEMENT.pe rfl) rfl,aT (pv 0) (pv 2) rfl,aT (pv 0) (pv 1) rfl,aT (pv 0) (ak (pv 1) rfl) rfl,aT (pv 0) (aM %[|a]) rfl|b],?_⟩;have Qs:tg≠x:=aE ht hx (by intro z;injection z with z1 z2 z3;cases z3);cbv;apply⟨_,dx,_,hx,g.cl_Element,g.na_Element_kind,cq rfl,?_⟩;cbv;apply⟨_,dx,_,aa,g.cl_Element,g.na_Element_depth,cq rfl,?_⟩;cbv;apply⟨_,dx,_,aa,g.cl_Element,g.na_Element_tag,cq rfl,?_⟩;cbv;rw[d5,d5];apply⟨_,dt,_, (by rw[ae Qs];exact ht),g.cl_Tag,g.na_Tag_word,_,rfl,_,dx,_,aa,g.cl_Element,g.na_Element_word,cq rfl,?_⟩;rw[d5];apply⟨A0 _,λp hp=>?_⟩;have y6:x≠p:=af aa hp;apply⟨_,dx,_, (by rw[ae y6];exact aa),g.cl_Element,g.na_Element_inside,cq rfl,?_⟩;have QI:H p=none:=by rw[ae y6.symm]at hp;exact hp
 apply k p _ QI ?_ ?_ ?_
 .rw[aa];rfl
 .rw[ae y6.symm,aa]
 .intro b o e nb;rw[ae nb,ae (af e QI),ae nb];exact e
inductive sp_Leaf_init (g:G w K mg) (vs:List V) (H:Hp) (Q:VK) (_:XK):Prop
 |i (x dx bF:Addr) (kind depth:Nat) (_:vs=[.ref x,.int kind,.int depth,.ref bF]) (_:H x=some (.ins g.k_Leaf dx [])) (_:∀(H':Hp),H' x=some (.ins g.k_Leaf dx (Dt kind depth bF))->fB x H H'->Q .aY H')
theorem ok_Leaf_init (g:G w K mg):aI P w K mg base bO 1 g.Leaf_init.f g.Leaf_init.fd ["self","kind","depth","points"] (sp_Leaf_init g):=by
 apply g.Leaf_init.fn.bW sc_Leaf_init λvs H Q E h=>?_;obtain⟨x,dx,bF,kind,depth,rfl,hx,k⟩:=h;apply⟨rfl,λ_ _ _ _ hr=>?_⟩;apply⟨_,%[aT (pv 0) (pv 1) rfl,aT (pv 0) (pv 2) rfl,aT (pv 0) (pv 3) rfl|b],?_⟩;cbv;apply⟨_,dx,_,hx,g.cl_Leaf,g.na_Leaf_kind,cq rfl,?_⟩;cbv;apply⟨_,dx,_,aa,g.cl_Leaf,g.na_Leaf_depth,cq rfl,?_⟩;apply⟨_,dx,_,aa,g.cl_Leaf,g.na_Leaf_points,cq rfl,?_⟩;apply k _ ?_ ?_
 .rw[aa];rfl
 .intro b o e nb;rw[ae nb,ae nb,ae nb];exact e
structure TG where
 a:Addr
 dx:Addr
 nm:Addr
 d:Addr
 tx:Addr
 name:Aa
 sh:Bool
theorem Gk (p:Nat->Bool) (u:List Nat):(u.takeWhile p).getLast? =if(u.takeWhile p).length=0 then none else u[(u.takeWhile p).length-1]? :=by
 rw[FI]
 by_cases h:(u.takeWhile p).length=0
 .rw[iP h,DC (by lia)]
 .rw[iN h];have e:u.takeWhile p=u.take (u.takeWhile p).length:=(gN p u).symm;have e2:(u.take (u.takeWhile p).length)[(u.takeWhile p).length-1]? =u[(u.takeWhile p).length-1]? :=D5 (by lia);rw[<-e2,<-e]
structure kq (g:G w K mg) (N:Addr->Prop) (H:Hp) (t:TG) (attrs:List cO) (text:Aa) (wr:V):Prop where
 ob:H t.a=some (.ins g.k_Tag t.dx (dw t.nm (W t.name) t.d t.sh t.tx wr))
 nm:H t.nm=some (.lst (VL t.name))
 at_:Ld N H t.d attrs
 tx:H t.tx=some (.lst (VL text))
theorem kq.same {N:Addr->Prop} {t:TG} {attrs:List cO} {text:Aa} {wr:V} (s:aj H H') (h:kq g N H t attrs text wr):kq g N H' t attrs text wr:=
 ⟨s _ _ h.ob,s _ _ h.nm,h.at_.same s,s _ _ h.tx⟩
structure TG.Rk (H:Hp) (t:TG):Prop where
 a:H t.a=none
 dx:H t.dx=none
 nm:H t.nm=none
 d:H t.d=none
 tx:H t.tx=none
inductive sp_plain_tag (g:G w K mg) (vs:List V) (H:Hp) (Q:VK) (_:XK):Prop
 |i (s:String) (_:vs=[.str (Str.ofString s)]) (_:(aG s).length<=100) (_:(∀n∈aG s,n<10000000)) (_:∀(t:TG) (H':Hp),t.Rk H->aj H H'->t.name=aG s->t.sh=false->kq g (λb=>H b=none) H' t [] [] .aY->Q (.ref t.a) H')
theorem ok_plain_tag (g:G w K mg):aI P w K mg base bO 4 g.plain_tag.f g.plain_tag.fd ["word"] (sp_plain_tag g):=by
 apply g.plain_tag.fn.bW sc_plain_tag λvs H Q E h=>?_;obtain⟨str,rfl,hl,hb,k⟩:=h;apply⟨rfl,λ_ _ _ _ hr=>?_⟩;apply⟨_,%[ao (unop% N.Tag_init %[unop% points_of %[pv 0|a],sG,eu|a])|b],?_⟩;have e:(Str.ofString str).cps.toList=aG str:=TL.fc str
 have hsz:(Str.ofString str).cps.size<=sizeLine:=by
  have:=congrArg BJ e;rw[CW]at this;rw[this];exact cF (by nofun)
 apply⟨_,rfl,hsz,λp H1 hp s1 h1=>?_⟩;rw[e]at h1;intro d hd x dx hx oz dF;have RJ:p≠d:=af h1 hd;have y6:p≠x:=af (by rw[ae RJ];exact h1) hx;have Th:p≠dx:=af (by rw[ae RJ];exact h1) oz;apply⟨x,dx,p,d,aG str,false,rfl,aa,?_,hl,hb,λtx H2 nO h2 Sw s2=>⟨rfl,?_⟩⟩
 .rw[ae y6,ae Th,ae RJ];exact h1
 have Ds:d≠x:=af aa hx;have Lp:d≠dx:=af aa oz;have rr:H d=none:=s1.free hd;have RW:H x=none:=s1.free (by rw[ae Ds.symm]at hx;exact hx);have Um:H dx=none:=s1.free (by rw[ae Lp.symm]at oz;exact oz);have KW:aj H1 H2:=λb o e=>s2 b o (by rw[ae (af (by rw[ae (af e hd)];exact e) hx),ae (af (by rw[ae (af e hd)];exact e) oz),ae (af e hd)];exact e) (af (by rw[ae (af e hd)];exact e) hx)
 have TM:H tx=none:=by
  have a1:tx≠x:=λz=>by rw[z,aa]at nO;cases nO
  have a2:tx≠dx:=λz=>by rw[z,ae dF,aa]at nO;cases nO
  have a3:tx≠d:=λz=>by rw[z,ae Ds,ae Lp,aa]at nO;cases nO
  rw[ae a1,ae a2,ae a3]at nO;exact s1.free nO
 apply k ⟨x,dx,p,d,tx,aG str,false⟩ H2 ⟨RW,Um,hp,rr,TM⟩ (s1.trans KW) rfl rfl ⟨h2,KW _ _ h1, ⟨[],rfl, ⟨?_,λx hx=>by cases hx⟩,λx hx=>by cases hx⟩,Sw⟩;apply s2 d _ ?_ Ds;rw[ae Ds,ae Lp,aa];rfl
theorem ky (t:List Nat):(tagName t).length<=64:=by unfold tagName;rw[AF,AX];lia
theorem x3 (t:List Nat) (hb:∀c∈t,c<1200000):∀n∈tagName t,n<10000000:=by
 intro n hn;unfold tagName at hn;obtain⟨c,hc,rfl⟩:=BC.mp hn;have:=hb c (List.takeWhile_sublist _|>.mem (CB hc));unfold Lh
 split<;>lia
inductive sp_read_tag (g:G w K mg) (vs:List V) (H:Hp) (Q:VK) (_:XK):Prop
 |i (a:Addr) (t:List Nat) (n:Nat) (_:vs=[.ref a,.int n]) (_:aL K H a (VL t)) (_:t.length<=1000000) (_:(∀c∈t,c<1200000)) (_:(Lg (t.drop n)=none->∀(p:Addr) (H':Hp),H p=none->aj H H'->H' p=some (.tup [.aY,.int t.length])->Q (.ref p) H')) (_:(∀x,Lg (t.drop n)=some x->∀(p:Addr) (tg:TG) (q:Nat) (H':Hp),H p=none->tg.Rk H->aj H H'->H' p=some (.tup [.ref tg.a,.int q])->tg.name=x.1->tg.sh=x.2.2.1->kq g (λb=>H b=none) H' tg x.2.1 [] .aY->t.drop q=x.2.2.2->n<q->q<=t.length->x.1=tagName (t.drop n)->Q (.ref p) H'))
theorem ok_read_tag (g:G w K mg):aI P w K mg base bO 8 g.read_tag.f g.read_tag.fd ["points","place"] (sp_read_tag g):=by
 apply g.read_tag.fn.bW sc_read_tag λvs H Q E h=>?_;obtain⟨a,t,n,rfl,ha,hl,hb,k0,k1⟩:=h;apply⟨rfl,λ_ _ _ _ hr=>?_⟩;apply⟨_,%[leftact% read_tag 2 (unop% place_of_any %[pv 0,pv 1,g.c_NAME_ENDS.pe rfl|a]),leftact% read_tag 3 (unop% name_from %[aO aW (pv 0) (aF (pv 1)) (aF (pv 2))|a]),leftact% read_tag 4 (sG),leftact% read_tag 1 (pv 2),bE PassesOwn.never (binrel% op_lt (pv 1) (unop% L.n (pv 0))) %[leftact% read_tag 5 (pv 1),leftact% read_tag 1 (unop% place_behind %[pv 0,pv 5,g.c_BLANKS_AND_SLASH.pe rfl|a]),aw (PW.pt (bG (binrel% op_lt (pv 1) (unop% L.n (pv 0))) (a9 (binrel% op_eq (rightact% aN (pv 0) (pv 1)) (g.c_GREATER.pe rfl))))) %[leftact% read_tag 6 (As (lL op_gt (pv 1) (pv 5) (dk _)) (uS (lL op_eq (rightact% aN (pv 0) (ay op_sub (pv 1) (ag))) (g.c_SLASH.pe rfl) (dk _)))),ao (br %[unop% N.Tag_init %[pv 3,pv 4,pv 6|a],ay op_add (pv 1) (ag)|a])|b] %[|b],aw (binrel% op_lt (pv 1) (unop% L.n (pv 0))) %[leftact% read_tag 1 (unop% read_attribute %[pv 0,pv 1,pv 4|a])|b] %[|b]|b],ao (br %[fT,unop% L.n (pv 0)|a])|b],?_⟩;have rA:∀c∈t,c<10000000:=λc hc=>by have:=hb c hc;nofun
 have cut:∀x y:Nat,cb (VL t) (some (x:Int)) (some ((x+y:Nat):Int))=VL ((t.drop x).take y):=λx y=>by rw[jN];congr 2;lia
 cbv;ext;apply⟨a,g.c_NAME_ENDS.a,t, [9,10,12,32,47,62],n,rfl,ha,g.c_NAME_ENDS.sq H,?_⟩;ext;cbv;ext;apply⟨_,ha,λp1 nQ=>?_⟩;rw[cut,gN];apply⟨p1,_,rfl,aL.of aa,λnm H2 pJ s2 h2=>?_⟩;have eN:(((t.drop n).takeWhile λc=>![9,10,12,32,47,62].contains c).take 64).map Lh=tagName (t.drop n):=rfl;rw[eN]at h2;have sa:=(aj.upd nQ).trans s2;ext;cbv;ext;intro d hd;have sb:=sa.trans (aj.upd (o:= .dT []) hd);have lg:nm≠d:=af h2 hd;ext;cbv;ext;cbv;generalize K0:n+((t.drop n).takeWhile λc=>![9,10,12,32,47,62].contains c).length=en
 have xJ:Lg (t.drop n)=(A false (t.drop en) []).map λx=>(tagName (t.drop n),x.1,x.2.1,x.2.2):=by
  rw[Ao,A7,K0]
 apply⟨λm σ H'=>∃(q:Nat) (l:List cO) (v5 v6:Option V),SE σ [some (.ref a),some (.int q),some (.int en),some (.ref nm),some (.ref d),v5,v6]/\m=t.length-q/\n<=q/\aj H H'/\H' nm=some (.lst (VL (tagName (t.drop n))))/\Ld (λb=>H b=none) H' d l/\l.length<=64/\A false (t.drop q) l.reverse=A false (t.drop en) [],
  ⟨t.length-en,en, [],none,none,rfl,rfl,by lia,sb,by rw[ae lg];exact h2, ⟨[],rfl, ⟨aa,λx hx=>by cases hx⟩,λx hx=>by cases hx⟩,by simp,rfl⟩,?_⟩
 rintro m σ H' ⟨q,l,v5,v6,rfl,rfl,yR,sH,xH,hA,Gd,N0⟩;ext;apply⟨_,.inl (sH.seq ha),?_⟩;rw[ax];apply bb (λhq=>⟨_,λ_ _ h=>h,?_⟩) (λhq=>?_)
 .
  cbv;ext;cbv;ext;apply⟨a,g.c_BLANKS_AND_SLASH.a,t, [9,10,12,32,47],q,rfl,sH.seq ha,g.c_BLANKS_AND_SLASH.sq H',?_⟩;have ZG:(λc=>[9,10,12,32,47].contains c)=bs:=rfl;rw[ZG];have turn:=MR (t.drop q) l.reverse;rw[A7]at turn;have gm:=Gk bs (t.drop q);generalize hm:q+((t.drop q).takeWhile bs).length=m at turn ⊢;ext;have rr:H d=none:=sa.free hd;have hqm:q<=m:=by lia
  apply g7 λR hR=>?_
  have tail:∀v6,¬(∃r,t.drop m=62::r)->R [some (V.ref a),some (V.int (m:Int)),some (V.int (en:Int)),some (V.ref nm),some (V.ref d),some (V.int (q:Int)),v6] H':=by
   intro v6 Zj;subst hR;ext;apply⟨_,.inl (sH.seq ha),?_⟩;rw[ax];apply bb (λh1=>?_) (λh1=>?_)
   .obtain⟨c,hc⟩:∃c,t[m]? =some c:=⟨t[m],AN (by omega)⟩
    have NT:=aJ hc;have Uu:c≠62:=λz=>Zj ⟨_,by rw[NT,z]⟩;rw[NT]at turn;simp only[iN Uu]at turn;apply⟨a,d,t,m,c,l,λb=>H b=none,rfl,λb YU=>sH.free YU,sH.seq ha,hl,rA,hc,hA,Gd,λq' H2' U7 Ze e' uo=>?_⟩;obtain⟨ls,_, ⟨Fb,_⟩,_⟩:=hA;apply⟨_,by lia,q',_,_,_,rfl,rfl,by lia,λb o e=>U7 b o (sH b o e) (af e rr),U7 _ _ xH lg,Ze,Dj _ _ _ Gd,?_⟩;rw[e',<-Di,<-turn];exact N0
   .have h0:t.drop m=[]:=AQ (by lia);rw[h0]at turn;apply⟨_,by lia,m,l,_,_,rfl,rfl,by nofun,sH,xH,hA,Gd,?_⟩;rw[h0,Ai,<-N0,turn]
  ext;apply⟨_,.inl (sH.seq ha),?_⟩;rw[ax];apply bb (λh1=>?_) (λh1=>?_)
  .obtain⟨c,hc⟩:∃c,t[m]? =some c:=⟨t[m],AN (by omega)⟩
   have NT:=aJ hc;apply⟨_,sH.seq ha,_,cR hc,?_⟩;ext;apply bb (λh2=>?_) (λh2=>?_)
   .have h2:c=62:=by lia
    rw[NT]at turn;simp only[iP h2]at turn;rw[N0]at turn;rw[turn]at xJ;simp only[EX,CP]at xJ;apply g7 λR2 Ee=>?_
    have made:∀sh:Bool,sh=jl ((t.drop q).takeWhile bs)->R2 [some (V.ref a),some (V.int (m:Int)),some (V.int (en:Int)),some (V.ref nm),some (V.ref d),some (V.int (q:Int)),some (V.bl sh)] H':=by
     intro sh Zv;subst Ee;rw[<-Zv]at xJ;ext;intro x dx hx oz dF;have hA0:=hA;obtain⟨ls,yY, ⟨Fb,Er⟩,qX⟩:=hA;have nx:∀{b o},H' b=some o->b≠x:=λe=>af e hx;have Ds:∀{b o},H' b=some o->b≠dx:=λe=>af e oz;apply⟨x,dx,nm,d,tagName (t.drop n),sh,rfl,aa,?_,AY (ky _) nofun,x3 _ λc hc=>hb c (BH hc),λtx H3 nO h3 Zl s3=>?_⟩
     .rw[ae (nx xH),ae (Ds xH)];exact xH
     have yM:aj H' H3:=λb o e=>s3 b o (by rw[ae (nx e),ae (Ds e)];exact e) (nx e)
     have TN:H' tx=none:=by
      have a1:tx≠x:=λz=>by rw[z,aa]at nO;cases nO
      have a2:tx≠dx:=λz=>by rw[z,ae dF,aa]at nO;cases nO
      rw[ae a1,ae a2]at nO;exact nO
     have e1:(m:Int)+1=((m+1:Nat):Int):=by nofun
     apply⟨rfl,?_⟩;ext;apply⟨by decide,λp hp=>?_⟩;have sf:=(sH.trans yM).trans (aj.upd (o:= .tup [V.ref x,V.int ((m:Int)+1)]) hp)
     have NL:H nm=none:=by
      have:=pJ
      by_cases z:nm=p1
      .rw[z];exact nQ
      .rw[ae z]at this;exact this
     apply k1 _ xJ p ⟨x,dx,nm,d,tx,tagName (t.drop n),sh⟩ (m+1) _ ((sH.trans yM).free hp) ⟨sH.free hx,sH.free oz,NL,rr,sH.free TN⟩ sf ?_ rfl rfl ?_ ?_ (by nofun) (by lia) rfl
     .rw[aa,e1]
     .refine kq.same (aj.upd hp) ⟨h3,yM _ _ xH, ⟨ls,yY, ⟨yM _ _ Fb,λx hx=>yM _ _ (Er x hx)⟩,qX⟩,Zl⟩
     .rfl
    ext;apply bb (λh3=>?_) (λh3=>?_)
    .have e2:(m:Int)-1=((m-1:Nat):Int):=by lia
     obtain⟨c',Jl⟩:∃c',t[m-1]? =some c':=⟨t[m-1],AN (by omega)⟩
     apply⟨_,sH.seq ha,_,by rw[e2];exact cR Jl,?_⟩;ext;apply made _ ?_;unfold jl;rw[gm,iN (by lia),FD];have e3:q+(((t.drop q).takeWhile bs).length-1)=m-1:=by lia
     rw[e3,Jl];simp only;rw[C6];simp;lia
    .refine made false ?_;unfold jl;rw[gm,iP (by lia)]
   .exact tail _ λ⟨r,e⟩=>by rw[NT]at e;injection e with e1 _;lia
  .exact tail _ λ⟨r,e⟩=>by
    have:=congrArg BJ e;rw[AM,AA]at this;omega
 .
  ext;have h0:t.drop q=[]:=AQ (by lia);rw[h0,Ai]at N0;rw[<-N0]at xJ;apply⟨_,.inl (sH.seq ha),by decide,λp hp=>?_⟩;apply k0 xJ p _ (sH.free hp) (sH.trans (aj.upd hp)) ?_;rw[aa,ax]
theorem yC (l:List Nat):(l.flatMap λn=>44::TL.dv n)=[]\/∃r, (l.flatMap λn=>44::TL.dv n)=44::r:=by
 cases l with
 |nil=>exact .inl rfl
 |cons c l=>exact .inr ⟨_,by rw[CV];rfl⟩
theorem tj:∀a b:List Nat, (a.flatMap λn=>44::TL.dv n)=(b.flatMap λn=>44::TL.dv n)->a=b
 |[], [],_=>rfl
 |[],d::b,h=>by rw[CV]at h;cases h
 |c::a, [],h=>by rw[CV]at h;cases h
 |c::a,d::b,h=>by
  rw[CV,CV,AS,AS]at h;injection h with _ h
  have cut:∀(n:Nat) (l:List Nat), (TL.dv n++l.flatMap λn=>44::TL.dv n).takeWhile (λd=>d !=44)=TL.dv n:=by
   intro n l;apply jH _ (λx hx=>?_) _ λx r e=>?_
   .simp;intro z;rw[z]at hx;exact TL.yi (.inl nofun) hx
   .rcases yC l with z|⟨r',z⟩
    .rw[z]at e;cases e
    .rw[z]at e;injection e with e1 _;simp[<-e1]
  have e1:=congrArg (λl=>l.takeWhile λd=>d !=44) h
  have e1:TL.dv c=TL.dv d:=by
   have:=e1;rw[cut,cut]at this;exact this
  have ZE:=TL.Ce e1;subst ZE;rw[tj a b (List.append_cancel_left h)]
theorem ko {a b:List Nat} (h:W a=W b):a=b:=by
 have e:gi a=gi b:=by
  have:=congrArg (λs:Str=>s.cps.toList) h;simpa [W]using this
 by_cases ha:a.all eW=true
 .have:W b=⟨a.toArray⟩:=by
   rw[<-h];unfold W gi;rw[iP ha]
  exact((wc ha b).mp this).symm
 .by_cases hb:b.all eW=true
  .have:W a=⟨b.toArray⟩:=by
    rw[h];unfold W gi;rw[iP hb]
   exact(wc hb a).mp this
  .unfold gi at e;rw[iN ha,iN hb]at e;exact tj a b e
def WS (ws:List Aa):List V:=ws.map λn=>V.str (W n)
theorem gQ (ws:List Aa):(WS ws).all eU=true:=by unfold WS;rw[JZ];exact DH.mpr λ_ _=>rfl
theorem iw (n:Aa):∀ws:List Aa,xw (.str (W n)) (WS ws)=ws.contains n
 |[]=>rfl
 |c::ws=>by
  show(zk (.str (W c)) (.str (W n))||xw (.str (W n)) (WS ws))=_
  rw[iw n ws,BE];congr 1;show(W c==W n)=(n==c)
  by_cases h:c=n
  .subst h;rw[beq_self_eq_true,beq_self_eq_true]
  .have h1:¬W c=W n:=λz=>h (ko z);have h2:¬n=c:=λz=>h z.symm;rw[beq_eq_false_iff_ne.mpr h1,beq_eq_false_iff_ne.mpr h2]
theorem Bh (a b:List Aa):WS (a++b)=WS a++WS b:=AL ..
theorem Am {s:String} (h:(aG s).all eW=true):W (aG s)=Str.ofString s:=((Qa h _).mpr rfl)
structure ND where
 a:Addr
 dx:Addr
 li:Addr
 depth:Nat
 kind:Nat
 tg:TG
 at_:List cO
 bF:Aa
 mu:Bool
def ND.node (n:ND):Ro:=if n.kind=1 then⟨1,n.depth,n.tg.name,n.at_, []⟩else⟨n.kind,n.depth, [], [],n.bF⟩
def aq (d:Nat):List ND->List Addr
 |[]=>[]
 |n::r=>if n.depth<=d then []else if n.depth=d+1 then n.a::aq d r else aq d r
theorem bK (d:Nat):∀r s:List ND, (∀n∈r,d<n.depth)->aq d (r++s)=aq d r++aq d s
 |[],s,_=>rfl
 |n::r,s,h=>by
  have hn:=h n (by simp);have e:∀l:List ND,aq d (n::l)=if n.depth=d+1 then n.a::aq d l else aq d l:=λl=>by rw[aq,iN (show¬n.depth<=d by nofun)]
  rw[AS,e,e,bK d r s λm hm=>h m (by simp[hm])]
  split<;>rfl
theorem dU (d:Nat):∀r s:List ND, (∃n∈r,n.depth<=d)->aq d (r++s)=aq d r
 |[],s,h=>by obtain⟨n,hn,_⟩:=h;cases hn
 |n::r,s,h=>by
  rw[AS,aq,aq]
  by_cases hn:n.depth<=d
  .rw[iP hn,iP hn]
  .rw[iN hn,iN hn]
   have h':∃n∈r,n.depth<=d:=by
    obtain⟨m,hm,hd⟩:=h;rcases AG.mp hm with e|e
    .rw[e]at hd;exact absurd hd hn
    .exact⟨m,e,hd⟩
   rw[dU d r s h']
structure gb (g:G w K mg) (F:Addr->Prop) (H:Hp) (t:TG) (attrs:List cO):Prop where
 ob:H t.a=some (.ins g.k_Tag t.dx (dw t.nm (W t.name) t.d t.sh t.tx .aY))
 nm:H t.nm=some (.lst (VL t.name))
 at_:∃ls,gd ls=attrs/\Oh H t.d ls/\∀x∈ls,¬F x.2.2
 fa:¬F t.a
 fn:¬F t.nm
structure aQ (g:G w K mg) (F:Addr->Prop) (H:Hp) (n:ND) (kids:List Addr):Prop where
 fl:n.mu=true->F n.li
 fu:n.mu=false->¬F n.li/\n.kind≠1
 fa:¬F n.a
 el:n.kind=1->H n.a=some (.ins g.k_Element n.dx (hG n.depth n.tg.a (W n.tg.name) n.li))/\H n.li=some (.lst (kids.map V.ref))/\gb g F H n.tg n.at_
 lf:n.kind≠1->H n.a=some (.ins g.k_Leaf n.dx (Dt n.kind n.depth n.li))/\H n.li=some (.lst (VL n.bF))/\kids=[]
def az (g:G w K mg) (F:Addr->Prop) (H:Hp):List ND->Prop
 |[]=>True
 |n::r=>aQ g F H n (aq n.depth r)/\az g F H r
theorem az.app:∀{r s:List ND},az g F H (r++s)->az g F H s
 |[],_,h=>h
 |_::_,_,h=>az.app h.2
theorem az.at_ {pre post:List ND} {n:ND} (h:az g F H (pre++n::post)):aQ g F H n (aq n.depth post):=(az.app h).1
theorem az.mem:∀{r:List ND} {n:ND},az g F H r->n∈r->∃kids,aQ g F H n kids
 |m::r,n,h,hn=>by
  rcases AG.mp hn with e|e
  .rw[e];exact⟨_,h.1⟩
  .exact az.mem h.2 e
def bc (F:Addr->Prop) (H H':Hp):Prop:=∀b o,H b=some o->¬F b->H' b=some o
theorem bc.refl (F:Addr->Prop) (H:Hp):bc F H H:=λ_ _ e _=>e
theorem aj.keep (s:aj H H') (F:Addr->Prop):bc F H H':=λb o e _=>s b o e
def aS (F F':Addr->Prop) (H:Hp):Prop:=(∀b,F b->F' b)/\∀b,F' b->F b\/H b=none
theorem aS.refl (F:Addr->Prop) (H:Hp):aS F F H:=⟨λ_ h=>h,λ_ h=> .inl h⟩
theorem aS.not (gr:aS F F' H) {b:Addr} {o:HO} (h:H b=some o) (n:¬F b):¬F' b:=λz=>by
 rcases gr.2 b z with q|q
 .exact n q
 .rw[h]at q;cases q
theorem bc.trans {F F1:Addr->Prop} {H H1 H2:Hp} (a:bc F H H1) (gr:aS F F1 H) (b:bc F1 H1 H2):bc F H H2:=λc o e n=>b c o (a c o e n) (gr.not e n)
theorem gb.keep {t:TG} {l:List cO} (h:gb g F H t l) (gr:aS F F' H) (k:bc F H H') (hd:∀o,H t.d=some o->H' t.d=some o):gb g F' H' t l:=by
 obtain⟨ls,e, ⟨h1,h2⟩,h3⟩:=h.at_;exact⟨k _ _ h.ob h.fa,k _ _ h.nm h.fn, ⟨ls,e, ⟨hd _ h1,λx hx=>k _ _ (h2 x hx) (h3 x hx)⟩,λx hx=>gr.not (h2 x hx) (h3 x hx)⟩,gr.not h.ob h.fa,gr.not h.nm h.fn⟩
theorem aQ.keep {n:ND} {kids:List Addr} (h:aQ g F H n kids) (gr:aS F F' H) (k:bc F H H') (hl:∀o,H n.li=some o->H' n.li=some o) (hd:n.kind=1->∀o,H n.tg.d=some o->H' n.tg.d=some o):aQ g F' H' n kids:=by
 apply⟨λe=>gr.1 _ (h.fl e),λe=>?_,?_,λe=>?_,λe=>?_⟩
 .obtain⟨h1,h2⟩:=h.fu e;exact⟨gr.not (h.lf h2).2.1 h1,h2⟩
 .by_cases e:n.kind=1
  .exact gr.not (h.el e).1 h.fa
  .exact gr.not (h.lf e).1 h.fa
 .obtain⟨h1,h2,h3⟩:=h.el e;exact⟨k _ _ h1 h.fa,hl _ h2,h3.keep gr k (hd e)⟩
 .obtain⟨h1,h2,h3⟩:=h.lf e;exact⟨k _ _ h1 h.fa,hl _ h2,h3⟩
theorem az.keep (gr:aS F F' H) (k:bc F H H'):∀{r:List ND},az g F H r->(∀n∈r,∀o,H n.li=some o->H' n.li=some o)->(∀n∈r,n.kind=1->∀o,H n.tg.d=some o->H' n.tg.d=some o)->az g F' H' r
 |[],_,_,_=>trivial
 |n::r,h,hl,hd=>⟨h.1.keep gr k (hl n (by simp)) (hd n (by simp)),az.keep gr k h.2 (λm hm=>hl m (by simp[hm])) λm hm=>hd m (by simp[hm])⟩
structure aV where
 p:Addr
 dx:Addr
 op:Addr
 rm:Addr
 eh:ND
 ed:ND
 eb:ND
 hs:List ND
 bs:List ND
 path:List ND
 rem:List (TG×List cO)
 begun:Bool
def aV.all (z:aV):List ND:=z.eh::z.ed::(z.hs++z.eb::z.bs)
def aV.du (z:aV):List ND:=z.eh::z.eb::z.path
def ba (h d b o:Addr) (begun:Bool) (r:Addr):List (Str×V):=[("html",.ref h), ("head",.ref d), ("body",.ref b), ("opened",.ref o), ("begun",.bl begun), ("remembered",.ref r)]
def wf:List ND->Prop
 |n::m::r=>m.depth<=n.depth+1/\(n.kind≠1->m.depth<=n.depth)/\wf (m::r)
 |_=>True
def jO (bs:List ND) (n:ND):Prop:=∃pre post,bs=pre++n::post/\∀m∈post,n.depth<m.depth
structure fR (g:G w K mg) (F:Addr->Prop) (H:Hp) (t:TG) (l:List cO):Prop where
 tb:gb g F H t l
 fd:¬F t.d
 tx:H t.tx=some (.lst [])
 ft:¬F t.tx
 sh:t.sh=false
structure aA (g:G w K mg) (F:Addr->Prop) (H:Hp) (z:aV):Prop where
 ob:H z.p=some (.ins g.k_Tree z.dx (ba z.eh.a z.ed.a z.eb.a z.op z.begun z.rm))
 fp:F z.p
 op:H z.op=some (.lst (z.du.map λn=>V.ref n.a))
 fo:F z.op
 rm:H z.rm=some (.lst (z.rem.map λx=>V.ref x.1.a))
 xD:¬F z.rm
 nodes:az g F H z.all
 nd:(z.op::(z.all.filter (·.mu)).map (·.li)).Nodup
 raw:∀pre n post,z.hs++z.bs=pre++n::post->n.kind=2->n.mu=false->∃ll x,pre=ll++[x]/\x.depth+1=n.depth/\x.kind=1/\lj.contains x.tg.name=true
 rE:∀n∈z.path,lj.contains n.tg.name=false
 txt:∀n∈z.hs++z.bs,n.kind=2->n.bF≠[]
 knd:∀n∈z.hs++z.bs,n.kind=1\/n.kind=2\/n.kind=3
 kh:z.eh.kind=1/\z.eh.depth=1/\z.eh.tg.name=aG "html"/\F z.eh.tg.d
 kd:z.ed.kind=1/\z.ed.depth=2/\z.ed.tg.name=aG "head"/\F z.ed.tg.d
 kb:z.eb.kind=1/\z.eb.depth=2/\z.eb.tg.name=aG "body"/\F z.eb.tg.d
 dd:z.eh.tg.d≠z.ed.tg.d/\z.eh.tg.d≠z.eb.tg.d/\z.ed.tg.d≠z.eb.tg.d
 od:∀n∈z.hs++z.bs,n.kind=1->¬F n.tg.d
 dp:∀(i:Nat) (n:ND),z.path[i]? =some n->n.depth=i+3
 low:∀n∈z.hs++z.bs,2<n.depth
 po:∀n∈z.path,n.kind=1/\jO z.bs n/\fR g F H n.tg n.at_
 rt:∀x∈z.rem,fR g F H x.1 x.2
 wf:wf z.all
 nb:z.begun=false->z.bs=[]/\z.path=[]/\z.rem=[]
 uu:∀b,F b->∃o,H b=some o
structure Rel (z:aV) (s:a8):Prop where
 head:s.head=(z.hs.map ND.node).reverse
 body:s.body=(z.bs.map ND.node).reverse
 du:s.open_=(z.path.map λn=>(n.tg.name,n.at_)).reverse++[(aG "body", [])]
 again:s.again=z.rem.map λx=>(x.1.name,x.2)
 begun:s.begun=z.begun
 hA:s.htmlA=z.eh.at_
 dA:s.headA=z.ed.at_
 bA:s.bodyA=z.eb.at_
 fresh:s.fresh=false
inductive Tr (g:G w K mg) (F:Addr->Prop) (H:Hp) (p:Addr) (s:a8):Prop
 |i (z:aV) (_:z.p=p) (_:aA g F H z) (_:Rel z s)
theorem aA.out {z:aV} (T:aA g F H z) {b:Addr} (h:H b=none):¬F b:=λq=>by
 obtain⟨o,e⟩:=T.uu b q;rw[h]at e;cases e
theorem aA.elem {z:aV} (T:aA g F H z) {n:ND} (hn:n∈z.du):H n.a=some (.ins g.k_Element n.dx (hG n.depth n.tg.a (W n.tg.name) n.li))/\n.kind=1/\n∈z.all:=by
 have key:n.kind=1/\n∈z.all:=by
  unfold aV.du at hn;rcases AG.mp hn with e|hn
  .rw[e];exact⟨T.kh.1,by simp[aV.all]⟩
  .rcases AG.mp hn with e|hn
   .rw[e];exact⟨T.kb.1,by simp[aV.all]⟩
   .obtain⟨h1, ⟨pre,post,e,_⟩,_⟩:=T.po n hn;exact⟨h1,by simp[aV.all,e]⟩
 obtain⟨kids,hk⟩:=T.nodes.mem key.2;exact⟨(hk.el key.1).1,key⟩
theorem aA.depth {z:aV} (T:aA g F H z) {i:Nat} {n:ND} (h:z.du[i]? =some n):n.depth=i+1:=by
 unfold aV.du at h
 match i,h with
 |0,h=>cases h;exact T.kh.2.1
 |1,h=>cases h;exact T.kb.2.1
 |i+2,h=>exact T.dp i n h
def aV.cur (z:aV):ND:=(z.eb::z.path).getLast (by simp)
theorem aV.jo (z:aV):z.du.getLast? =some z.cur:=by
 unfold aV.du aV.cur;rw[DI,ET]
theorem aV.lQ (z:aV):z.cur∈z.du:=GX z.jo
theorem Bf {α:Type} {xs:List α} {x:α} (h:xs.getLast? =some x):qZ xs (-1)=some x:=by
 cases xs with
 |nil=>cases h
 |cons y ys=>
  have e:y::ys=(y::ys).dropLast++[x]:=by
   have h2:=List.dropLast_concat_getLast (l:=y::ys) (by simp);rw[ET (by simp)]at h;rw[AH h]at h2;exact h2.symm
  rw[e];exact jr _ _
inductive sp_Tree_current (g:G w K mg) (vs:List V) (H:Hp) (Q:VK) (_:XK):Prop
 |i (F:Addr->Prop) (z:aV) (_:vs=[.ref z.p]) (_:aA g F H z) (_:Q (.ref z.cur.a) H)
theorem ok_Tree_current (g:G w K mg):aI P w K mg base bO 1 g.Tree_current.f g.Tree_current.fd ["self"] (sp_Tree_current g):=by
 apply g.Tree_current.fn.bW sc_Tree_current λvs H Q E h=>?_;obtain⟨F,z,rfl,T,k⟩:=h;apply⟨rfl,λ_ _ _ _ hr=>?_⟩;apply⟨_,%[ao (rightact% aN (ak (pv 0) rfl) (dM cG (ag)))|b],?_⟩;ext;apply⟨_,_,_,T.ob,g.cl_Tree,g.na_Tree_opened,_,rfl,?_⟩;ext;exact⟨_,aL.of T.op,_,Bf (by rw[HJ,z.jo];rfl),k⟩
def cP (p:Aa->Bool) (ns:List Aa):Int:=match ns.reverse.findIdx? p with|some k=>(ns.length:Int)-1-k|none=> -1
theorem nc {p:Aa->Bool} {ns:List Aa} {x:Aa} (h:p x=true):cP p (ns++[x])=ns.length:=by
 unfold cP;rw[BL];show(match([x]++ns.reverse).findIdx? p with|some k=>((ns++[x]).length:Int)-1-k|none=> -1)=_
 rw[GR,D9,h];simp only[if_true];rw[AB];simp
theorem kM {p:Aa->Bool} {ns:List Aa} {x:Aa} (h:p x=false):cP p (ns++[x])=cP p ns:=by
 unfold cP;rw[BL];show(match([x]++ns.reverse).findIdx? p with|some k=>((ns++[x]).length:Int)-1-k|none=> -1)=_
 rw[GR,D9,h];simp only[BS,if_false];cases ns.reverse.findIdx? p with
 |none=>rfl
 |some k=>
  show((ns++[x]).length:Int)-1-((k+1:Nat):Int)=(ns.length:Int)-1-k
  rw[AB,DS];lia
def aV.names (z:aV):List Aa:=z.du.map λn=>n.tg.name
inductive sp_Tree_nearest (g:G w K mg) (vs:List V) (H:Hp) (Q:VK) (_:XK):Prop
 |i (F:Addr->Prop) (z:aV) (b:Addr) (ws:List Aa) (_:vs=[.ref z.p,.ref b]) (_:aA g F H z) (_:bC K H b (WS ws)) (_:z.path.length<=1000) (_:Q (.int (cP (λn=>ws.contains n) z.names)) H)
theorem ok_Tree_nearest (g:G w K mg):aI P w K mg base bO 1 g.Tree_nearest.f g.Tree_nearest.fd ["self","words"] (sp_Tree_nearest g):=by
 apply g.Tree_nearest.fn.bW sc_Tree_nearest λvs H Q E h=>?_;obtain⟨F,z,b,ws,rfl,T,hb,hl,k⟩:=h;apply⟨rfl,λ_ _ _ _ hr=>?_⟩;apply⟨_,%[leftact% Tree_nearest 2 (ay op_sub (unop% L.n (ak (pv 0) rfl)) (ag)),bE PassesOwn.never (PW.pt (bG (binrel% op_ge (pv 2) (ag)) (a9 (binrel_no_prop% op_notIn_seq (ak (rightact% aN (ak (pv 0) rfl) (pv 2)) rfl) (pv 1))))) %[eD (i:=2) sc_Tree_nearest.nd rfl (CM rfl) (ag) uW|b],ao (pv 2)|b],?_⟩;cbv;ext;apply⟨_,_,_,T.ob,g.cl_Tree,g.na_Tree_opened,_,rfl,?_⟩;ext;apply⟨_,.inl (aL.of T.op),?_⟩;cbv;apply⟨λm σ H'=>∃q:Nat,SE σ [some (.ref z.p),some (.ref b),some (.int ((q:Int)-1))]/\H'=H/\m=q/\q<=z.du.length/\cP (λn=>ws.contains n) (z.names.take q)=cP (λn=>ws.contains n) z.names, ⟨z.du.length,z.du.length,?_,rfl,rfl,AE _,?_⟩,?_⟩
 .show _=_
  simp
 .rw[AK (by unfold aV.names;rw[AF];exact AE _)]
 rintro m σ H' ⟨q,rfl,rfl,rfl,hq,he⟩;ext;apply bb (λh0=>?_) (λh0=>?_)
 .obtain⟨n,hn⟩:∃n,z.du[m-1]? =some n:=⟨z.du[m-1]'(by lia),AN (by omega)⟩
  have e1:(m:Int)-1=((m-1:Nat):Int):=by lia
  have qX:z.names[m-1]? =some n.tg.name:=by unfold aV.names;rw[AV,hn];rfl
  have Es:z.names.take m=z.names.take (m-1)++[n.tg.name]:=by
   have:=take_snoc qX;rw[show m-1+1=m by lia]at this;exact this
  have hlen:(z.names.take (m-1)).length=m-1:=by
   rw[AX];have:=b7 qX;lia
  apply⟨_,_,_,T.ob,g.cl_Tree,g.na_Tree_opened,_,rfl,?_⟩;ext;apply⟨_,aL.of T.op,_, (by rw[e1];exact dG (by rw[AV,hn];rfl)),?_⟩;ext;apply⟨_,_,_, (T.elem (AO hn)).1,g.cl_Element,g.na_Element_word,_,rfl,?_⟩;ext;apply⟨b,_,rfl,.inr hb,rfl,gQ ws,?_⟩;rw[iw];ext;apply bb (λhw=>⟨_,λ_ _ h=>h,?_⟩) (λhw=>?_)
  .ext;apply⟨m-1,by omega,m-1,?_,rfl,by nofun,?_⟩
   .show _=_
    rw[e1]
   .rw[<-he,Es,kM hw]
  .refine ej k ?_;rw[<-he,Es,nc (by simpa using hw),hlen,e1]
 .have:m=0:=by lia
  subst this;apply ej k ?_;rw[<-he];rfl
def gj (nm:Aa):List Aa->Option Nat
 |[]=>none
 |x::r=>if x=nm then some 0 else if fh.contains x=true then none else(gj nm r).map (·+1)
def dj (nm:Aa) (ns:List Aa):Int:=match gj nm ns.reverse with|some k=>(ns.length:Int)-1-k|none=> -1
theorem u6 {nm:Aa} {ns:List Aa}:dj nm (ns++[nm])=ns.length:=by
 unfold dj;rw[BL];show(match gj nm (nm::ns.reverse)with|some k=>((ns++[nm]).length:Int)-1-k|none=> -1)=_
 rw[gj,iP rfl,AB];simp
theorem tu {nm x:Aa} {ns:List Aa} (h:¬x=nm) (hw:fh.contains x=true):dj nm (ns++[x])= -1:=by
 unfold dj;rw[BL];show(match gj nm (x::ns.reverse)with|some k=>((ns++[x]).length:Int)-1-k|none=> -1)=_
 rw[gj,iN h,iP hw]
theorem tw {nm x:Aa} {ns:List Aa} (h:¬x=nm) (hw:¬fh.contains x=true):dj nm (ns++[x])=dj nm ns:=by
 unfold dj;rw[BL];show(match gj nm (x::ns.reverse)with|some k=>((ns++[x]).length:Int)-1-k|none=> -1)=_
 rw[gj,iN h,iN hw];cases gj nm ns.reverse with
 |none=>rfl
 |some k=>
  show((ns++[x]).length:Int)-1-((k+1:Nat):Int)=(ns.length:Int)-1-k
  rw[AB,DS];lia
theorem je (g:G w K mg) (H:Hp):bC K H g.c_WALLS.a (WS fh):=g.c_WALLS.sq H
theorem oS (g:G w K mg) (H:Hp):bC K H g.c_STYLED.a (WS zr):=g.c_STYLED.sq H
inductive sp_Tree_within_walls (g:G w K mg) (vs:List V) (H:Hp) (Q:VK) (_:XK):Prop
 |i (F:Addr->Prop) (z:aV) (nm:Aa) (_:vs=[.ref z.p,.str (W nm)]) (_:aA g F H z) (_:Q (.int (dj nm z.names)) H)
theorem ok_Tree_within_walls (g:G w K mg):aI P w K mg base bO 1 g.Tree_within_walls.f g.Tree_within_walls.fd ["self","word"] (sp_Tree_within_walls g):=by
 apply g.Tree_within_walls.fn.bW sc_Tree_within_walls λvs H Q E h=>?_;obtain⟨F,z,nm,rfl,T,k⟩:=h;apply⟨rfl,λ_ _ _ _ hr=>?_⟩;apply⟨_,%[leftact% Tree_within_walls 2 (ay op_sub (unop% L.n (ak (pv 0) rfl)) (ag)),bE PassesOwn.never (binrel% op_ne (ak (rightact% aN (ak (pv 0) rfl) (pv 2)) rfl) (pv 1)) %[aw (binrel_no_prop% op_in_seq (ak (rightact% aN (ak (pv 0) rfl) (pv 2)) rfl) (g.c_WALLS.pe rfl)) %[ao (dM cG (ag))|b] %[|b],eD (i:=2) sc_Tree_within_walls.nd rfl (CM rfl) (ag) uW|b],ao (pv 2)|b],?_⟩;cbv;ext;apply⟨_,_,_,T.ob,g.cl_Tree,g.na_Tree_opened,_,rfl,?_⟩;ext;apply⟨_,.inl (aL.of T.op),?_⟩;cbv;have WN:z.du.length=z.path.length+2:=by simp[aV.du]
 apply⟨λm σ H'=>∃q:Nat,SE σ [some (.ref z.p),some (.str (W nm)),some (.int ((q:Int)-1))]/\H'=H/\m=q/\0<q/\q<=z.du.length/\dj nm (z.names.take q)=dj nm z.names, ⟨z.du.length,z.du.length,?_,rfl,rfl,by lia,AE _,?_⟩,?_⟩
 .show _=_
  simp
 .rw[AK (by unfold aV.names;rw[AF];exact AE _)]
 rintro m σ H' ⟨q,rfl,rfl,rfl,M8,hq,he⟩;obtain⟨n,hn⟩:∃n,z.du[m-1]? =some n:=⟨z.du[m-1]'(by lia),AN (by omega)⟩
 have e1:(m:Int)-1=((m-1:Nat):Int):=by lia
 have qX:z.names[m-1]? =some n.tg.name:=by unfold aV.names;rw[AV,hn];rfl
 have Es:z.names.take m=z.names.take (m-1)++[n.tg.name]:=by
  have:=take_snoc qX;rw[show m-1+1=m by lia]at this;exact this
 have hlen:(z.names.take (m-1)).length=m-1:=by
  rw[AX];have:=b7 qX;lia
 have Ez:=(T.elem (AO hn)).1;have xC:qZ (D6 (λn=>V.ref n.a) z.du) ((m:Int)-1)=some (V.ref n.a):=by rw[e1];exact dG (by rw[AV,hn];rfl)
 ext;apply⟨_,_,_,T.ob,g.cl_Tree,g.na_Tree_opened,_,rfl,?_⟩;ext;apply⟨_,aL.of T.op,_,xC,?_⟩;ext;apply⟨_,_,_,Ez,g.cl_Element,g.na_Element_word,_,rfl,?_⟩;ext;apply bb (λhw=>⟨_,λ_ _ h=>h,?_⟩) (λhw=>?_)
 .have dF:¬n.tg.name=nm:=λz=>hw (by rw[z]);cbv;ext;apply⟨_,_,_,T.ob,g.cl_Tree,g.na_Tree_opened,_,rfl,?_⟩;ext;apply⟨_,aL.of T.op,_,xC,?_⟩;ext;apply⟨_,_,_,Ez,g.cl_Element,g.na_Element_word,_,rfl,?_⟩;ext;apply⟨g.c_WALLS.a,_,rfl,.inr (je g H'),rfl,gQ _,?_⟩;rw[iw];ext;apply bb (λhx=>?_) (λhx=>?_)
  .refine ej k ?_;rw[<-he,Es,tu dF hx]
  .have hm1:1<m:=by
    by_cases z1:m=1
    .subst z1
     have:n=z.eh:=by
      have:=hn;unfold aV.du at this;simpa using this.symm
     rw[this,T.kh.2.2.1]at hx;exact absurd nofun hx
    .lia
   apply⟨m-1,by lia,m-1,?_,rfl,rfl,by lia,by nofun,?_⟩
   .show _=_
    rw[e1]
   .rw[<-he,Es,tw dF hx]
 .have heq:n.tg.name=nm:=by
   have:W n.tg.name=W nm:=KL.mp hw;exact ko this
  apply ej k ?_;rw[<-he,Es,heq,u6,hlen,e1]
theorem aA.turn {z:aV} (T:aA g F H z) (gr:aS F F' H) (k:bc F H H') (hl:∀n∈z.all,∀o,H n.li=some o->H' n.li=some o)
  (hd:∀n∈z.all,n.kind=1->∀o,H n.tg.d=some o->H' n.tg.d=some o) (op rm:Addr) (path:List ND) (rem:List (TG×List cO)) (begun:Bool)
  (a6:H' z.p=some (.ins g.k_Tree z.dx (ba z.eh.a z.ed.a z.eb.a op begun rm))) (fw:H' op=some (.lst ((z.eh::z.eb::path).map λn=>V.ref n.a))) (Sg:F' op) (k8:H' rm=some (.lst (rem.map λx=>V.ref x.1.a))) (yT:¬F' rm)
  (lg:∀n∈z.all,op≠n.li) (ml:∀n∈path,n∈z.path) (K1:∀(i:Nat) (n:ND),path[i]? =some n->n.depth=i+3) (zB:∀x∈rem,fR g F H x.1 x.2) (Eu:begun=false->z.bs=[]/\path=[]/\rem=[]) (rK:∀b,F' b->∃o,H' b=some o):
  aA g F' H' {z with op:=op,rm:=rm,path:=path,rem:=rem,begun:=begun}:=by
 have rk:∀{t l},fR g F H t l->fR g F' H' t l:=λ{t l} r=>by
  obtain⟨ls,e1, ⟨h1,h2⟩,h3⟩:=r.tb.at_;exact⟨r.tb.keep gr k λo e=>k _ _ e r.fd,gr.not h1 r.fd,k _ _ r.tx r.ft,gr.not r.tx r.ft,r.sh⟩
 apply⟨a6,gr.1 _ T.fp,fw,Sg,k8,yT,T.nodes.keep gr k hl hd,?_,T.raw,λn hn=>T.rE n (ml n hn),T.txt,T.knd,?_,?_,?_,T.dd,?_,K1,T.low,?_,λx hx=>rk (zB x hx),T.wf,Eu,rK⟩
 .have:=T.nd;apply BD.mpr ⟨λhm=>?_, (BD.mp this).2⟩;obtain⟨n,hn,e⟩:=BC.mp hm;exact lg n (A9.mp hn).1 e.symm
 .exact⟨T.kh.1,T.kh.2.1,T.kh.2.2.1,gr.1 _ T.kh.2.2.2⟩
 .exact⟨T.kd.1,T.kd.2.1,T.kd.2.2.1,gr.1 _ T.kd.2.2.2⟩
 .exact⟨T.kb.1,T.kb.2.1,T.kb.2.2.1,gr.1 _ T.kb.2.2.2⟩
 .intro n hn e
  have hm:n∈z.all:=by
   rcases AU.mp hn with q|q
   .simp[aV.all,q]
   .simp[aV.all,q]
  obtain⟨kids,hk⟩:=T.nodes.mem hm;obtain⟨ls,_, ⟨h1,_⟩,_⟩:=(hk.el e).2.2.at_;exact gr.not h1 (T.od n hn e)
 .intro n hn;obtain⟨h1,h2,h3⟩:=T.po n (ml n hn);exact⟨h1,h2,rk h3⟩
theorem aA.zL {z:aV} (T:aA g F H z) (gr:aS F F' H) (k:bc F H H') (hl:∀n∈z.all,∀o,H n.li=some o->H' n.li=some o)
  (hd:∀n∈z.all,n.kind=1->∀o,H n.tg.d=some o->H' n.tg.d=some o) (op rm:Addr) (path:List ND) (rem:List (TG×List cO)) (begun:Bool)
  (a6:H' z.p=some (.ins g.k_Tree z.dx (ba z.eh.a z.ed.a z.eb.a op begun rm))) (fw:H' op=some (.lst ((z.eh::z.eb::path).map λn=>V.ref n.a))) (Sg:F' op) (k8:H' rm=some (.lst (rem.map λx=>V.ref x.1.a))) (yT:¬F' rm)
  (lg:∀n∈z.all,op≠n.li) (ml:∀n∈path, (n.kind=1/\jO z.bs n/\fR g F H n.tg n.at_)/\lj.contains n.tg.name=false) (K1:∀(i:Nat) (n:ND),path[i]? =some n->n.depth=i+3) (zB:∀x∈rem,fR g F H x.1 x.2) (Eu:begun=false->z.bs=[]/\path=[]/\rem=[]) (rK:∀b,F' b->∃o,H' b=some o):
  aA g F' H' {z with op:=op,rm:=rm,path:=path,rem:=rem,begun:=begun}:=by
 have rk:∀{t l},fR g F H t l->fR g F' H' t l:=λ{t l} r=>by
  obtain⟨ls,e1, ⟨h1,h2⟩,h3⟩:=r.tb.at_;exact⟨r.tb.keep gr k λo e=>k _ _ e r.fd,gr.not h1 r.fd,k _ _ r.tx r.ft,gr.not r.tx r.ft,r.sh⟩
 apply⟨a6,gr.1 _ T.fp,fw,Sg,k8,yT,T.nodes.keep gr k hl hd,?_,T.raw,λn hn=>(ml n hn).2,T.txt,T.knd,?_,?_,?_,T.dd,?_,K1,T.low,?_,λx hx=>rk (zB x hx),T.wf,Eu,rK⟩
 .have:=T.nd;apply BD.mpr ⟨λhm=>?_, (BD.mp this).2⟩;obtain⟨n,hn,e⟩:=BC.mp hm;exact lg n (A9.mp hn).1 e.symm
 .exact⟨T.kh.1,T.kh.2.1,T.kh.2.2.1,gr.1 _ T.kh.2.2.2⟩
 .exact⟨T.kd.1,T.kd.2.1,T.kd.2.2.1,gr.1 _ T.kd.2.2.2⟩
 .exact⟨T.kb.1,T.kb.2.1,T.kb.2.2.1,gr.1 _ T.kb.2.2.2⟩
 .intro n hn e
  have hm:n∈z.all:=by
   rcases AU.mp hn with q|q
   .simp[aV.all,q]
   .simp[aV.all,q]
  obtain⟨kids,hk⟩:=T.nodes.mem hm;obtain⟨ls,_, ⟨h1,_⟩,_⟩:=(hk.el e).2.2.at_;exact gr.not h1 (T.od n hn e)
 .intro n hn;obtain⟨⟨h1,h2,h3⟩,_⟩:=ml n hn;exact⟨h1,h2,rk h3⟩
def cU (rem:List (TG×List cO)) (cl:List ND):List (TG×List cO):=
 let l:=rem++((cl.drop 1).filter λn=>zr.contains n.tg.name).map λn=>(n.tg,n.at_)
 if(cl.any λn=>fh.contains n.tg.name)=true then []else l.drop (l.length-8)
theorem Dc (xs:List V) (k:Nat):cb xs (some (-(k:Int))) none=xs.drop (xs.length-k)\/k=0:=by
 by_cases hk:k=0
 .exact .inr hk
 .left
  unfold cb;show(xs.drop (if(-(k:Int))<0 then(-(k:Int)+(xs.length:Int)).toNat else _)).take (xs.length-(if(-(k:Int))<0 then(-(k:Int)+(xs.length:Int)).toNat else _))=_
  rw[iP (by lia)];have e:(-(k:Int)+(xs.length:Int)).toNat=xs.length-k:=by lia
  rw[e,AK (by simp)]
def MY (L:List ND) (q:Aa->Bool) (v:V):Bool:=match L.find? λn=>decide (V.ref n.a=v)with|some n=>q n.tg.name|none=>false
def Q8 (L:List ND) (v:V):V:=match L.find? λn=>decide (V.ref n.a=v)with|some n=>V.ref n.tg.a|none=>v
theorem pZ {L:List ND} (hL:∀n∈L,∀m∈L,n.a=m.a->n.tg.name=m.tg.name/\n.tg.a=m.tg.a) {n:ND} (hn:n∈L) (q:Aa->Bool):MY L q (V.ref n.a)=q n.tg.name/\Q8 L (V.ref n.a)=V.ref n.tg.a:=by
 unfold MY Q8;cases h:L.find? λm=>decide (V.ref m.a=V.ref n.a)with
 |none=>
  have:=FC.mp h n hn;simp at this
 |some m=>
  have hm:=List.mem_of_find?_eq_some h;have he:=ID h;have he:m.a=n.a:=by simpa using he
  obtain⟨h1,h2⟩:=hL m hm n hn he;apply⟨?_,?_⟩
  .show q m.tg.name=_
   rw[h1]
  .show V.ref m.tg.a=_
   rw[h2]
theorem tf {L:List ND} (hL:∀n∈L,∀m∈L,n.a=m.a->n.tg.name=m.tg.name/\n.tg.a=m.tg.a) (q:Aa->Bool):∀M:List ND, (∀n∈M,n∈L)->((M.map λn=>V.ref n.a).filter (MY L q)).map (Q8 L)=(M.filter λn=>q n.tg.name).map λn=>V.ref n.tg.a
 |[],_=>rfl
 |n::M,h=>by
  obtain⟨h1,h2⟩:=pZ hL (h n (by simp)) q;rw[AI,DX,DX,h1];have ih:=tf hL q M λm hm=>h m (by simp[hm])
  split
  .rw[AI,AI,ih,h2]
  .exact ih
inductive sp_Tree_close (g:G w K mg) (vs:List V) (H:Hp) (Q:VK) (_:XK):Prop
 |i (F:Addr->Prop) (z:aV) (pl:Int) (_:vs=[.ref z.p,.int pl]) (_:aA g F H z) (_:z.path.length<=1000) (_:z.rem.length<=1000) (_:((pl= -1/\Q .aY H)\/∃k0:Nat,pl=k0/\2<=k0/\k0<=z.path.length+2/\(z.begun=true)/\∀(F':Addr->Prop) (H':Hp) (z':aV),aA g F' H' z'->aS F F' H->bc F H H'->z'={z with op:=z'.op,rm:=z'.rm,path:=z.path.take (k0-2),rem:=cU z.rem (z.path.drop (k0-2))}->Q .aY H'))
theorem ok_Tree_close (g:G w K mg):aI P w K mg base bO 1 g.Tree_close.f g.Tree_close.fd ["self","place"] (sp_Tree_close g):=by
 apply g.Tree_close.fn.bW sc_Tree_close λvs H Q E h=>?_;obtain⟨F,z,pl,rfl,T,hl,VO,h⟩:=h;apply⟨rfl,λ_ _ _ _ hr=>?_⟩;apply⟨_,%[aw (binrel% op_lt (pv 1) (ag)) %[qr|b] %[|b],leftact% Tree_close 2 (aO aW (ak (pv 0) rfl) (aF (pv 1)) cE),aT (pv 0) (aO aW (ak (pv 0) rfl) cE (aF (pv 1))) rfl,Bx (i:=3) (own:=[("element",4)]) rfl sc_Tree_close.nd rfl rfl rfl (bV (aO aW (pv 2) (aF (ag)) cE)) (fJ (N:=["self","place","closed","styled","element"]) (sc:=ai s_Tree_close) (by decide+kernel)) (λ_ _ _ _ _=>bI (i:=4) sc_Tree_close.nd rfl (CM rfl)) (λ_ _ _ _ _=>wL (cD (op_inK K) (lK K (pv 4) rfl) (g.c_STYLED.pe rfl) (by with_unfolding_all rfl))) (λ_ _ _ _ _=>lK K (pv 4) rfl),aT (pv 0) (aO aW (ay op_cat (ak (pv 0) rfl) (pv 3)) (aF (dM cG (g.c_MOST_REMEMBERED.pe rfl))) cE) rfl,aw (c7 (fE (ML rfl) (by rfl) g.n_any MO %[rO (own:=[("element",4)]) rfl sc_Tree_close.nd (bV (pv 2)) (fJ (N:=["self","place","closed","styled","element"]) (sc:=ai s_Tree_close) (by decide+kernel)) (λ_ _ _ _ _=>bI (i:=4) sc_Tree_close.nd rfl (CM rfl)) (λ_ _ _ _ _=>lJ) (λ_ _ _ _ _=>lL (op_inK K) (lK K (pv 4) rfl) (g.c_WALLS.pe rfl) (by with_unfolding_all rfl))|a])) %[aT (pv 0) (aM %[|a]) rfl|b] %[|b]|b],?_⟩;cbv;ext;rcases h with⟨rfl,k⟩|⟨k0,rfl,h2,pK,bN,k⟩
 .exact rj nofun k
 apply nN (by lia) ?_;cbv;ext;apply⟨_,_,_,T.ob,g.cl_Tree,g.na_Tree_opened,_,rfl,?_⟩;ext;apply⟨_,aL.of T.op,λc1 g9=>?_⟩;obtain⟨j,rfl⟩:∃j,k0=j+2:=⟨k0-2,by lia⟩
 have ZD:cb (D6 (λn=>V.ref n.a) z.du) (some ((j+2:Nat):Int)) none=(z.path.drop j).map λn=>V.ref n.a:=by
  rw[lP];show DR (j+2) (V.ref z.eh.a::V.ref z.eb.a::z.path.map _)=_
  rw[BO,BO,CT]
 have SK:cb (D6 (λn=>V.ref n.a) z.du) none (some ((j+2:Nat):Int))=(z.eh::z.eb::z.path.take j).map λn=>V.ref n.a:=by
  rw[qC];show ER (j+2) (V.ref z.eh.a::V.ref z.eb.a::z.path.map _)=_
  rw[BK,BK,<-CJ];rfl
 rw[ZD];have s1:=aj.upd (o:= .lst ((z.path.drop j).map λn=>V.ref n.a)) g9;generalize Fe:upd H c1 (.lst ((z.path.drop j).map λn=>V.ref n.a))=H1 at s1 ⊢;have Wj:H1 c1=some (.lst ((z.path.drop j).map λn=>V.ref n.a)):=by rw[<-Fe,aa]
 cbv;ext;apply⟨_,_,_,s1 _ _ T.ob,g.cl_Tree,g.na_Tree_opened,_,rfl,?_⟩;ext;apply⟨_,aL.of (s1 _ _ T.op),λjB LC=>?_⟩;rw[SK];have Kr:z.p≠jB:=af (s1 _ _ T.ob) LC;apply⟨_,_,_, (by rw[ae Kr];exact s1 _ _ T.ob),g.cl_Tree,g.na_Tree_opened,cq rfl,?_⟩;have SO:bU "opened" (V.ref jB) (ba z.eh.a z.ed.a z.eb.a z.op z.begun z.rm)=ba z.eh.a z.ed.a z.eb.a jB z.begun z.rm:=rfl;rw[SO];generalize zg:upd (upd H1 jB (.lst ((z.eh::z.eb::z.path.take j).map λn=>V.ref n.a))) z.p (.ins g.k_Tree z.dx (ba z.eh.a z.ed.a z.eb.a jB z.begun z.rm))=H2;have Eg:H2 z.p=some (.ins g.k_Tree z.dx (ba z.eh.a z.ed.a z.eb.a jB z.begun z.rm)):=by rw[<-zg,aa]
 have Nh:H2 jB=some (.lst ((z.eh::z.eb::z.path.take j).map λn=>V.ref n.a)):=by rw[<-zg,ae Kr.symm,aa]
 have t9:∀b o,H1 b=some o->b≠z.p->H2 b=some o:=λb o e n=>by rw[<-zg,ae n,ae (af e LC)];exact e
 have Sx:H2 c1=some (.lst ((z.path.drop j).map λn=>V.ref n.a)):=t9 _ _ Wj (aE Wj (s1 _ _ T.ob) (by intro q;cases q));have Ez:∀n∈z.path,H n.a=some (.ins g.k_Element n.dx (hG n.depth n.tg.a (W n.tg.name) n.li)):=λn hn=>(T.elem (by unfold aV.du;simp[hn])).1;have Vl:∀n∈z.path,n.a≠z.p:=λn hn=>aE (Ez n hn) T.ob (by intro q;injection q with _ _ q;cases q);have Fg:∀n∈z.path,∀H',aj H2 H'->H' n.a=some (.ins g.k_Element n.dx (hG n.depth n.tg.a (W n.tg.name) n.li)):=λn hn H' s'=>s' _ _ (t9 _ _ (s1 _ _ (Ez n hn)) (Vl n hn));cbv
 have QV:∀n∈z.path,∀m∈z.path,n.a=m.a->n.tg.name=m.tg.name/\n.tg.a=m.tg.a:=λn hn m hm e=>by
  have a1:=Ez n hn;have a2:=Ez m hm;rw[e,a2]at a1;have a3:=AH a1;injection a3 with _ _ a4;unfold hG at a4;simp only[IG,JR,V.ref.injEq,V.str.injEq,true_and,and_true]at a4;exact⟨(ko a4.2.2.1).symm,a4.2.1.symm⟩
 have Ly:∀n∈(z.path.drop j).drop 1,n∈z.path:=λn hn=>BH (BH hn)
 have N6:cb ((z.path.drop j).map λn=>V.ref n.a) (some (1:Int)) none=((z.path.drop j).drop 1).map λn=>V.ref n.a:=by
  have:=lP ((z.path.drop j).map λn=>V.ref n.a) 1;exact this.trans (CT ..).symm
 apply Mt (H0:=H2) (xs:=((z.path.drop j).drop 1).map λn=>V.ref n.a) (λR r=>⟨_,aL.of Sx,λp hp=>r p _ hp (aj.upd hp) (by rw[aa,N6])⟩) (MY z.path λn=>zr.contains n) (Q8 z.path) (by rw[AF,AM,AM];exact cF (by omega)) (λx=>rfl) (λx hx H' hs=>?_) (λst H3 M7 s3 h3=>?_)
 .obtain⟨n,hn,rfl⟩:=BC.mp hx;have Na:=Ly n hn;obtain⟨q1,q2⟩:=pZ QV Na λn=>zr.contains n;rw[q1,q2];apply⟨λQ2 r=>?_,λ_ Q2 r=>?_⟩
  .refine⟨_,n.dx,_,Fg n Na H' hs,g.cl_Element,g.na_Element_word,_,rfl,g.c_STYLED.a,_,rfl,.inr (oS g H'),rfl,gQ _,?_⟩;rw[iw];exact r
  .exact⟨_,n.dx,_,Fg n Na H' hs,g.cl_Element,g.na_Element_tag,_,rfl,r⟩
 rw[tf QV _ _ Ly]at h3;ext;generalize zy:((z.path.drop j).drop 1).filter (λn=>zr.contains n.tg.name)=ij at h3
 have Z2:ij.length<=1000:=by
  rw[<-zy];have:=DT (λn:ND=>zr.contains n.tg.name) ((z.path.drop j).drop 1);rw[AM,AM]at this;omega
 cbv;ext;have Xq:z.rm≠z.p:=aE T.rm T.ob (by intro q;cases q);have Zo:H2 z.rm=some (.lst (z.rem.map λx=>V.ref x.1.a)):=t9 _ _ (s1 _ _ T.rm) Xq;apply⟨_,_,_,s3 _ _ Eg,g.cl_Tree,g.na_Tree_remembered,_,rfl,?_⟩;apply⟨z.rm,st,_,_,rfl,rfl,s3 _ _ Zo,h3,by rw[AF,AF];exact cF (by lia),λcat Ut=>?_⟩;ext;apply⟨_,aL.of aa,λka nX=>?_⟩;generalize R9:z.rem++ij.map (λn=>(n.tg,n.at_))=l8
 have e8:z.rem.map (λx=>V.ref x.1.a)++ij.map (λn=>V.ref n.tg.a)=l8.map λx=>V.ref x.1.a:=by
  rw[<-R9,AL,BR];rfl
 have ZF:cb (l8.map λx=>V.ref x.1.a) (some (-8:Int)) none=(l8.drop (l8.length-8)).map λx=>V.ref x.1.a:=by
  rcases Dc (l8.map λx=>V.ref x.1.a) 8 with q|q
  .rw[AF]at q;rw[CT];exact q
  .cases q
 rw[e8]at nX ⊢;rw[ZF];have s4:=aj.upd (o:= .lst (l8.map λx=>V.ref x.1.a)) Ut;have s5:=aj.upd (o:= .lst ((l8.drop (l8.length-8)).map λx=>V.ref x.1.a)) nX;have sm:=(s3.trans s4).trans s5;generalize V5:upd (upd H3 cat (.lst (l8.map λx=>V.ref x.1.a))) ka (.lst ((l8.drop (l8.length-8)).map λx=>V.ref x.1.a))=H5 at sm ⊢;have Zk:H5 ka=some (.lst ((l8.drop (l8.length-8)).map λx=>V.ref x.1.a)):=by rw[<-V5,aa]
 apply⟨_,_,_,sm _ _ Eg,g.cl_Tree,g.na_Tree_remembered,cq rfl,?_⟩;have UC:bU "remembered" (V.ref ka) (ba z.eh.a z.ed.a z.eb.a jB z.begun z.rm)=ba z.eh.a z.ed.a z.eb.a jB z.begun ka:=rfl;rw[UC];generalize V4:upd H5 z.p (.ins g.k_Tree z.dx (ba z.eh.a z.ed.a z.eb.a jB z.begun ka))=H6;have Sr:H6 z.p=some (.ins g.k_Tree z.dx (ba z.eh.a z.ed.a z.eb.a jB z.begun ka)):=by rw[<-V4,aa]
 have QC:∀b o,H5 b=some o->b≠z.p->H6 b=some o:=λb o e n=>by rw[<-V4,ae n];exact e
 have ON:∀b o,H b=some o->b≠z.p->H6 b=some o:=λb o e n=>QC b o (sm _ _ (t9 b o (s1 _ _ e) n)) n;have Ss:H6 jB=some (.lst ((z.eh::z.eb::z.path.take j).map λn=>V.ref n.a)):=QC _ _ (sm _ _ Nh) Kr.symm;have OI:ka≠z.p:=(af ((s3.trans s4) _ _ Eg) nX).symm;have Zg:H6 ka=some (.lst ((l8.drop (l8.length-8)).map λx=>V.ref x.1.a)):=QC _ _ Zk OI;have Zi:H6 c1=some (.lst ((z.path.drop j).map λn=>V.ref n.a)):=QC _ _ (sm _ _ Sx) (aE Sx Eg (by intro q;cases q));have Zh:∀n∈z.path,∀H',aj H6 H'->H' n.a=some (.ins g.k_Element n.dx (hG n.depth n.tg.a (W n.tg.name) n.li)):=λn hn H' s'=>s' _ _ (ON _ _ (Ez n hn) (Vl n hn));have Kg:∀n∈z.path.drop j,n∈z.path:=λn hn=>BH hn;have Q9:H jB=none:=s1.free LC
 have xD:H ka=none:=by
  cases q:H ka with
  |none=>rfl
  |some o=>
   have:=(s3.trans s4) _ _ (t9 _ _ (s1 _ _ q) OI);rw[this]at nX;cases nX
 let F':Addr->Prop:=λb=>F b\/b=jB
 have gr:aS F F' H:=⟨λb h=> .inl h,λb h=>h.elim .inl λe=> .inr (e▸Q9)⟩
 have fin:∀(ow:Addr) (lZ:List (TG×List cO)) (H7:Hp), (∀b o,H b=some o->b≠z.p->H7 b=some o)->H7 z.p=some (.ins g.k_Tree z.dx (ba z.eh.a z.ed.a z.eb.a jB z.begun ow))->H7 jB=some (.lst ((z.eh::z.eb::z.path.take j).map λn=>V.ref n.a))->
   H7 ow=some (.lst (lZ.map λx=>V.ref x.1.a))->H ow=none->ow≠jB->lZ=cU z.rem (z.path.drop j)->(∀x∈lZ,fR g F H x.1 x.2)->Q .aY H7:=by
  intro ow lZ H7 kk a6 fw k8 yT dF zB QH
  have li:∀n∈z.all,∀o,H n.li=some o->H7 n.li=some o:=λn hn o e=>by
   obtain⟨kids,hk⟩:=T.nodes.mem hn;apply kk _ _ e (aE e T.ob ?_)
   by_cases gf:n.kind=1
   .have:=(hk.el gf).2.1;rw[e]at this;rw[AH this];intro q;cases q
   .have:=(hk.lf gf).2.1;rw[e]at this;rw[AH this];intro q;cases q
  have dd:∀n∈z.all,n.kind=1->∀o,H n.tg.d=some o->H7 n.tg.d=some o:=λn hn gf o e=>by
   obtain⟨kids,hk⟩:=T.nodes.mem hn;obtain⟨ls,_, ⟨h1,_⟩,_⟩:=(hk.el gf).2.2.at_;apply kk _ _ e (aE e T.ob ?_);rw[e]at h1;rw[AH h1];intro q;cases q
  have kp:bc F H H7:=λb o e n=>kk b o e λq=>n (q▸T.fp)
  have Tw:∀n∈z.all,∃o,H n.li=some o:=λn hn=>by
   obtain⟨kids,hk⟩:=T.nodes.mem hn
   by_cases gf:n.kind=1
   .exact⟨_, (hk.el gf).2.1⟩
   .exact⟨_, (hk.lf gf).2.1⟩
  apply k F' H7 _ (T.turn gr kp li dd jB ow (z.path.take j) lZ z.begun a6 fw (.inr rfl) k8 (λq=>q.elim (λq=>?_) dF) (λn hn=>?_) (λn hn=>CB hn) (λi n hi=>?_) QH (λq=>by rw[bN]at q;cases q) (λb hb=>?_)) gr kp ?_
  .exact T.out yT q
  .obtain⟨o,ho⟩:=Tw n hn;exact(af ho Q9).symm
  .have:z.path[i]? =some n:=by
    by_cases YB:i<j
    .rw[D5 YB]at hi;exact hi
    .rw[List.getElem?_take_eq_none (by nofun)]at hi;cases hi
   exact T.dp i n this
  .rcases hb with hb|hb
   .obtain⟨o,ho⟩:=T.uu b hb
    by_cases e:b=z.p
    .rw[e];exact⟨_,a6⟩
    .exact⟨o,kk b o ho e⟩
   .rw[hb];exact⟨_,fw⟩
  .rw[zB];rfl
 have Xr:ka≠jB:=(af ((s3.trans s4) _ _ Nh) nX).symm;ext;apply zT (a:=c1) (xs:=(z.path.drop j).map λn=>V.ref n.a) (λR r=>r) (λ_=>true) (λv=>V.bl (MY z.path (λn=>fh.contains n) v)) (aL.of Zi) (by rw[AF,AM];exact cF (by lia)) (λx=>rfl) (λx hx H' hs=>⟨λQ2 q=>q,λ_ Q2 r=>?_⟩) (λD hD=>?_)
 .obtain⟨n,hn,rfl⟩:=BC.mp hx;have Na:=Kg n hn;obtain⟨q1,_⟩:=pZ QV Na λn=>fh.contains n;rw[q1]at r;apply⟨_,n.dx,_,Zh n Na H' hs,g.cl_Element,g.na_Element_word,_,rfl,g.c_WALLS.a,_,rfl,.inr (je g H'),rfl,gQ _,?_⟩;rw[iw];exact r
 rw[iF]
 have eb:((z.path.drop j).map λn=>V.ref n.a).map (λv=>V.bl (MY z.path (λn=>fh.contains n) v))=((z.path.drop j).map λn=>fh.contains n.tg.name).map V.bl:=by
  rw[BR,BR];apply E4 λn hn=>?_;show V.bl _=V.bl _
  rw[(pZ QV (Kg n hn) λn=>fh.contains n).1]
 rw[eb];have s7:=aj.upd (o:= .lst (((z.path.drop j).map λn=>fh.contains n.tg.name).map V.bl)) hD;generalize Y5:upd H6 D (.lst (((z.path.drop j).map λn=>fh.contains n.tg.name).map V.bl))=H7 at s7;have Zf:H7 D=some (.lst (((z.path.drop j).map λn=>fh.contains n.tg.name).map V.bl)):=by rw[<-Y5,aa]
 apply⟨D,_,rfl,aL.of Zf,?_⟩;ext;have UE:((z.path.drop j).map λn=>fh.contains n.tg.name).any id=(z.path.drop j).any λn=>fh.contains n.tg.name:=by rw[GC];rfl
 rw[UE];have k7:∀b o,H b=some o->b≠z.p->H7 b=some o:=λb o e n=>s7 _ _ (ON b o e n);apply bb (λha=>?_) (λha=>?_)
 .ext;apply⟨A0 _,λow zA=>?_⟩;have RM:z.p≠ow:=af (s7 _ _ Sr) zA;apply⟨_,_,_, (by rw[ae RM];exact s7 _ _ Sr),g.cl_Tree,g.na_Tree_remembered,cq rfl,?_⟩;have Vr:jB≠ow:=af (s7 _ _ Ss) zA;apply fin ow [] _ (λb o e n=>?_) (by rw[aa];rfl) ?_ ?_ ?_ Vr.symm ?_ (λx hx=>by cases hx)
  .rw[ae n,ae (af (k7 b o e n) zA)];exact k7 b o e n
  .rw[ae Kr.symm,ae Vr];exact s7 _ _ Ss
  .rw[ae RM.symm,aa];rfl
  .cases q:H ow with
   |none=>rfl
   |some o=>rw[k7 _ _ q RM.symm]at zA;cases zA
  .unfold cU;simp only[ha,if_true]
 .ext
  have er:l8.drop (l8.length-8)=cU z.rem (z.path.drop j):=by
   unfold cU;simp only[ha,BS,if_false,zy,R9]
  apply fin ka (l8.drop (l8.length-8)) H7 k7 (s7 _ _ Sr) (s7 _ _ Ss) (s7 _ _ Zg) xD Xr er (λx hx=>?_);have hx:=BH hx;rw[<-R9]at hx;rcases AU.mp hx with hx|hx
  .exact T.rt x hx
  .obtain⟨n,hn,rfl⟩:=BC.mp hx;rw[<-zy]at hn;exact(T.po n (Ly n (A9.mp hn).1)).2.2
theorem gH {d:Nat}:∀{l:List ND}, (∀n∈l,d+1<n.depth)->aq d l=[]
 |[],_=>rfl
 |n::l,h=>by
  have hn:=h n (by simp);rw[aq,iN (by lia),iN (by lia),gH λm hm=>h m (by simp[hm])]
theorem fV {d:Nat} {n:ND} {l:List ND} (h:n.depth<=d):aq d (n::l)=[]:=by rw[aq,iP h]
theorem px (d:Nat) (l:List ND):(∀n∈l,d<n.depth)\/∃n∈l,n.depth<=d:=by
 by_cases h:∃n∈l,n.depth<=d
 .exact .inr h
 .refine .inl λn hn=>?_
  by_cases q:d<n.depth
  .exact q
  .exact absurd ⟨n,hn,by nofun⟩ h
theorem az.ins {e x:ND} {xs B:List ND} (gr:aS F F' H) (k:bc F H H') (iQ:e.kind=1) (hB:B=[]\/∃b B',B=b::B'/\b.depth<=e.depth)
  (hx:x.depth=e.depth+1) (yN:∀m∈xs,x.depth<m.depth) (hX:az g F' H' (x::(xs++B))):
  ∀{pre post:List ND}, (∀m∈post,e.depth<m.depth)->az g F H (pre++e::(post++B))->(∀n∈pre++post,∀o,H n.li=some o->H' n.li=some o)->(∀n∈pre++e::post,n.kind=1->∀o,H n.tg.d=some o->H' n.tg.d=some o)->
   H' e.li=some (.lst ((aq e.depth (post++B)++[x.a]).map V.ref))->az g F' H' (pre++e::(post++x::(xs++B))):=by
 have kB:∀d,e.depth<=d->aq d B=[]:=λd hd=>by
  rcases hB with z|⟨b,B',z,hb⟩
  .rw[z];rfl
  .rw[z];exact fV (by nofun)
 have Hj:∀post:List ND, (∀m∈post,e.depth<m.depth)->az g F H (post++B)->(∀n∈post,∀o,H n.li=some o->H' n.li=some o)->(∀n∈post,n.kind=1->∀o,H n.tg.d=some o->H' n.tg.d=some o)->az g F' H' (post++x::(xs++B)):=by
  intro post
  induction post with
  |nil=>intro _ _ _ _;exact hX
  |cons n post ih=>
   intro ho h hl hd;apply⟨?_,ih (λm hm=>ho m (by simp[hm])) h.2 (λm hm=>hl m (by simp[hm])) λm hm=>hd m (by simp[hm])⟩;have hn:=ho n (by simp)
   have e1:aq n.depth (post++x::(xs++B))=aq n.depth (post++B):=by
    rcases px n.depth post with q|q
    .rw[bK _ _ _ q,bK _ _ _ q,fV (by lia),kB _ (by nofun)]
    .rw[dU _ _ _ q,dU _ _ _ q]
   show aQ g F' H' n (aq n.depth (post++x::(xs++B)))
   rw[e1];exact h.1.keep gr k (hl n (by simp)) (hd n (by simp))
 intro pre
 induction pre with
 |nil=>
  intro post ho h hl hd he;apply⟨?_,Hj post ho h.2 (λn hn=>hl n (by simp[hn])) λn hn=>hd n (by simp[hn])⟩
  have e1:aq e.depth (post++x::(xs++B))=aq e.depth (post++B)++[x.a]:=by
   rw[bK _ _ _ ho,bK _ _ _ ho,kB _ (AE _),A6];congr 1;rw[aq,iN (by lia),iP hx,bK _ _ _ (λm hm=>by have:=yN m hm;lia),kB _ (AE _),A6,gH (λm hm=>by have:=yN m hm;lia)]
  rw[e1];have h1:=h.1;apply⟨λq=>gr.1 _ (h1.fl q),λq=>absurd iQ (h1.fu q).2,gr.not (h1.el iQ).1 h1.fa,λ_=>⟨k _ _ (h1.el iQ).1 h1.fa,he, (h1.el iQ).2.2.keep gr k (hd e (by simp) iQ)⟩,λq=>absurd iQ q⟩
 |cons n pre ih=>
  intro post ho h hl hd he;apply⟨?_,ih ho h.2 (λm hm=>hl m (by simp at hm ⊢;rcases hm with q|q;exact .inr (.inl q);exact .inr (.inr q))) (λm hm=>hd m (by simp at hm ⊢;rcases hm with q|q|q;exact .inr (.inl q);exact .inr (.inr (.inl q));exact .inr (.inr (.inr q)))) he⟩
  have e1:aq n.depth (pre++e::(post++x::(xs++B)))=aq n.depth (pre++e::(post++B)):=by
   have a1:pre++e::(post++x::(xs++B))=(pre++e::post)++(x::xs++B):=by simp
   have a2:pre++e::(post++B)=(pre++e::post)++B:=by simp
   rw[a1,a2];rcases px n.depth (pre++e::post)with q|q
   .have qe:=q e (by simp)
    have qx:∀m∈x::xs,n.depth+1<m.depth:=λm hm=>by
     rcases AG.mp hm with r|r
     .rw[r];lia
     .have:=yN m r;lia
    have e3:aq n.depth (x::xs++B)=aq n.depth (x::xs)++aq n.depth B:=bK _ _ _ (λm hm=>by have:=qx m hm;nofun);rw[bK _ _ _ q,bK _ _ _ q,e3,gH qx,BA]
   .rw[dU _ _ _ q,dU _ _ _ q]
  show aQ g F' H' n (aq n.depth (pre++e::(post++x::(xs++B))))
  rw[e1];exact h.1.keep gr k (hl n (by simp)) (hd n (by simp))
theorem LZ:∀{pre post:List ND} {e x:ND} {xs B:List ND},wf (pre++e::(post++B))->e.kind=1->(∀m∈post,e.depth<m.depth)->(B=[]\/∃b B',B=b::B'/\b.depth<=e.depth)->x.depth=e.depth+1->wf (x::xs)->(∀m∈xs,x.depth<m.depth)->
  wf (pre++e::(post++x::(xs++B))):=by
 have app:∀(l:List ND) (B:List ND),wf l->wf B->(B=[]\/∃b B',B=b::B'/\(∀n∈l,b.depth<=n.depth))->wf (l++B):=by
  intro l
  induction l with
  |nil=>intro B _ hB _;exact hB
  |cons n l ih=>
   intro B hl hB hb;cases l with
   |nil=>
    rcases hb with z|⟨b,B',z,hb⟩
    .rw[z];exact trivial
    .rw[z]at hB ⊢;have:=hb n (by simp);exact⟨by nofun,λ_=>this,hB⟩
   |cons m l=>
    obtain⟨a1,a2,a3⟩:=hl;apply⟨a1,a2,ih B a3 hB ?_⟩;rcases hb with z|⟨b,B',z,hb⟩
    .exact .inl z
    .exact .inr ⟨b,B',z,λn hn=>hb n (by simp at hn ⊢;exact .inr hn)⟩
 have tail:∀(l:List ND) (B:List ND),wf (l++B)->wf B:=by
  intro l
  induction l with
  |nil=>intro B h;exact h
  |cons n l ih=>
   intro B h;cases l with
   |nil=>cases B with
    |nil=>trivial
    |cons b B=>exact h.2.2
   |cons m l=>exact ih B h.2.2
 have front:∀(l:List ND) (B:List ND),wf (l++B)->wf l:=by
  intro l
  induction l with
  |nil=>intro B _;trivial
  |cons n l ih=>
   intro B h;cases l with
   |nil=>trivial
   |cons m l=>exact⟨h.1,h.2.1,ih B h.2.2⟩
 intro pre
 induction pre with
 |nil=>
  intro post e x xs B h iQ ho hB hx Kz yN;have Za:wf B:=tail (e::post) B h
  have YY:wf (x::xs++B):=app (x::xs) B Kz Za (by
   rcases hB with z|⟨b,B',z,hb⟩
   .exact .inl z
   .exact .inr ⟨b,B',z,λn hn=>by
     rcases AG.mp hn with r|r
     .rw[r];lia
     .have:=yN n r;lia⟩)
  have Y7:wf (e::post):=front (e::post) B h
  have go:∀(l:List ND),wf (e::l)->(∀m∈l,e.depth<m.depth)->wf (e::l++(x::xs++B)):=by
   have inner:∀(l:List ND) (n:ND),wf (n::l)->(n=e\/e.depth<n.depth)->(∀m∈l,e.depth<m.depth)->wf (n::l++(x::xs++B)):=by
    intro l
    induction l with
    |nil=>
     intro n _ hn _;apply⟨?_,λq=>?_,YY⟩
     .rcases hn with r|r
      .rw[r];nofun
      .lia
     .rcases hn with r|r
      .rw[r]at q;exact absurd iQ q
      .omega
    |cons m l ih=>
     intro n h hn hl;exact⟨h.1,h.2.1,ih m h.2.2 (.inr (hl m (by simp))) λk hk=>hl k (by simp[hk])⟩
   intro l h1 h2;exact inner l e h1 (.inl rfl) h2
  have:=go post Y7 ho;simpa using this
 |cons n pre ih=>
  intro post e x xs B h iQ ho hB hx Kz yN;cases pre with
  |nil=>exact⟨h.1,h.2.1,ih h.2.2 iQ ho hB hx Kz yN⟩
  |cons m pre=>exact⟨h.1,h.2.1,ih h.2.2 iQ ho hB hx Kz yN⟩
theorem fR.keep {t:TG} {l:List cO} (r:fR g F H t l) (gr:aS F F' H) (k:bc F H H'):fR g F' H' t l:=by
 obtain⟨ls,e1, ⟨h1,h2⟩,h3⟩:=r.tb.at_;exact⟨r.tb.keep gr k λo e=>k _ _ e r.fd,gr.not h1 r.fd,k _ _ r.tx r.ft,gr.not r.tx r.ft,r.sh⟩
theorem aA.li {z:aV} (T:aA g F H z) {n:ND} (hn:n∈z.all):∃vs,H n.li=some (.lst vs):=by
 obtain⟨kids,hk⟩:=T.nodes.mem hn
 by_cases h1:n.kind=1
 .exact⟨_, (hk.el h1).2.1⟩
 .exact⟨_, (hk.lf h1).2.1⟩
theorem aA.di {z:aV} (T:aA g F H z) {n:ND} (hn:n∈z.all) (h1:n.kind=1):∃aC,H n.tg.d=some (.dT aC):=by
 obtain⟨kids,hk⟩:=T.nodes.mem hn;obtain⟨ls,_, ⟨h1,_⟩,_⟩:=(hk.el h1).2.2.at_;exact⟨_,h1⟩
theorem tQ {α:Type} {pre post:List α} {a:α} (h:(pre++a::post).Nodup):∀b,b∈pre++post->b≠a:=by
 intro b hb e;subst e;have h':=FT.mp h;rcases AU.mp hb with q|q
 .exact h'.2.2 b q b (by simp) rfl
 .exact(BD.mp h'.2.1).1 q
theorem aA.add {z:aV} (T:aA g F H z) (gr:aS F F' H) {e x:ND} {xs pre post B:List ND} (yP zl:List ND) (cj:z.all=pre++e::(post++B))
  (M4:aV.all {z with hs:=yP,bs:=zl}=pre++e::(post++x::(xs++B))) (rH:∀n,n∈yP++zl->n∈z.hs++z.bs\/n∈x::xs) (ho:∀m∈post,e.depth<m.depth) (hB:B=[]\/∃b B',B=b::B'/\b.depth<=e.depth) (iQ:e.kind=1) (YG:2<=e.depth)
  (hx:x.depth=e.depth+1) (yN:∀m∈xs,x.depth<m.depth) (Kz:An.wf (x::xs)) (hw:∀b o,H b=some o->b≠e.li->H' b=some o) (iZ:∀kids:List Addr,H e.li=some (.lst (kids.map V.ref))->H' e.li=some (.lst ((kids++[x.a]).map V.ref)))
  (hX:az g F' H' B->az g F' H' (x::(xs++B))) (n8:∀n∈x::xs,n.mu=true->H n.li=none) (qX:(((x::xs).filter (·.mu)).map (·.li)).Nodup) (Dy:∀n∈x::xs,n.kind=1->¬F' n.tg.d)
  (Ye:∀n∈z.path,jO zl n) (jG:∀pre n post,yP++zl=pre++n::post->n.kind=2->n.mu=false->∃ll x,pre=ll++[x]/\x.depth+1=n.depth/\x.kind=1/\lj.contains x.tg.name=true)
  (TK:∀n∈x::xs,n.kind=2->n.bF≠[]) (Uk:∀n∈x::xs,n.kind=1\/n.kind=2\/n.kind=3) (rK:∀b,F' b->F b\/∃o,H' b=some o) (bN:z.begun=true\/zl=z.bs):aA g F' H' {z with hs:=yP,bs:=zl}:=by
 have Jh:e∈z.all:=by rw[cj];simp
 obtain⟨WL,pK⟩:=T.nodes.mem Jh
 have Dz:e.mu=true:=by
  cases q:e.mu with
  |true=>rfl
  |false=>exact absurd iQ (pK.fu q).2
 have vU:F e.li:=pK.fl Dz;have kp:bc F H H':=λb o q n=>hw b o q λz=>n (z▸vU);obtain⟨aC,yS⟩:=T.li Jh
 have dF:∀n∈pre++(post++B),n.li≠e.li:=by
  intro n hn;have Je:n∈z.all:=by rw[cj];rcases AU.mp hn with q|q<;>simp[q]
  cases qm:n.mu with
  |false=>
   obtain⟨kids,hk⟩:=T.nodes.mem Je;intro q;exact(hk.fu qm).1 (q▸vU)
  |true=>
   have lg:=(BD.mp T.nd).2;rw[cj,CC,DX,Dz,iP rfl,AL,AI]at lg;apply tQ lg n.li ?_;rw[<-AL,<-CC];exact BC.mpr ⟨n,A9.mpr ⟨hn,qm⟩,rfl⟩
 have OW:∀n∈pre++(post++B),∀o,H n.li=some o->H' n.li=some o:=λn hn o q=>hw _ _ q (dF n hn)
 have OZ:∀n∈z.all,n.kind=1->∀o,H n.tg.d=some o->H' n.tg.d=some o:=λn hn h1 o q=>by
  obtain⟨kv,hd⟩:=T.di hn h1;apply hw _ _ q (aE q yS ?_);rw[q]at hd;rw[AH hd];intro z;cases z
 have fj:=T.nodes;rw[cj]at fj
 have Zb:az g F' H' B:=by
  have h1:az g F H B:=az.app (r:=pre++e::post) (by simpa using fj);exact h1.keep gr kp (λn hn=>OW n (by simp[hn])) λn hn=>OZ n (by rw[cj];simp[hn])
 have mG:az g F' H' (aV.all {z with hs:=yP,bs:=zl}):=by
  rw[M4];apply az.ins gr kp iQ hB hx yN (hX Zb) ho fj (λn hn=>OW n (by simp at hn ⊢;rcases hn with q|q;exact .inl q;exact .inr (.inl q))) (λn hn=>OZ n (by rw[cj];simp at hn ⊢;rcases hn with q|q|q;exact .inl q;exact .inr (.inl q);exact .inr (.inr (.inl q)))) (iZ _ ?_);have:=(az.at_ fj).el iQ;exact this.2.1
 have To:e.li≠z.p:=aE yS T.ob (by intro q;cases q)
 have Tn:e.li≠z.op:=λq=>by
  apply(BD.mp T.nd).1 ?_;rw[<-q];exact BC.mpr ⟨e,A9.mpr ⟨Jh,Dz⟩,rfl⟩
 apply⟨hw _ _ T.ob To.symm,gr.1 _ T.fp,hw _ _ T.op Tn.symm,gr.1 _ T.fo,kp _ _ T.rm T.xD,gr.not T.rm T.xD,mG,?_,jG,T.rE,?_,?_,?_,?_,?_,T.dd,?_,T.dp,?_,?_,λy hy=>(T.rt y hy).keep gr kp,?_,?_,?_⟩
 .rw[M4];have lg:=T.nd;rw[cj]at lg
  have PM:(z.op::((pre++e::(post++x::(xs++B))).filter (·.mu)).map (·.li)).Perm ((((x::xs).filter (·.mu)).map (·.li))++(z.op::((pre++e::(post++B)).filter (·.mu)).map (·.li))):=by
   have p1:(pre++e::(post++x::(xs++B))).Perm ((x::xs)++(pre++e::(post++B))):=by
    have a1:pre++e::(post++x::(xs++B))=(pre++e::post)++((x::xs)++B):=by simp
    have a2:(x::xs)++(pre++e::(post++B))=(x::xs)++((pre++e::post)++B):=by simp
    rw[a1,a2,<-AZ,<-AZ];exact J0 _ List.perm_append_comm
   have p2:=((p1.filter (·.mu)).map (·.li)).cons z.op;apply p2.trans ?_;rw[CC,AL];exact(List.perm_middle (l₁:=((x::xs).filter (·.mu)).map (·.li))).symm
  apply PM.symm.nodup_iff.mp (FT.mpr ⟨qX,lg,?_⟩);intro a ha b hb YV;subst YV;obtain⟨n,hn,rfl⟩:=BC.mp ha;have hf:=n8 n (A9.mp hn).1 (A9.mp hn).2;rcases AG.mp hb with q|q
  .rw[q,T.op]at hf;cases hf
  .obtain⟨m,hm,q⟩:=BC.mp q;obtain⟨vs,hv⟩:=T.li (show m∈z.all by rw[cj];exact(A9.mp hm).1);rw[<-q,hv]at hf;cases hf
 .intro n hn;rcases rH n hn with q|q
  .exact T.txt n q
  .exact TK n q
 .intro n hn;rcases rH n hn with q|q
  .exact T.knd n q
  .exact Uk n q
 .exact⟨T.kh.1,T.kh.2.1,T.kh.2.2.1,gr.1 _ T.kh.2.2.2⟩
 .exact⟨T.kd.1,T.kd.2.1,T.kd.2.2.1,gr.1 _ T.kd.2.2.2⟩
 .exact⟨T.kb.1,T.kb.2.1,T.kb.2.2.1,gr.1 _ T.kb.2.2.2⟩
 .intro n hn h1;rcases rH n hn with q|q
  .have hm:n∈z.all:=by
    rcases AU.mp q with r|r
    .simp[aV.all,r]
    .simp[aV.all,r]
   obtain⟨kv,hd⟩:=T.di hm h1;exact gr.not hd (T.od n q h1)
  .exact Dy n q h1
 .intro n hn;rcases rH n hn with q|q
  .exact T.low n q
  .rcases AG.mp q with r|r
   .rw[r];lia
   .have:=yN n r;lia
 .intro n hn;obtain⟨h1,_,h3⟩:=T.po n hn;exact⟨h1,Ye n hn,h3.keep gr kp⟩
 .rw[M4];have Iz:=T.wf;rw[cj]at Iz;exact LZ Iz iQ ho hB hx Kz yN
 .intro q;rcases bN with r|r
  .have:z.begun=false:=q;rw[r]at this;cases this
  .obtain⟨a1,a2,a3⟩:=T.nb q;exact⟨r.trans a1,a2,a3⟩
 .intro b hb;rcases rK b hb with q|q
  .obtain⟨o,ho⟩:=T.uu b q
   by_cases z:b=e.li
   .rw[z];have:=(az.at_ fj).el iQ;exact⟨_,iZ _ this.2.1⟩
   .exact⟨o,hw b o ho z⟩
  .exact q
theorem eI (d:Nat):∀l:List ND, (aq d l).length<=l.length
 |[]=>AE _
 |n::l=>by
  rw[aq];have:=eI d l
  split
  .simp
  .split
   .simp;exact this
   .simp;nofun
theorem sM {bs:List ND} {n:ND} {xs:List ND} (h:jO bs n) (hx:∀m∈xs,n.depth<m.depth):jO (bs++xs) n:=by
 obtain⟨pre,post,e,ho⟩:=h;apply⟨pre,post++xs,by rw[e];simp,λm hm=>?_⟩;rcases AU.mp hm with q|q
 .exact ho m q
 .exact hx m q
theorem aA.fk {z:aV} (T:aA g F H z):z.cur.kind=1/\z.cur.depth=z.path.length+2/\(∀n∈z.path,n.depth<=z.cur.depth)/\∃pre post,z.all=pre++z.cur::post/\(∀m∈post,z.cur.depth<m.depth)/\∀xs,aV.all {z with bs:=z.bs++xs}=pre++z.cur::(post++xs):=by
 have hd:z.cur.depth=z.path.length+2:=by
  have:=z.jo;rw[FI]at this;have h2:=T.depth this;have h3:z.du.length=z.path.length+2:=by simp[aV.du]
  nofun
 have hle:∀n∈z.path,n.depth<=z.cur.depth:=λn hn=>by
  obtain⟨i,hi⟩:=List.getElem?_of_mem hn;have:=T.dp i n hi;have:=b7 hi;lia
 apply⟨(T.elem z.lQ).2.1,hd,hle,?_⟩;cases hp:z.path with
 |nil=>
  have ec:z.cur=z.eb:=by unfold aV.cur;simp[hp]
  rw[ec];apply⟨z.eh::z.ed::z.hs,z.bs,by simp[aV.all],λm hm=>?_,λxs=>by simp[aV.all]⟩;have:=T.low m (by simp[hm]);rw[T.kb.2.1];exact this
 |cons a l=>
  have hc:z.cur∈z.path:=by
   have e1:z.cur=z.path.getLast (by rw[hp];simp):=by
    unfold aV.cur;rw[List.getLast_cons (by rw[hp];simp)]
   rw[e1];exact HW _
  obtain⟨_, ⟨pre,post,e,ho⟩,_⟩:=T.po _ hc;apply⟨z.eh::z.ed::(z.hs++z.eb::pre),post,by simp[aV.all,e],ho,λxs=>by simp[aV.all,e]⟩
structure Made (x:ND) (dZ:List ND) (e:ND) (tg:TG) (at_:List cO) (text:Aa):Prop where
 xd:x.depth=e.depth+1
 xk:x.kind=1
 xt:x.tg=tg
 xa:x.at_=at_
 xm:x.mu=true
 lf:dZ=[]/\text=[]\/∃y:ND,dZ=[y]/\text≠[]/\y.depth=e.depth+2/\y.kind=2/\y.bF=text/\y.mu=false
def aV.plus (z:aV) (X:List ND):aV:=if z.begun=true then{z with bs:=z.bs++X}else{z with hs:=z.hs++X}
inductive sp_Tree_put_in (g:G w K mg) (vs:List V) (H:Hp) (Q:VK) (_:XK):Prop
 |i (F:Addr->Prop) (z:aV) (e:ND) (tg:TG) (at_:List cO) (text:Aa) (_:vs=[.ref z.p,.ref e.a,.ref tg.a]) (_:aA g F H z) (_:(e=if z.begun=true then z.cur else z.ed)) (_:gb g F H tg at_) (_:¬F tg.d) (_:H tg.tx=some (.lst (VL text))) (_:¬F tg.tx) (_:(text≠[]->lj.contains tg.name=true)) (_:z.all.length<=900000) (_:∀(F':Addr->Prop) (H':Hp) (x:ND) (dZ:List ND),aA g F' H' (z.plus (x::dZ))->aS F F' H->bc F H H'->Made x dZ e tg at_ text->Q (.ref x.a) H')
theorem ok_Tree_put_in (g:G w K mg):aI P w K mg base bO 3 g.Tree_put_in.f g.Tree_put_in.fd ["self","parent","tag"] (sp_Tree_put_in g):=by
 apply g.Tree_put_in.fn.bW sc_Tree_put_in λvs H Q E h=>?_;obtain⟨F,z,e,tg,at_,text,rfl,T,he,hT,Nb,nO,VR,jG,hlen,k⟩:=h;apply⟨rfl,λ_ _ _ _ hr=>?_⟩;apply⟨_,%[leftact% Tree_put_in 3 (unop% N.Element_init %[pv 2,ay op_add (ak (pv 1) rfl) (ag)|a]),au (binop% B.append.aU (ak (pv 1) rfl) %[pv 3|a]),aw (dP (ak (pv 2) rfl) (λ_=>rfl)) %[au (binop% B.append.aU (ak (pv 3) rfl) %[unop% N.Leaf_init %[g.c_TEXT.pe rfl,ay op_add (ak (pv 3) rfl) (ag),ak (pv 2) rfl|a]|a])|b] %[|b],ao (pv 3)|b],?_⟩
 obtain⟨iQ,xI,pre,post,B,cj,ho,hB,mj⟩:e.kind=1/\2<=e.depth/\∃pre post B,z.all=pre++e::(post++B)/\(∀m∈post,e.depth<m.depth)/\(B=[]\/∃b B',B=b::B'/\b.depth<=e.depth)/\∀xs, (z.plus xs).all=pre++e::(post++(xs++B)):=by
  by_cases hb:z.begun=true
  .rw[iP hb]at he;obtain⟨h1,h2,_,pre,post,h3,h4,h5⟩:=T.fk;subst he;apply⟨h1,by lia,pre,post, [],by simpa using h3,h4,.inl rfl,λxs=>?_⟩;unfold aV.plus;rw[iP hb,h5];simp
  .rw[iN hb]at he;subst he;apply⟨T.kd.1,by rw[T.kd.2.1];exact AE _, [z.eh],z.hs,z.eb::z.bs,by simp[aV.all],λm hm=>by rw[T.kd.2.1];exact T.low m (by simp[hm]),.inr ⟨z.eb,z.bs,rfl,by rw[T.kd.2.1,T.kb.2.1];exact AE _⟩,λxs=>?_⟩;unfold aV.plus;rw[iN hb];simp[aV.all]
 have Jh:e∈z.all:=by rw[cj];simp
 have cw:aQ g F H e (aq e.depth (post++B)):=by
  have:=T.nodes;rw[cj]at this;exact this.at_
 obtain⟨vV,Ea,_⟩:=cw.el iQ
 have Dz:e.mu=true:=by
  cases q:e.mu with
  |true=>rfl
  |false=>exact absurd iQ (cw.fu q).2
 have vU:F e.li:=cw.fl Dz
 have Sa:(aq e.depth (post++B)).length<=900000:=by
  have h1:=eI e.depth (post++B);have h2:=congrArg BJ cj;rw[AB,AA]at h2;lia
 have kB:∀d,e.depth<=d->aq d B=[]:=λd hd=>by
  rcases hB with q|⟨b,B',q,hb⟩
  .rw[q];rfl
  .rw[q];exact fV (by nofun)
 cbv;ext;apply⟨_,_,_,vV,g.cl_Element,g.na_Element_depth,_,rfl,?_⟩;ext;intro xa xd VB Iy dF;have nx:∀{b o},H b=some o->b≠xa:=λq=>af q VB;have Ds:∀{b o},H b=some o->b≠xd:=λq=>af q Iy;have e1:(e.depth:Int)+1=((e.depth+1:Nat):Int):=by nofun
 rw[e1];apply⟨xa,xd,tg.a,tg.dx,tg.nm,tg.d,tg.tx,e.depth+1,W tg.name,tg.sh,.aY,rfl,aa,?_,λli H1 uq Zq Q3 s1=>⟨rfl,?_⟩⟩
 .rw[ae (nx hT.ob),ae (Ds hT.ob)];exact hT.ob
 have zb:aj H H1:=λb o q=>s1 b o (by rw[ae (nx q),ae (Ds q)];exact q) (nx q)
 have rJ:H li=none:=by
  have a1:li≠xa:=λq=>by rw[q,aa]at uq;cases uq
  have a2:li≠xd:=λq=>by rw[q,ae dF,aa]at uq;cases uq
  rw[ae a1,ae a2]at uq;exact uq
 cbv;ext;apply⟨_,_,_,zb _ _ vV,g.cl_Element,g.na_Element_inside,_,rfl,?_⟩;ext;apply⟨fq (zb _ _ Ea),_,zb _ _ Ea,by rw[AF];exact cY (by nofun),?_⟩;have UB:(aq e.depth (post++B)).map V.ref++[V.ref xa]=(aq e.depth (post++B)++[xa]).map V.ref:=by simp
 rw[UB];generalize zg:upd H1 e.li (.lst ((aq e.depth (post++B)++[xa]).map V.ref))=H2;have Fg:H2 e.li=some (.lst ((aq e.depth (post++B)++[xa]).map V.ref)):=by rw[<-zg,aa]
 have t9:∀b o,H1 b=some o->b≠e.li->H2 b=some o:=λb o q n=>by rw[<-zg,ae n];exact q
 have NH:∀b o,H b=some o->b≠e.li->H2 b=some o:=λb o q n=>t9 b o (zb _ _ q) n;have Xo:xa≠e.li:=(nx Ea).symm;have Vi:li≠e.li:=(af Ea rJ).symm;have N5:=t9 _ _ Zq Xo;have K8:=t9 _ _ Q3 Vi;have Qs:tg.tx≠e.li:=λq=>VR (q▸vU);have Xp:tg.a≠e.li:=λq=>hT.fa (q▸vU);have UA:=NH _ _ nO Qs;have O6:=NH _ _ hT.ob Xp
 let x:ND:=⟨xa,xd,li,e.depth+1,1,tg,at_, [],true⟩
 let F':Addr->Prop:=λb=>F b\/b=li
 have gr:aS F F' H:=⟨λb h=> .inl h,λb h=>h.elim .inl λq=> .inr (q▸rJ)⟩
 have fin:∀(dZ:List ND) (H':Hp),Made x dZ e tg at_ text->(∀b o,H b=some o->b≠e.li->H' b=some o)->H' e.li=some (.lst ((aq e.depth (post++B)++[xa]).map V.ref))->H' xa=some (.ins g.k_Element xd (hG (e.depth+1) tg.a (W tg.name) li))->
   H' li=some (.lst ((dZ.map (·.a)).map V.ref))->(∀y∈dZ,H' y.a=some (.ins g.k_Leaf y.dx (Dt y.kind y.depth y.li))/\y.li=tg.tx/\H y.a=none/\y.a≠li)->Q (.ref xa) H':=by
  intro dZ H' M pK Zr SD Q6 NN
  have mn:∀m∈dZ,x.depth<m.depth:=λm hm=>by
   rcases M.lf with⟨q,_⟩|⟨y,q,_,pH,_⟩
   .rw[q]at hm;cases hm
   .rw[q]at hm;have:m=y:=by simpa using hm
    rw[this,pH];show e.depth+1<_;nofun
  have kp:bc F H H':=λb o q n=>pK b o q λz=>n (z▸vU);have YZ:gb g F' H' tg at_:=hT.keep gr kp λo q=>kp _ _ q Nb
  have QF:¬F' xa:=λq=>q.elim (T.out VB) (λq=>by
   rw[q]at SD;rw[SD]at Q6;cases Q6)
  have hX:az g F' H' B->az g F' H' (x::(dZ++B)):=by
   intro QY
   have Yy:aq x.depth (dZ++B)=dZ.map (·.a):=by
    rw[bK _ _ _ mn,kB _ (show e.depth<=e.depth+1 by nofun),A6];rcases M.lf with⟨q,_⟩|⟨y,q,_,pH,_⟩
    .rw[q];rfl
    .rw[q];show aq (e.depth+1) [y]=[y.a]
     rw[aq,iN (by lia),iP (by nofun)];rfl
   show aQ g F' H' x (aq x.depth (dZ++B))/\az g F' H' (dZ++B)
   apply⟨aQ.mk (λ_=> .inr rfl) (λq=>nomatch q) QF (λ_=>⟨SD,by rw[Yy];exact Q6,YZ⟩) (λq=>absurd rfl q),?_⟩;rcases M.lf with⟨q,_⟩|⟨y,q,yO,pH,xx,hyp,Kx⟩
   .rw[q];exact QY
   .rw[q];obtain⟨g1,g2,g3,g4⟩:=NN y (by rw[q];simp);have Yx:aq y.depth B=[]:=kB _ (by lia);show aQ g F' H' y (aq y.depth B)/\az g F' H' B
    apply⟨aQ.mk (λr=>by rw[Kx]at r;cases r) (λ_=>⟨?_,by rw[xx];decide⟩) (λr=>Or.elim r (T.out g3) g4) (λr=>by rw[xx]at r;cases r) (λ_=>⟨g1,?_,Yx⟩),QY⟩
    .rw[g2];exact λr=>r.elim VR (af nO rJ)
    .rw[g2,hyp];exact pK _ _ nO Qs
  have PJ:aA g F' H' (z.plus (x::dZ)):=by
   have common:=λyP zl=>T.add (F':=F') (H':=H') gr (e:=e) (x:=x) (xs:=dZ) (pre:=pre) (post:=post) (B:=B) yP zl cj
   have O7:An.wf (x::dZ):=by
    rcases M.lf with⟨q,_⟩|⟨y,q,yO,pH,xx,hyp,Kx⟩
    .rw[q];trivial
    .rw[q];exact⟨by rw[pH];exact AE _,λr=>absurd rfl r,trivial⟩
   have Bb:∀kids:List Addr,H e.li=some (.lst (kids.map V.ref))->H' e.li=some (.lst ((kids++[x.a]).map V.ref)):=by
    intro kids hk;rw[Ea]at hk
    have e2:(aq e.depth (post++B)).map V.ref=kids.map V.ref:=by
     have:=AH hk;injection this
    have e3:aq e.depth (post++B)=kids:=List.map_inj_right (λa b h=>by injection h)|>.mp e2
    rw[<-e3];exact Zr
   have gp:∀n∈x::dZ,n=x\/(n.kind=2/\n.mu=false/\n.bF=text/\text≠[]/\n.depth=e.depth+2):=by
    intro n hn;rcases AG.mp hn with r|r
    .exact .inl r
    .rcases M.lf with⟨q,_⟩|⟨y,q,yO,pH,xx,hyp,Kx⟩
     .rw[q]at r;cases r
     .rw[q]at r;have:n=y:=by simpa using r
      rw[this];exact .inr ⟨xx,Kx,hyp,yO,pH⟩
   have rZ:∀n∈x::dZ,n.mu=true->H n.li=none:=λn hn hm=>by
    rcases gp n hn with r|⟨_,r,_⟩
    .rw[r];exact rJ
    .rw[r]at hm;cases hm
   have zH:(((x::dZ).filter (·.mu)).map (·.li)).Nodup:=by
    rcases M.lf with⟨q,_⟩|⟨y,q,yO,pH,xx,hyp,Kx⟩
    .rw[q];have:FU (·.mu) [x]=[x]:=rfl;rw[this];exact BD.mpr ⟨by simp,EG⟩
    .rw[q];have:FU (·.mu) [x,y]=[x]:=by rw[DK rfl,F6 (by rw[Kx];decide)];rfl
     rw[this];exact BD.mpr ⟨by simp,EG⟩
   have zG:∀n∈x::dZ,n.kind=1->¬F' n.tg.d:=λn hn h1=>by
    rcases gp n hn with r|⟨r,_⟩
    .rw[r];obtain⟨ls,_, ⟨Fb,_⟩,_⟩:=hT.at_;exact λq=>q.elim Nb (af Fb rJ)
    .rw[r]at h1;cases h1
   have rX:∀n∈x::dZ,n.kind=2->n.bF≠[]:=λn hn h1=>by
    rcases gp n hn with r|⟨_,_,r,r',_⟩
    .rw[r]at h1;cases h1
    .rw[r];exact r'
   have r6:∀n∈x::dZ,n.kind=1\/n.kind=2\/n.kind=3:=λn hn=>by
    rcases gp n hn with r|⟨r,_⟩
    .rw[r];exact .inl rfl
    .exact .inr (.inl r)
   have Km:∀b,F' b->F b\/∃o,H' b=some o:=λb hb=>by
    rcases hb with q|q
    .exact .inl q
    .exact .inr (by rw[q];exact⟨_,Q6⟩)
   have rY:∀A:List ND, (∀pre n post,A=pre++n::post->n.kind=2->n.mu=false->∃ll x,pre=ll++[x]/\x.depth+1=n.depth/\x.kind=1/\lj.contains x.tg.name=true)->
     ∀pre n post,A++x::dZ=pre++n::post->n.kind=2->n.mu=false->∃ll x,pre=ll++[x]/\x.depth+1=n.depth/\x.kind=1/\lj.contains x.tg.name=true:=by
    intro A hA pre n post hE hk hm;rcases FJ.mp hE with⟨c,q1,q2⟩|⟨c,q1,q2⟩
    .cases c with
     |nil=>
      rw[BA]at q2;injection q2 with q3 _;rw[<-q3]at hk;cases hk
     |cons c0 c=>
      rw[AS]at q2;injection q2 with q3 q4;rcases M.lf with⟨q,_⟩|⟨y,q,yO,pH,xx,hyp,Kx⟩
      .rw[q]at q4;simp at q4
      .rw[q]at q4;cases c with
       |nil=>
        rw[BA]at q4;injection q4 with q5 _;apply⟨A,x,by rw[q1,<-q3],?_,rfl,jG yO⟩;rw[<-q5,pH]
       |cons c1 c=>simp at q4
    .cases c with
     |nil=>
      rw[BA]at q2;injection q2 with q3 _;rw[q3]at hk;cases hk
     |cons c0 c=>
      rw[AS]at q2;injection q2 with q3 q4;rw[<-q3]at q1;exact hA pre n c q1 hk hm
   by_cases hb:z.begun=true
   .unfold aV.plus;rw[iP hb];rw[iP hb]at he;apply common z.hs (z.bs++x::dZ) ?_ (λn hn=>?_) ho hB iQ xI rfl mn O7 pK Bb hX rZ zH zG (λn hn=>?_) (λpre n post hE=>?_) rX r6 Km (.inl hb)
    .have:=mj (x::dZ);unfold aV.plus at this;rw[iP hb]at this;simpa using this
    .rw[<-AZ]at hn;exact AU.mp hn
    .have hle:=T.fk.2.2.1 n hn;apply sM (T.po n hn).2.1 λm hm=>?_;rw[<-he]at hle;rcases gp m hm with r|⟨_,_,_,_,r⟩
     .rw[r];show n.depth<e.depth+1;nofun
     .lia
    .rw[<-AZ]at hE;exact rY _ T.raw pre n post hE
   .have rA:z.begun=false:=by simpa using hb
    obtain⟨b0,b1,b2⟩:=T.nb rA;unfold aV.plus;rw[iN hb];apply common (z.hs++x::dZ) z.bs ?_ (λn hn=>?_) ho hB iQ xI rfl mn O7 pK Bb hX rZ zH zG (λn hn=>(T.po n hn).2.1) (λpre n post hE=>?_) rX r6 Km (.inr rfl)
    .have:=mj (x::dZ);unfold aV.plus at this;rw[iN hb]at this;simpa using this
    .rw[b0,A6]at hn;rw[b0,A6];exact AU.mp hn
    .rw[b0,A6]at hE;have:=T.raw;rw[b0,A6]at this;exact rY _ this pre n post hE
  exact k F' H' x dZ PJ gr kp M
 apply g7 λR hR=>?_;ext;apply⟨_,_,_,O6,g.cl_Tag,g.na_Tag_text,_,rfl,?_⟩;apply⟨_,.inl ⟨_,aL.of UA,rfl⟩,?_⟩;apply bb (λht=>?_) (λht=>?_)
 .have yO:text≠[]:=λq=>by rw[q]at ht;simp[VL]at ht
  ext;apply⟨_,_,_,N5,g.cl_Element,g.na_Element_inside,_,rfl,?_⟩;ext;apply⟨fq K8,?_⟩;apply⟨_,_,_,N5,g.cl_Element,g.na_Element_depth,_,rfl,?_⟩;ext;apply⟨_,_,_,O6,g.cl_Tag,g.na_Tag_text,_,rfl,?_⟩;ext;intro ya yd uk TF OO;have ny:∀{b o},H2 b=some o->b≠ya:=λq=>af q uk;have Nv:∀{b o},H2 b=some o->b≠yd:=λq=>af q TF;have e2:((e.depth+1:Nat):Int)+1=((e.depth+2:Nat):Int):=by nofun
  rw[e2];apply⟨ya,yd,tg.tx,2,e.depth+2,rfl,aa,λH3 N2 s3=>⟨rfl,?_⟩⟩;have ub:∀b o,H2 b=some o->H3 b=some o:=λb o q=>s3 b o (by rw[ae (ny q),ae (Nv q)];exact q) (ny q);apply⟨_,ub _ _ K8,by decide,?_⟩;subst hR;ext;have Vc:ya≠li:=(ny K8).symm;have Xn:xa≠li:=aE N5 K8 (by intro q;cases q)
  have Ls:H ya=none:=by
   cases q:H ya with
   |none=>rfl
   |some o=>
    by_cases r:ya=e.li
    .rw[r,Fg]at uk;cases uk
    .rw[NH _ _ q r]at uk;cases uk
  apply fin [⟨ya,yd,tg.tx,e.depth+2,2,tg, [],text,false⟩] _ ⟨rfl,rfl,rfl,rfl,rfl,.inr ⟨_,rfl,yO,rfl,rfl,rfl,rfl⟩⟩ (λb o q n=>?_) ?_ ?_ ?_ λy hy=>?_
  .rw[ae (af q rJ)];exact ub _ _ (NH b o q n)
  .rw[ae Vi.symm];exact ub _ _ Fg
  .rw[ae Xn];exact ub _ _ N5
  .rw[aa];rfl
  .have:y=⟨ya,yd,tg.tx,e.depth+2,2,tg, [],text,false⟩:=by simpa using hy
   subst this;exact⟨by rw[ae Vc];exact N2,rfl,Ls,Vc⟩
 .have yO:text=[]:=by
   cases text with
   |nil=>rfl
   |cons c t=>simp[VL]at ht
  subst hR;ext;apply fin [] H2 ⟨rfl,rfl,rfl,rfl,rfl,.inl ⟨rfl,yO⟩⟩ NH Fg N5 K8 λy hy=>by cases hy
theorem cM {K:AD} {c:Addr} {n:Aa} {ws:List Aa} (h:bC K H c (WS ws)) (q:Q (.bl (ws.contains n)) H):MX K false (.str (W n)) (.ref c) H Q:=
 ⟨c,_,rfl,.inr h,rfl,gQ _,by rw[iw];exact q⟩
theorem mR {K:AD} {c:Addr} {n:Aa} {ws:List Aa} (h:bC K H c (WS ws)) (q:Q (.bl (!ws.contains n)) H):MX K true (.str (W n)) (.ref c) H Q:=
 ⟨c,_,rfl,.inr h,rfl,gQ _,by rw[iw];exact q⟩
theorem wj (g:G w K mg) (H:Hp):bC K H g.c_VOID.a (WS y3):=g.c_VOID.sq H
theorem Aq (g:G w K mg) (H:Hp):bC K H g.c_RAW.a (WS lj):=g.c_RAW.sq H
structure d4 (g:G w K mg) (F:Addr->Prop) (H:Hp) (t:TG) (l:List cO) (text:Aa):Prop where
 tb:gb g F H t l
 fd:¬F t.d
 tx:H t.tx=some (.lst (VL text))
 ft:¬F t.tx
 Qq:text≠[]->lj.contains t.name=true
theorem d4.keep {t:TG} {l:List cO} {text:Aa} (r:d4 g F H t l text) (gr:aS F F' H) (k:bc F H H'):d4 g F' H' t l text:=by
 obtain⟨ls,e1, ⟨h1,h2⟩,h3⟩:=r.tb.at_;exact⟨r.tb.keep gr k λo e=>k _ _ e r.fd,gr.not h1 r.fd,k _ _ r.tx r.ft,gr.not r.tx r.ft,r.Qq⟩
theorem fR.uC {t:TG} {l:List cO} (r:fR g F H t l):d4 g F H t l []:=⟨r.tb,r.fd,r.tx,r.ft,λh=>absurd rfl h⟩
def opens (t:TG):Bool:=!(t.sh||y3.contains t.name||lj.contains t.name)
theorem aV.uQ {z:aV} (h:z.begun=true) (X:List ND):z.plus X={z with bs:=z.bs++X}:=by unfold aV.plus;rw[iP h]
inductive sp_Tree_put (g:G w K mg) (vs:List V) (H:Hp) (Q:VK) (_:XK):Prop
 |i (F:Addr->Prop) (z:aV) (tg:TG) (at_:List cO) (text:Aa) (_:vs=[.ref z.p,.ref tg.a]) (_:aA g F H z) (_:z.begun=true) (_:d4 g F H tg at_ text) (_:z.all.length<=900000) (_:z.path.length<=1000) (_:(199<=z.path.length+2->Q (.bl false) H)) (_:(∀(F':Addr->Prop) (H':Hp) (x:ND) (dZ:List ND),¬199<=z.path.length+2->opens tg=false->aA g F' H' {z with bs:=z.bs++x::dZ}->aS F F' H->bc F H H'->Made x dZ z.cur tg at_ text->Q (.bl false) H')) (_:(∀(F':Addr->Prop) (H':Hp) (x:ND) (ka:Addr),¬199<=z.path.length+2->opens tg=true->text=[]->aA g F' H' {z with bs:=z.bs++[x],path:=z.path++[x],rm:=ka,rem:=if fh.contains tg.name=true then []else z.rem}->aS F F' H->bc F H H'->Made x [] z.cur tg at_ []->Q (.bl true) H'))
theorem ok_Tree_put (g:G w K mg):aI P w K mg base bO 4 g.Tree_put.f g.Tree_put.fd ["self","tag"] (sp_Tree_put g):=by
 apply g.Tree_put.fn.bW sc_Tree_put λvs H Q E h=>?_;obtain⟨F,z,tg,at_,text,rfl,T,bN,hP,hlen,nP,k1,k2,k3⟩:=h;apply⟨rfl,λ_ _ _ _ hr=>?_⟩;apply⟨_,%[aw (binrel% op_ge (ak (unop% M.Tree_current (pv 0)) rfl) (g.c_MOST_DEPTH.pe rfl)) %[ao (eu)|b] %[|b],leftact% Tree_put 2 (binop% Tree_put_in (pv 0) %[unop% M.Tree_current (pv 0),pv 1|a]),aw (PW.pt (hU (c7 (ak (pv 1) rfl)) (hU (binrel_no_prop% op_in_seq (ak (pv 1) rfl) (g.c_VOID.pe rfl)) (fS (binrel_no_prop% op_in_seq (ak (pv 1) rfl) (g.c_RAW.pe rfl)))))) %[ao (eu)|b] %[|b],au (binop% B.append.aU (ak (pv 0) rfl) %[pv 2|a]),aw (binrel_no_prop% op_in_seq (ak (pv 1) rfl) (g.c_WALLS.pe rfl)) %[aT (pv 0) (aM %[|a]) rfl|b] %[|b],ao (eu)|b],?_⟩;obtain⟨NU,nJ,Us,_⟩:=T.fk;have Jj:=(T.elem z.lQ).1;cbv;ext;apply⟨_,_,T.ob,rfl,F,z,rfl,T,?_⟩;ext;apply⟨_,_,_,Jj,g.cl_Element,g.na_Element_depth,_,rfl,?_⟩;ext;apply bb (λh0=>k1 (by lia)) (λh0=>?_);have hd:¬199<=z.path.length+2:=by lia
 cbv;ext;apply⟨_,_,T.ob,rfl,_,_,T.ob,rfl,F,z,rfl,T,?_⟩;ext;apply⟨F,z,z.cur,tg,at_,text,rfl,T, (by rw[iP bN]),hP.tb,hP.fd,hP.tx,hP.ft,hP.Qq,hlen,λF1 H1 x dZ T1 nS kY M=>?_⟩;rw[aV.uQ bN]at T1;ext;have Sy:=kY _ _ hP.tb.ob hP.tb.fa;apply g7 λR hR=>?_;ext;have f7:opens tg=false->Q (.bl false) H1:=λq=>k2 F1 H1 x dZ hd q T1 nS kY M
 have TC:opens tg=true->R [some (V.ref z.p),some (V.ref tg.a),some (V.ref x.a)] H1:=by
  intro fw
  have TX:tg.sh=false/\y3.contains tg.name=false/\lj.contains tg.name=false:=by
   unfold opens at fw;cases a1:tg.sh<;>cases a2:y3.contains tg.name<;>cases a3:lj.contains tg.name<;>rw[a1,a2,a3]at fw<;>first|exact⟨rfl,rfl,rfl⟩|cases fw
  obtain⟨o1,o2,o3⟩:=TX
  have nO:text=[]:=by
   cases text with
   |nil=>rfl
   |cons c t=>have:=hP.Qq (by simp);rw[o3]at this;cases this
  subst nO
  have NN:dZ=[]:=by
   rcases M.lf with⟨q,_⟩|⟨y,_,q,_⟩
   .exact q
   .exact absurd rfl q
  subst NN;have VA:=M.xt
  have QT:fR g F1 H1 x.tg x.at_:=by
   have gg:=hP.keep nS kY;rw[VA,M.xa];exact⟨gg.tb,gg.fd,gg.tx,gg.ft,o1⟩
  have ml:∀n∈z.path++[x], (n.kind=1/\jO (z.bs++[x]) n/\fR g F1 H1 n.tg n.at_)/\lj.contains n.tg.name=false:=by
   intro n hn;rcases AU.mp hn with q|q
   .exact⟨T1.po n q,T1.rE n q⟩
   .have:n=x:=by simpa using q
    subst this;exact⟨⟨M.xk, ⟨z.bs, [],rfl,λm hm=>by cases hm⟩,QT⟩,by rw[VA];exact o3⟩
  have K1:∀(i:Nat) (n:ND), (z.path++[x])[i]? =some n->n.depth=i+3:=by
   intro i n hi
   by_cases gc:i<z.path.length
   .rw[D0 gc]at hi;exact T.dp i n hi
   .have Uh:=b7 hi;rw[AB,DS]at Uh;have:i=z.path.length:=by lia
    subst this;rw[BW (AE _),DP]at hi;have:x=n:=by simpa using hi
    rw[<-this,M.xd,nJ]
  have RY:=T1.ob;subst hR;cbv;ext;apply⟨_,_,_,RY,g.cl_Tree,g.na_Tree_opened,_,rfl,?_⟩;ext;have Gi:H1 z.op=some (.lst (z.du.map λn=>V.ref n.a)):=T1.op;apply⟨fq Gi,_,Gi,by rw[AF];exact cY (by simp[aV.du];nofun),?_⟩;have SK:(z.du.map λn=>V.ref n.a)++[V.ref x.a]=(z.eh::z.eb::(z.path++[x])).map λn=>V.ref n.a:=by simp[aV.du]
  rw[SK];generalize zg:upd H1 z.op (.lst ((z.eh::z.eb::(z.path++[x])).map λn=>V.ref n.a))=H2;have Nh:H2 z.op=some (.lst ((z.eh::z.eb::(z.path++[x])).map λn=>V.ref n.a)):=by rw[<-zg,aa]
  have t9:∀b o,H1 b=some o->b≠z.op->H2 b=some o:=λb o q n=>by rw[<-zg,ae n];exact q
  have Kr:z.p≠z.op:=aE RY Gi (by intro q;cases q);have Eg:=t9 _ _ RY Kr
  have zR:∀n∈aV.all {z with bs:=z.bs++[x]},z.op≠n.li:=λn hn q=>by
   cases hm:n.mu with
   |true=>
    apply(BD.mp T1.nd).1 ?_;show z.op∈_
    rw[q];exact BC.mpr ⟨n,A9.mpr ⟨hn,hm⟩,rfl⟩
   |false=>
    obtain⟨kids,hk⟩:=T1.nodes.mem hn;exact(hk.fu hm).1 (q▸T1.fo)
  have OL:bc F1 H1 H2:=λb o q n=>t9 b o q λr=>n (r▸T1.fo);have XG:∀n∈aV.all {z with bs:=z.bs++[x]},∀o,H1 n.li=some o->H2 n.li=some o:=λn hn o q=>t9 _ _ q (zR n hn).symm
  have ZJ:∀n∈aV.all {z with bs:=z.bs++[x]},n.kind=1->∀o,H1 n.tg.d=some o->H2 n.tg.d=some o:=λn hn h1 o q=>by
   obtain⟨kv,hd⟩:=T1.di hn h1;apply t9 _ _ q (aE q Gi ?_);rw[q]at hd;rw[AH hd];intro z;cases z
  have Pb:∀b,F1 b->∃o,H2 b=some o:=λb hb=>by
   by_cases r:b=z.op
   .rw[r];exact⟨_,Nh⟩
   .obtain⟨o,ho⟩:=T1.uu b hb;exact⟨o,t9 b o ho r⟩
  have T2:=T1.zL (aS.refl F1 H1) OL XG ZJ z.op z.rm (z.path++[x]) z.rem z.begun Eg Nh T1.fo (t9 _ _ T1.rm (λr=>T1.xD (show F1 z.rm from r▸T1.fo))) T1.xD zR ml K1 T1.rt (λr=>by rw[bN]at r;cases r) Pb;have lD:=kY.trans nS OL;apply g7 λR2 Ee=>?_;ext;have Sw:=lD _ _ hP.tb.ob hP.tb.fa;apply⟨_,_,_,Sw,g.cl_Tag,g.na_Tag_word,_,rfl,?_⟩;ext;apply cM (je g H2) ?_;apply bb (λhw=>?_) (λhw=>?_)
  .ext;apply⟨A0 _,λka nX=>?_⟩;have Vf:z.p≠ka:=af Eg nX;apply⟨_,_,_, (by rw[ae Vf];exact Eg),g.cl_Tree,g.na_Tree_remembered,cq rfl,?_⟩;subst Ee;ext;have SO:bU "remembered" (V.ref ka) (ba z.eh.a z.ed.a z.eb.a z.op z.begun z.rm)=ba z.eh.a z.ed.a z.eb.a z.op z.begun ka:=rfl;rw[SO];generalize Jn:upd (upd H2 ka (.lst [])) z.p (.ins g.k_Tree z.dx (ba z.eh.a z.ed.a z.eb.a z.op z.begun ka))=H3;have NG:∀b o,H2 b=some o->b≠z.p->H3 b=some o:=λb o q n=>by rw[<-Jn,ae n,ae (af q nX)];exact q
   have OK:bc F1 H2 H3:=λb o q n=>NG b o q λr=>n (r▸T1.fp);have N3:H3 z.p=some (.ins g.k_Tree z.dx (ba z.eh.a z.ed.a z.eb.a z.op z.begun ka)):=by rw[<-Jn,aa]
   have Zm:H3 ka=some (.lst []):=by rw[<-Jn,ae Vf.symm,aa]
   have T3:=T2.zL (aS.refl F1 H2) OK (λn hn o q=>NG _ _ q (by
     obtain⟨vs,hv⟩:=T2.li hn
     exact aE hv Eg (by intro z;cases z))) (λn hn h1 o q=>NG _ _ q (by
     obtain⟨kv,hd⟩:=T2.di hn h1
     exact aE hd Eg (by intro z;cases z))) z.op ka (z.path++[x]) [] z.begun N3 (NG _ _ Nh Kr.symm) T1.fo (by rw[Zm];rfl) (T2.out nX) zR (λn hn=>⟨T2.po n hn,T2.rE n hn⟩) K1 (λy hy=>by cases hy) (λr=>by rw[bN]at r;cases r) (λb hb=>by
      by_cases r:b=z.p
      .rw[r];exact⟨_,N3⟩
      .obtain⟨o,ho⟩:=Pb b hb
       exact⟨o,NG b o ho r⟩)
   apply k3 F1 H3 x ka hd fw rfl ?_ nS (lD.trans nS OK) M;rw[iP hw];exact T3
  .subst Ee;ext;apply k3 F1 H2 x z.rm hd fw rfl ?_ nS lD M;rw[iN hw];exact T2
 apply⟨_,_,_,Sy,g.cl_Tag,g.na_Tag_short,_,rfl,?_⟩;apply bb (λh2=>?_) (λh2=>?_)
 .exact f7 (by unfold opens;rw[h2];rfl)
 .ext;apply⟨_,_,_,Sy,g.cl_Tag,g.na_Tag_word,_,rfl,?_⟩;ext;apply cM (wj g H1) ?_;apply bb (λh3=>?_) (λh3=>?_)
  .exact f7 (by unfold opens;rw[h3];simp)
  .refine⟨_,_,_,Sy,g.cl_Tag,g.na_Tag_word,_,rfl,?_⟩;ext;apply cM (Aq g H1) ?_;apply bb (λh4=>?_) (λh4=>?_)
   .exact f7 (by unfold opens;rw[h4];simp)
   .exact TC (by unfold opens;simp at h2 h3 h4 ⊢;exact⟨⟨h2,h3⟩,h4⟩)
theorem aA.parent {z:aV} (T:aA g F H z) {e:ND} (he:e=if z.begun=true then z.cur else z.ed):
  e.kind=1/\2<=e.depth/\∃pre post B,z.all=pre++e::(post++B)/\(∀m∈post,e.depth<m.depth)/\(B=[]\/∃b B',B=b::B'/\b.depth<=e.depth)/\∀xs, (z.plus xs).all=pre++e::(post++(xs++B)):=by
 by_cases hb:z.begun=true
 .rw[iP hb]at he;obtain⟨h1,h2,_,pre,post,h3,h4,h5⟩:=T.fk;subst he;apply⟨h1,by lia,pre,post, [],by simpa using h3,h4,.inl rfl,λxs=>?_⟩;unfold aV.plus;rw[iP hb,h5];simp
 .rw[iN hb]at he;subst he;apply⟨T.kd.1,by rw[T.kd.2.1];exact AE _, [z.eh],z.hs,z.eb::z.bs,by simp[aV.all],λm hm=>by rw[T.kd.2.1];exact T.low m (by simp[hm]),.inr ⟨z.eb,z.bs,rfl,by rw[T.kd.2.1,T.kb.2.1];exact AE _⟩,λxs=>?_⟩;unfold aV.plus;rw[iN hb];simp[aV.all]
theorem aA.node {z:aV} (T:aA g F H z) {e:ND} {pre r:List ND} (h:z.all=pre++e::r) (iQ:e.kind=1):aQ g F H e (aq e.depth r)/\e.mu=true/\F e.li:=by
 have hn:aQ g F H e (aq e.depth r):=by
  have:=T.nodes;rw[h]at this;exact this.at_
 have Dz:e.mu=true:=by
  cases q:e.mu with
  |true=>rfl
  |false=>exact absurd iQ (hn.fu q).2
 exact⟨hn,Dz,hn.fl Dz⟩
theorem aA.leaf {z:aV} (T:aA g F H z) (gr:aS F F' H) {e:ND} (he:e=if z.begun=true then z.cur else z.ed) (x:ND) (Iy:x.depth=e.depth+1) (Ky:x.kind=2/\x.mu=true\/x.kind=3) (XQ:x.kind=2->x.bF≠[])
  (pK:∀b o,H b=some o->b≠e.li->H' b=some o) (OX:∀kids:List Addr,H e.li=some (.lst (kids.map V.ref))->H' e.li=some (.lst ((kids++[x.a]).map V.ref))) (XR:H' x.a=some (.ins g.k_Leaf x.dx (Dt x.kind x.depth x.li))) (XS:H' x.li=some (.lst (VL x.bF)))
  (XT:¬F' x.a) (OV:x.mu=true->F' x.li/\H x.li=none) (Ue:x.mu=false->¬F' x.li) (rK:∀b,F' b->F b\/∃o,H' b=some o):aA g F' H' (z.plus [x]):=by
 obtain⟨iQ,xI,pre,post,B,cj,ho,hB,mj⟩:=T.parent he
 have kB:∀d,e.depth<=d->aq d B=[]:=λd hd=>by
  rcases hB with q|⟨b,B',q,hb⟩
  .rw[q];rfl
  .rw[q];exact fV (by nofun)
 have Lu:x.kind≠1:=by rcases Ky with q|q;rw[q.1];decide;rw[q];decide
 have hX:az g F' H' B->az g F' H' (x::([]++B)):=λQY=>by
  show aQ g F' H' x (aq x.depth B)/\az g F' H' B
  exact⟨aQ.mk (λq=>(OV q).1) (λq=>⟨Ue q,Lu⟩) XT (λq=>absurd q Lu) (λ_=>⟨XR,XS,kB _ (by lia)⟩),QY⟩
 have gp:∀n∈[x],n=x:=λn hn=>by simpa using hn
 have zH:(([x].filter (·.mu)).map (·.li)).Nodup:=by
  cases q:x.mu with
  |true=>rw[DK q];exact BD.mpr ⟨by simp,EG⟩
  |false=>rw[F6 (by rw[q];decide)];exact EG
 have rY:∀A:List ND, (∀pre n post,A=pre++n::post->n.kind=2->n.mu=false->∃ll x,pre=ll++[x]/\x.depth+1=n.depth/\x.kind=1/\lj.contains x.tg.name=true)->
   ∀pre n post,A++[x]=pre++n::post->n.kind=2->n.mu=false->∃ll x,pre=ll++[x]/\x.depth+1=n.depth/\x.kind=1/\lj.contains x.tg.name=true:=by
  intro A hA pre n post hE hk hm
  have Vg:n=x->False:=λq=>by
   rw[q]at hk hm;rcases Ky with r|r
   .rw[r.2]at hm;cases hm
   .rw[r]at hk;cases hk
  rcases FJ.mp hE with⟨c,q1,q2⟩|⟨c,q1,q2⟩
  .cases c with
   |nil=>rw[BA]at q2;injection q2 with q3 _;exact(Vg q3.symm).elim
   |cons c0 c=>rw[AS]at q2;injection q2 with q3 q4;simp at q4
  .cases c with
   |nil=>rw[BA]at q2;injection q2 with q3 _;exact(Vg q3).elim
   |cons c0 c=>
    rw[AS]at q2;injection q2 with q3 q4;rw[<-q3]at q1;exact hA pre n c q1 hk hm
 have common:=λyP zl=>T.add (F':=F') (H':=H') gr (e:=e) (x:=x) (xs:=[]) (pre:=pre) (post:=post) (B:=B) yP zl cj;have rZ:∀n∈[x],n.mu=true->H n.li=none:=λn hn hm=>by rw[gp n hn]at hm ⊢;exact(OV hm).2
 have zG:∀n∈[x],n.kind=1->¬F' n.tg.d:=λn hn h1=>by rw[gp n hn]at h1;exact absurd h1 Lu
 have rX:∀n∈[x],n.kind=2->n.bF≠[]:=λn hn h1=>by rw[gp n hn]at h1 ⊢;exact XQ h1
 have r6:∀n∈[x],n.kind=1\/n.kind=2\/n.kind=3:=λn hn=>by rw[gp n hn];exact .inr (Ky.imp And.left id)
 by_cases hb:z.begun=true
 .unfold aV.plus;rw[iP hb];rw[iP hb]at he;apply common z.hs (z.bs++[x]) ?_ (λn hn=>?_) ho hB iQ xI Iy (λm hm=>by cases hm) trivial pK OX hX rZ zH zG (λn hn=>?_) (λpre n post hE=>?_) rX r6 rK (.inl hb)
  .have:=mj [x];unfold aV.plus at this;rw[iP hb]at this;simpa using this
  .rw[<-AZ]at hn;exact AU.mp hn
  .have hle:=T.fk.2.2.1 n hn;apply sM (T.po n hn).2.1 λm hm=>?_;rw[<-he]at hle;rw[gp m hm];lia
  .rw[<-AZ]at hE;exact rY _ T.raw pre n post hE
 .have rA:z.begun=false:=by simpa using hb
  obtain⟨b0,b1,b2⟩:=T.nb rA;unfold aV.plus;rw[iN hb];apply common (z.hs++[x]) z.bs ?_ (λn hn=>?_) ho hB iQ xI Iy (λm hm=>by cases hm) trivial pK OX hX rZ zH zG (λn hn=>(T.po n hn).2.1) (λpre n post hE=>?_) rX r6 rK (.inr rfl)
  .have:=mj [x];unfold aV.plus at this;rw[iN hb]at this;simpa using this
  .rw[b0,A6]at hn;rw[b0,A6];exact AU.mp hn
  .rw[b0,A6]at hE;have:=T.raw;rw[b0,A6]at this;exact rY _ this pre n post hE
inductive sp_Tree_put_remark (g:G w K mg) (vs:List V) (H:Hp) (Q:VK) (_:XK):Prop
 |i (F:Addr->Prop) (z:aV) (e:ND) (pl:Addr) (t:Aa) (_:vs=[.ref z.p,.ref e.a,.ref pl]) (_:aA g F H z) (_:(e=if z.begun=true then z.cur else z.ed)) (_:H pl=some (.lst (VL t))) (_:¬F pl) (_:z.all.length<=900000) (_:∀(F':Addr->Prop) (H':Hp) (x:ND),aA g F' H' (z.plus [x])->aS F F' H->bc F H H'->x.node=⟨3,e.depth+1, [], [],t⟩->Q .aY H')
theorem ok_Tree_put_remark (g:G w K mg):aI P w K mg base bO 3 g.Tree_put_remark.f g.Tree_put_remark.fd ["self","parent","points"] (sp_Tree_put_remark g):=by
 apply g.Tree_put_remark.fn.bW sc_Tree_put_remark λvs H Q E h=>?_;obtain⟨F,z,e,pl,t,rfl,T,he,nP,xB,hlen,k⟩:=h;apply⟨rfl,λ_ _ _ _ hr=>?_⟩;apply⟨_,%[au (binop% B.append.aU (ak (pv 1) rfl) %[unop% N.Leaf_init %[g.c_REMARK.pe rfl,ay op_add (ak (pv 1) rfl) (ag),pv 2|a]|a])|b],?_⟩;obtain⟨iQ,xI,pre,post,B,cj,ho,hB,mj⟩:=T.parent he;obtain⟨cw,Dz,vU⟩:=T.node cj iQ;obtain⟨vV,Ea,_⟩:=cw.el iQ
 have Sa:(aq e.depth (post++B)).length<=900000:=by
  have h1:=eI e.depth (post++B);have h2:=congrArg BJ cj;rw[AB,AA]at h2;lia
 ext;apply⟨_,_,_,vV,g.cl_Element,g.na_Element_inside,_,rfl,?_⟩;ext;apply⟨fq Ea,_,_,_,vV,g.cl_Element,g.na_Element_depth,_,rfl,?_⟩;ext;intro ya yd uk pH OO;have ny:∀{b o},H b=some o->b≠ya:=λq=>af q uk;have Nv:∀{b o},H b=some o->b≠yd:=λq=>af q pH;have e2:(e.depth:Int)+1=((e.depth+1:Nat):Int):=by nofun
 rw[e2];apply⟨ya,yd,pl,3,e.depth+1,rfl,aa,λH3 N2 s3=>⟨rfl,?_⟩⟩;have ub:∀b o,H b=some o->H3 b=some o:=λb o q=>s3 b o (by rw[ae (ny q),ae (Nv q)];exact q) (ny q);apply⟨_,ub _ _ Ea,by rw[AF];exact cY (by nofun),?_⟩;have RG:ya≠e.li:=(ny Ea).symm;have Qv:pl≠e.li:=λq=>xB (q▸vU);apply k F _ ⟨ya,yd,pl,e.depth+1,3,e.tg, [],t,false⟩ ?_ (aS.refl F H) (λb o q n=>?_) rfl
 .refine T.leaf (aS.refl F H) he ⟨ya,yd,pl,e.depth+1,3,e.tg, [],t,false⟩ rfl (.inr rfl) (λq=>by cases q) (λb o q n=>?_) (λkids hk=>?_) ?_ ?_ (T.out uk) (λq=>by cases q) (λ_=>xB) (λb hb=> .inl hb)
  .rw[ae n];exact ub b o q
  .rw[Ea]at hk
   have e3:(aq e.depth (post++B)).map V.ref=kids.map V.ref:=by
    have:=AH hk;injection this
   rw[aa,e3];simp
  .rw[ae RG];exact N2
  .rw[ae Qv];exact ub _ _ nP
 .have nb:b≠e.li:=λq=>n (q▸vU);rw[ae nb];exact ub b o q
theorem wY {d:Nat}:∀{post:List ND} {a:Addr}, (∀m∈post,d<m.depth)->(aq d post).getLast? =some a->∃p1 n p2,post=p1++n::p2/\n.a=a/\n.depth=d+1/\∀m∈p2,d+1<m.depth
 |[],a,_,h=>by cases h
 |m::post,a,ho,h=>by
  have hm:=ho m (by simp);have rp:∀m∈post,d<m.depth:=λn hn=>ho n (by simp[hn]);rw[aq,iN (by nofun)]at h
  by_cases hk:aq d post=[]
  .by_cases h1:m.depth=d+1
   .rw[iP h1,hk]at h;apply⟨[],m,post,rfl,by simpa using h,h1,λn hn=>?_⟩
    have zV:∀(l:List ND), (∀m∈l,d<m.depth)->aq d l=[]->∀n∈l,d+1<n.depth:=by
     intro l
     induction l with
     |nil=>intro _ _ n hn;cases hn
     |cons c l ih=>
      intro hl hk n hn;have hc:=hl c (by simp);rw[aq,iN (by nofun)]at hk
      by_cases g9:c.depth=d+1
      .rw[iP g9]at hk;cases hk
      .rw[iN g9]at hk;rcases AG.mp hn with q|q
       .rw[q];lia
       .exact ih (λm hm=>hl m (by simp[hm])) hk n q
    exact zV post rp hk n hn
   .rw[iN h1,hk]at h;cases h
  .have h2:(aq d post).getLast? =some a:=by
    by_cases h1:m.depth=d+1
    .rw[iP h1]at h;cases hq:aq d post with
     |nil=>exact absurd hq hk
     |cons b l=>rw[hq,DI]at h;exact h
    .rw[iN h1]at h;exact h
   obtain⟨p1,n,p2,e,h3,h4,h5⟩:=wY rp h2;exact⟨m::p1,n,p2,by rw[e];rfl,h3,h4,h5⟩
theorem fY:∀{pre:List ND} {n:ND} {p2:List ND},wf (pre++n::p2)->n.kind≠1->(∀m∈p2,n.depth<m.depth)->p2=[]
 |[],n, [],_,_,_=>rfl
 |[],n,m::p2,h,hk,hd=>by
  have h1:=h.2.1 hk;have h2:=hd m (by simp);lia
 |[c],n,p2,h,hk,hd=>fY (pre:=[]) h.2.2 hk hd
 |c::c'::pre,n,p2,h,hk,hd=>fY (pre:=c'::pre) h.2.2 hk hd
theorem o5 {d:Nat} {n n':ND} (ha:n'.a=n.a) (hd:n'.depth=n.depth):∀r:List ND,aq d (r++[n'])=aq d (r++[n])
 |[]=>by rw[BA,BA,aq,aq,ha,hd];rfl
 |m::r=>by rw[AS,AS,aq,aq,o5 ha hd r]
theorem az.re {n n':ND} (ha:n'.a=n.a) (hd:n'.depth=n.depth) (kp:bc F H H') (hn:aQ g F H' n' []):∀{r:List ND},az g F H (r++[n])->(∀m∈r,∀o,H m.li=some o->H' m.li=some o)->(∀m∈r,m.kind=1->∀o,H m.tg.d=some o->H' m.tg.d=some o)->az g F H' (r++[n'])
 |[],_,_,_=>⟨hn,trivial⟩
 |m::r,h,hl,rq=>by
  apply⟨?_,az.re ha hd kp hn h.2 (λk hk=>hl k (by simp[hk])) λk hk=>rq k (by simp[hk])⟩;show aQ g F H' m (aq m.depth (r++[n']))
  rw[o5 ha hd];exact h.1.keep (aS.refl F H) kp (hl m (by simp)) (rq m (by simp))
theorem Jt {n n':ND} (hk:n'.kind=n.kind) (hd:n'.depth=n.depth):∀{r:List ND},wf (r++[n])->wf (r++[n'])
 |[],_=>trivial
 |[m],h=>⟨by rw[hd];exact h.1,by rw[hd];exact h.2.1,trivial⟩
 |m::k::r,h=>⟨h.1,h.2.1,Jt hk hd (r:=k::r) h.2.2⟩
theorem kj {A B:TT} {t u:TS} {D:Ends} {σ:St} (h:∀E:St->Hp->Prop,E=u D->A σ H λc H1=>if c=true then B σ H1 λc2 H2=>if c2=true then t D σ H2 else E σ H2 else E σ H1):Ft (Fv A B) t u D σ H:=h _ rfl
theorem iA {α:Type} {gh pre post:List α} {n m:α} (h:gh++[n]=pre++m::post) (dF:m≠n):∃eQ,post=eQ++[n]/\gh=pre++m::eQ:=by
 rcases B7 post with q|⟨p0,l,q⟩
 .subst q;have:=BP h rfl;simp at this;exact absurd this.symm dF
 .rw[B8]at q;subst q;have e:pre++m::(p0++[l])=(pre++m::p0)++[l]:=by simp
  rw[e]at h;have h2:=BP h rfl;have h3:=List.append_inj_left' h rfl;simp at h2;exact⟨p0,by rw[h2],h3⟩
theorem aA.regrow {z:aV} (T:aA g F H z) {gh:List ND} {n:ND} (uc:z.bs=gh++[n]) (hk:n.kind=2) (hm:n.mu=true) (bN:z.begun=true) (bF:Aa) (hp:bF≠[]):
  aA g F (upd H n.li (.lst (VL bF))) {z with bs:=gh++[{n with bF:=bF}]}:=by
 have fj:z.all=(z.eh::z.ed::(z.hs++z.eb::gh))++[n]:=by simp[aV.all,uc]
 have Je:n∈z.all:=by rw[fj];simp
 obtain⟨vs,hv⟩:=T.li Je;have mG:=T.nodes;rw[fj]at mG
 have NL:aQ g F H n []:=by
  have:=az.at_ (post:=[]) mG;exact this
 have lW:F n.li:=NL.fl hm
 have kp:bc F H (upd H n.li (.lst (VL bF))):=λb o q r=>by
  have nb:b≠n.li:=λz=>r (z▸lW);rw[ae nb];exact q
 have dF:∀m∈z.eh::z.ed::(z.hs++z.eb::gh),m.li≠n.li:=by
  intro m ox;have Ys:m∈z.all:=by rw[fj];simp at ox ⊢;rcases ox with q|q|q|q|q<;>simp[q]
  cases qm:m.mu with
  |false=>
   obtain⟨kids,hk⟩:=T.nodes.mem Ys;exact λq=>(hk.fu qm).1 (q▸lW)
  |true=>
   have lg:=(BD.mp T.nd).2;rw[fj,CC,AL]at lg;have h2:=(FT.mp lg).2.2;exact h2 m.li (BC.mpr ⟨m,A9.mpr ⟨ox,qm⟩,rfl⟩) n.li (BC.mpr ⟨n,A9.mpr ⟨by simp,hm⟩,rfl⟩)
 have gf:n.kind≠1:=by rw[hk];decide
 obtain⟨f7,xy,_⟩:=NL.lf gf;have XA:n.a≠n.li:=aE f7 xy (by intro q;cases q);have Xu:z.op≠n.li:=λq=>(BD.mp T.nd).1 (by rw[q];exact BC.mpr ⟨n,A9.mpr ⟨Je,hm⟩,rfl⟩);have Xt:z.p≠n.li:=aE T.ob xy (by intro q;cases q)
 have xA:aQ g F (upd H n.li (.lst (VL bF))) {n with bF:=bF} []:=
  aQ.mk (λ_=>lW) (λq=>by rw[hm]at q;cases q) NL.fa (λq=>absurd q gf) (λ_=>⟨by rw[ae XA];exact f7,aa,rfl⟩)
 have zZ:aV.all {z with bs:=gh++[{n with bF:=bF}]}=(z.eh::z.ed::(z.hs++z.eb::gh))++[{n with bF:=bF}]:=by simp[aV.all]
 have Fy:∀m,m∈z.hs++(gh++[{n with bF:=bF}])->(m∈z.hs++z.bs/\m∈z.hs++gh)\/m={n with bF:=bF}:=λm ox=>by
  rw[<-AZ]at ox;rcases AU.mp ox with q|q
  .exact .inl ⟨by rw[uc,<-AZ];exact C0 _ q,q⟩
  .exact .inr (by simpa using q)
 have pJ:n∈z.hs++z.bs:=by rw[uc];simp
 apply⟨by rw[ae Xt];exact T.ob,T.fp,by rw[ae Xu];exact T.op,T.fo,kp _ _ T.rm T.xD,T.xD,?_,?_,?_,T.rE,?_,?_,T.kh,T.kd,T.kb,T.dd,?_,T.dp,?_,?_,λx hx=>(T.rt x hx).keep (aS.refl F H) kp,?_,?_,?_⟩
 .rw[zZ];apply az.re (n:=n) (n':={n with bF:=bF}) rfl rfl kp xA mG (λm ox o q=>by rw[ae (dF m ox)];exact q) λm ox h1 o q=>?_;obtain⟨kv,hd⟩:=T.di (show m∈z.all by rw[fj];exact C0 _ ox) h1;rw[ae (aE hd xy (by intro q;cases q))];exact q
 .rw[zZ];have:=T.nd;rw[fj]at this;rw[CC]at this ⊢;rw[AL]at this ⊢;have e1:(FU (·.mu) [n]).map (·.li)=[n.li]:=by rw[DK hm];rfl
  have e2:(FU (·.mu) [({n with bF:=bF}:ND)]).map (·.li)=[n.li]:=by rw[DK (show({n with bF:=bF}:ND).mu=true from hm)];rfl
  rw[e2];rw[e1]at this;exact this
 .intro pre m post hE QO R7;have QN:m≠{n with bF:=bF}:=λq=>by rw[q]at R7;have:n.mu=false:=R7;rw[hm]at this;cases this
  rw[<-AZ]at hE;obtain⟨eQ,q1,q2⟩:=iA hE QN;exact T.raw pre m (eQ++[n]) (by rw[uc,<-AZ,q2];simp) QO R7
 .intro m ox h2;rcases Fy m ox with⟨q,_⟩|q
  .exact T.txt m q h2
  .rw[q];exact hp
 .intro m ox;rcases Fy m ox with⟨q,_⟩|q
  .exact T.knd m q
  .rw[q];exact T.knd n pJ
 .intro m ox h1;rcases Fy m ox with⟨q,_⟩|q
  .exact T.od m q h1
  .rw[q]at h1;exact absurd h1 gf
 .intro m ox;rcases Fy m ox with⟨q,_⟩|q
  .exact T.low m q
  .rw[q];exact T.low n pJ
 .intro m ox;obtain⟨h1, ⟨pre,post,e,ho⟩,h3⟩:=T.po m ox;apply⟨h1,?_,h3.keep (aS.refl F H) kp⟩;rw[uc]at e;obtain⟨eQ,q1,q2⟩:=iA e (λq=>by rw[q]at h1;exact gf h1);apply⟨pre,eQ++[{n with bF:=bF}],by rw[q2];simp,λk hk=>?_⟩;rcases AU.mp hk with r|r
  .exact ho k (by rw[q1];simp[r])
  .have:k={n with bF:=bF}:=by simpa using r
   rw[this];exact ho n (by rw[q1];simp)
 .rw[zZ];have:=T.wf;rw[fj]at this;exact Jt (n:=n) (n':={n with bF:=bF}) rfl rfl this
 .intro q;have:z.begun=false:=q;rw[bN]at this;cases this
 .intro b hb
  by_cases q:b=n.li
  .rw[q];exact⟨_,aa⟩
  .rw[ae q];exact T.uu b hb
def aV.txt (z:aV) (gh:List ND) (n:ND):Prop:=z.bs=gh++[n]/\n.kind=2/\n.depth=z.cur.depth+1
inductive sp_Tree_put_text (g:G w K mg) (vs:List V) (H:Hp) (Q:VK) (_:XK):Prop
 |i (F:Addr->Prop) (z:aV) (c:Nat) (_:vs=[.ref z.p,.int c]) (_:aA g F H z) (_:z.begun=true) (_:z.all.length<=900000) (_:(∀n∈z.bs,n.kind=2->n.bF.length<=900000)) (_:(∀gh n H',z.txt gh n->aA g F H' {z with bs:=gh++[{n with bF:=n.bF++[c]}]}->bc F H H'->Q .aY H')) (_:(∀(F':Addr->Prop) (H':Hp) (x:ND),¬(∃gh n,z.txt gh n)->aA g F' H' (z.plus [x])->aS F F' H->bc F H H'->x.node=⟨2,z.cur.depth+1, [], [], [c]⟩->Q .aY H'))
theorem ok_Tree_put_text (g:G w K mg):aI P w K mg base bO 3 g.Tree_put_text.f g.Tree_put_text.fd ["self","point"] (sp_Tree_put_text g):=by
 apply g.Tree_put_text.fn.bW sc_Tree_put_text λvs H Q E h=>?_;obtain⟨F,z,c,rfl,T,bN,hlen,nP,k1,k2⟩:=h;apply⟨rfl,λ_ _ _ _ hr=>?_⟩;apply⟨_,%[leftact% Tree_put_text 2 (unop% M.Tree_current (pv 0)),aw (PW.pt (bG (dP (ak (pv 2) rfl) (λ_=>rfl)) (a9 (binrel% op_eq (ak (rightact% aN (ak (pv 2) rfl) (dM cG (ag))) rfl) (g.c_TEXT.pe rfl))))) %[au (binop% B.append.aU (ak (rightact% aN (ak (pv 2) rfl) (dM cG (ag))) rfl) %[pv 1|a])|b] %[au (binop% B.append.aU (ak (pv 2) rfl) %[unop% N.Leaf_init %[g.c_TEXT.pe rfl,ay op_add (ak (pv 2) rfl) (ag),aM %[pv 1|a]|a]|a])|b]|b],?_⟩;obtain⟨NU,nJ,Us,pre,post,rl,ho,mj⟩:=T.fk;obtain⟨cw,Dz,vU⟩:=T.node rl NU;obtain⟨Jj,Jk,_⟩:=cw.el NU;apply g7 λR hR=>?_;ext;apply⟨_,_,T.ob,rfl,F,z,rfl,T,?_⟩;ext;subst hR
 have Sa:(aq z.cur.depth post).length<=900000:=by
  have h1:=eI z.cur.depth post;have h2:=congrArg BJ rl;rw[AB,AA]at h2;lia
 apply kj λE' Y8=>?_
 have other:¬(∃gh n,z.txt gh n)->E' [some (V.ref z.p),some (V.int (c:Int)),some (V.ref z.cur.a)] H:=by
  intro f7;subst Y8;ext;apply⟨_,_,_,Jj,g.cl_Element,g.na_Element_inside,_,rfl,?_⟩;ext;apply⟨fq Jk,_,_,_,Jj,g.cl_Element,g.na_Element_depth,_,rfl,?_⟩;ext;apply⟨by decide,λpl zC=>?_⟩;intro ya yd uk pH OO;have s0:=aj.upd (o:= .lst [V.int (c:Int)]) zC;have ny:∀{b o},H b=some o->b≠ya:=λq=>af (s0 _ _ q) uk;have Nv:∀{b o},H b=some o->b≠yd:=λq=>af (s0 _ _ q) pH;have Qu:pl≠ya:=af aa uk;have Tg:pl≠yd:=af aa pH;have e2:(z.cur.depth:Int)+1=((z.cur.depth+1:Nat):Int):=by nofun
  rw[e2];apply⟨ya,yd,pl,2,z.cur.depth+1,rfl,aa,λH3 N2 s3=>⟨rfl,?_⟩⟩;have ub:∀b o,H b=some o->H3 b=some o:=λb o q=>s3 b o (by rw[ae (ny q),ae (Nv q),ae (af q zC)];exact q) (ny q);have N3:H3 pl=some (.lst (VL [c])):=s3 pl _ (by rw[ae Qu,ae Tg,aa];rfl) Qu;apply⟨_,ub _ _ Jk,by rw[AF];exact cY (by nofun),?_⟩;have RG:ya≠z.cur.li:=(ny Jk).symm;have Qv:pl≠z.cur.li:=(af Jk zC).symm;have Ls:H ya=none:=by rw[ae Qu.symm]at uk;exact uk
  let F':Addr->Prop:=λb=>F b\/b=pl
  have gr:aS F F' H:=⟨λb h=> .inl h,λb h=>h.elim .inl λq=> .inr (q▸zC)⟩
  apply k2 F' _ ⟨ya,yd,pl,z.cur.depth+1,2,z.cur.tg, [], [c],true⟩ f7 ?_ gr (λb o q n=>?_) rfl
  .refine T.leaf gr (e:=z.cur) (by rw[iP bN]) ⟨ya,yd,pl,z.cur.depth+1,2,z.cur.tg, [], [c],true⟩ rfl (.inl ⟨rfl,rfl⟩) (λ_=>by simp) (λb o q n=>?_) (λkids hk=>?_) ?_ ?_ (λq=>Or.elim q (T.out Ls) (λr=>Qu r.symm)) (λ_=>⟨.inr rfl,zC⟩) (λq=>nomatch q) (λb hb=>?_)
   .rw[ae n];exact ub b o q
   .rw[Jk]at hk
    have e3:(aq z.cur.depth post).map V.ref=kids.map V.ref:=by
     have:=AH hk;injection this
    rw[aa,e3];simp
   .rw[ae RG];exact N2
   .rw[ae Qv];exact N3
   .rcases hb with q|q
    .exact .inl q
    .refine .inr ⟨.lst (VL [c]),?_⟩;rw[q,ae Qv];exact N3
  .have nb:b≠z.cur.li:=λq=>n (q▸vU);rw[ae nb];exact ub b o q
 ext;apply⟨_,_,_,Jj,g.cl_Element,g.na_Element_inside,_,rfl,?_⟩;apply⟨_,.inl ⟨_,aL.of Jk,rfl⟩,?_⟩
 by_cases hT:∃gh n,z.txt gh n
 .obtain⟨gh,n,uc,hk,hd⟩:=hT;have gf:n.kind≠1:=by rw[hk];decide
  have gm:pre++z.cur::post=(z.eh::z.ed::(z.hs++z.eb::gh))++[n]:=by rw[<-rl];simp[aV.all,uc]
  obtain⟨eQ,q1,q2⟩:=iA gm.symm (λq=>by rw[q]at NU;exact gf NU)
  have iZ:aq z.cur.depth post=aq z.cur.depth eQ++[n.a]:=by
   rw[q1,bK _ _ _ λm hm=>ho m (by rw[q1];simp[hm])];congr 1;rw[aq,iN (by lia),iP hd];rfl
  have Je:n∈z.all:=by simp[aV.all,uc]
  obtain⟨kids,NO⟩:=T.nodes.mem Je;obtain⟨f7,xy,_⟩:=NO.lf gf
  have OU:n.mu=true:=by
   cases q:n.mu with
   |true=>rfl
   |false=>
    obtain⟨ll,x,a1,a2,a3,a4⟩:=T.raw (z.hs++gh) n [] (by rw[uc];simp) hk q
    have hx:∃l,pre++z.cur::eQ=l++[x]:=by
     have e1:pre++z.cur::eQ=z.eh::z.ed::(z.hs++z.eb::gh):=q2.symm;rcases B7 gh with r|⟨b1,l1,r⟩
     .subst r;rw[A6]at a1;exfalso;have y8:2<x.depth:=T.low x (by rw[a1];simp);have e8:pre++z.cur::eQ=(z.eh::z.ed::z.hs)++[z.eb]:=by rw[e1];simp
      have g8:z.cur.depth=2:=by
       rcases B7 eQ with r|⟨b1,l1,r⟩
       .subst r;have:=BP e8 rfl;have h6:z.cur=z.eb:=by simpa using this
        rw[h6,T.kb.2.1]
       .rw[B8]at r;subst r;have e7:pre++z.cur::(b1++[l1])=(pre++z.cur::b1)++[l1]:=by simp
        rw[e7]at e8;have:=BP e8 rfl;have h6:l1=z.eb:=by simpa using this
        have h7:=ho l1 (by rw[q1];simp);rw[h6,T.kb.2.1]at h7;lia
      lia
     .rw[B8]at r;subst r;rw[<-AZ]at a1;have:=BP a1 rfl;have h5:l1=x:=by simpa using this
      exact⟨z.eh::z.ed::(z.hs++z.eb::b1),by rw[e1,h5];simp⟩
    obtain⟨l,hl⟩:=hx;rcases B7 eQ with r|⟨b1,l1,r⟩
    .subst r;have:=BP hl rfl;have h6:z.cur=x:=by simpa using this
     rw[<-h6]at a4;have Sk:=z.lQ
     have Uq:z.cur∈z.eb::z.path:=by
      unfold aV.cur;exact HW _
     rcases AG.mp Uq with q|q
     .rw[q,T.kb.2.2.1]at a4;exact absurd a4 nofun
     .rw[T.rE _ q]at a4;cases a4
    .rw[B8]at r;subst r;have e7:pre++z.cur::(b1++[l1])=(pre++z.cur::b1)++[l1]:=by simp
     rw[e7]at hl;have:=BP hl rfl;have h6:l1=x:=by simpa using this
     have:=ho l1 (by rw[q1];simp);rw[h6]at this;lia
  rw[iZ];apply rj (by simp) ?_;apply⟨_,_,_,Jj,g.cl_Element,g.na_Element_inside,_,rfl,?_⟩;ext
  have xC:qZ ((aq z.cur.depth eQ++[n.a]).map V.ref) (-1)=some (V.ref n.a):=by
   rw[AL];exact jr _ _
  have LG:=Jk;rw[iZ]at LG;apply⟨_,aL.of LG,_,xC,?_⟩;ext;apply⟨_,_,_,f7,g.cl_Leaf,g.na_Leaf_kind,_,rfl,?_⟩;ext;apply rj (by rw[hk];rfl) ?_;apply⟨_,_,_,Jj,g.cl_Element,g.na_Element_inside,_,rfl,?_⟩;ext;apply⟨_,aL.of LG,_,xC,?_⟩;ext;apply⟨_,_,_,f7,g.cl_Leaf,g.na_Leaf_points,_,rfl,?_⟩;ext;apply⟨fq xy,_,xy,by rw[ax];have:=nP n (by rw[uc];simp) hk;exact cY (by nofun),?_⟩;have ev:VL n.bF++[V.int (c:Int)]=VL (n.bF++[c]):=by rw[bh];rfl
  rw[ev];have lW:F n.li:=NO.fl OU
  exact k1 gh n _ ⟨uc,hk,hd⟩ (T.regrow uc hk OU bN (n.bF++[c]) (by simp)) λb o q r=>by
   have nb:b≠n.li:=λz=>r (z▸lW);rw[ae nb];exact q
 .refine bb (λdF=>?_) (λdF=>other hT);cases NM:(aq z.cur.depth post).getLast? with
  |none=>
   have:aq z.cur.depth post=[]:=by simpa using NM
   rw[this]at dF;simp at dF
  |some a=>
   obtain⟨p1,n,p2,e1,h1,h2,h3⟩:=wY ho NM;have Je:n∈z.all:=by rw[rl,e1];simp
   obtain⟨kids,NO⟩:=T.nodes.mem Je;have xC:qZ ((aq z.cur.depth post).map V.ref) (-1)=some (V.ref n.a):=Bf (by rw[HJ,NM,h1];rfl)
   have QK:n.kind≠2:=λhk=>hT (by
    have gf:n.kind≠1:=by rw[hk];decide
    have eK:p2=[]:=by
     have:=T.wf;rw[rl,e1]at this;exact fY (pre:=pre++z.cur::p1) (by simpa using this) gf λm hm=>by have:=h3 m hm;lia
    subst eK
    have gm:(pre++z.cur::p1)++[n]=z.eh::z.ed::(z.hs++z.eb::z.bs):=by
     have:z.all=(pre++z.cur::p1)++[n]:=by rw[rl,e1];simp
     exact this.symm
    rcases B7 z.bs with r|⟨b1,l1,r⟩
    .rw[r]at gm;have e9:z.eh::z.ed::(z.hs++[z.eb])=(z.eh::z.ed::z.hs)++[z.eb]:=by simp
     rw[e9]at gm;have:=BP gm rfl;have h6:n=z.eb:=by simpa using this
     rw[h6]at gf;exact absurd T.kb.1 gf
    .rw[B8]at r;rw[r]at gm;have e9:z.eh::z.ed::(z.hs++z.eb::(b1++[l1]))=(z.eh::z.ed::(z.hs++z.eb::b1))++[l1]:=by simp
     rw[e9]at gm;have:=BP gm rfl;have h6:n=l1:=by simpa using this
     exact⟨b1,n,by rw[r,h6],hk,h2⟩)
   apply⟨_,_,_,Jj,g.cl_Element,g.na_Element_inside,_,rfl,?_⟩;ext;apply⟨_,aL.of Jk,_,xC,?_⟩;ext
   by_cases gf:n.kind=1
   .refine⟨_,_,_, (NO.el gf).1,g.cl_Element,g.na_Element_kind,_,rfl,?_⟩;ext;exact nN nofun (other hT)
   .refine⟨_,_,_, (NO.lf gf).1,g.cl_Leaf,g.na_Leaf_kind,_,rfl,?_⟩;ext;exact nN (by lia) (other hT)
def Sz (s:a8):Nat:=s.head.length+(s.body.map λn=>n.text.length+1).sum
def dX (s:a8):List Aa:=aG "html"::(s.open_.map (·.1)).reverse
theorem ql:∀l:List Ro,l.length<=(l.map λn=>n.text.length+1).sum
 |[]=>AE _
 |n::l=>by rw[AI,FY,AA];have:=ql l;lia
theorem wB:∀{l:List Ro} {n:Ro},n∈l->n.text.length<=(l.map λn=>n.text.length+1).sum
 |m::l,n,h=>by
  rw[AI,FY];rcases AG.mp h with e|e
  .rw[e];lia
  .have:=wB e;lia
structure Bd (s:a8):Prop where
 deep:s.open_.length<=198
 cq:s.again.length<=8
 body:∃l,s.open_=l++[(aG "body", [])]
 ij:∀x∈s.again,x.1∈zr
theorem lM (ws:List Aa):∀l:List uh,g0 l (c5 ws) nL=(l.map (·.1)).findIdx? λn=>ws.contains n
 |[]=>rfl
 |x::l=>by
  rw[g0,AI,D9,lM ws l];unfold c5 nL
  split<;>rfl
theorem fI (ws:List Aa) (s:a8):cP (λn=>ws.contains n) (dX s)=match g0 s.open_ (c5 ws) nL with|some k=>(s.open_.length:Int)-k|none=>if ws.contains (aG "html")=true then 0 else-1:=by
 unfold cP dX;rw[lM,BQ,CP,List.findIdx?_append];have hl:((aG "html"::(s.open_.map (·.1)).reverse).length:Int)-1=s.open_.length:=by simp
 cases h:(s.open_.map (·.1)).findIdx? λn=>ws.contains n with
 |some k=>
  show((aG "html"::(s.open_.map (·.1)).reverse).length:Int)-1-k=_
  rw[hl]
 |none=>
  simp only[Option.none_or,D9,List.findIdx?_nil]
  by_cases hh:ws.contains (aG "html")=true
  .rw[iP hh,iP hh];simp
  .rw[iN hh,iN hh];simp
theorem oM (nm:Aa):∀(l:List uh) (r:List Aa), (∃l',l=l'++[(aG "body", [])])->gj nm (l.map (·.1)++r)=g0 l (c5 [nm]) (c5 fh)
 |[],_, ⟨l',h⟩=>by simp at h
 |x::l,r, ⟨l',h⟩=>by
  rw[AI,AS,gj,g0]
  have e1:c5 [nm] x=decide (x.1=nm):=by
   unfold c5;rw[BE,BZ,BY]
   by_cases q:x.1=nm
   .rw[q];simp
   .rw[decide_eq_false q];exact beq_eq_false_iff_ne.mpr q
  rw[e1]
  by_cases q:x.1=nm
  .rw[iP q,iP (decide_eq_true q)]
  .rw[decide_eq_false q,iN q,iN (show¬(false=true) by decide)];have e2:c5 fh x=fh.contains x.1:=rfl;rw[e2]
   by_cases hw:fh.contains x.1=true
   .rw[iP hw,iP hw]
   .rw[iN hw,iN hw,oM nm l r ?_];cases l' with
    |nil=>
     exfalso;rw[BA]at h;injection h with h1 _;rw[h1]at hw;exact hw nofun
    |cons y l'=>
     rw[AS]at h;injection h with _ h2;exact⟨l',h2⟩
theorem sj (nm:Aa) (s:a8) (hb:Bd s):dj nm (dX s)=match g0 s.open_ (c5 [nm]) (c5 fh)with|some k=>(s.open_.length:Int)-k|none=> -1:=by
 unfold dj dX;rw[BQ,CP,oM nm _ _ hb.body];have hl:((aG "html"::(s.open_.map (·.1)).reverse).length:Int)-1=s.open_.length:=by simp
 cases g0 s.open_ (c5 [nm]) (c5 fh)with
 |none=>rfl
 |some k=>
  show((aG "html"::(s.open_.map (·.1)).reverse).length:Int)-1-k=_
  rw[hl]
theorem Rel.names {z:aV} (R:Rel z s) (T:aA g F H z):z.names=dX s:=by
 unfold aV.names aV.du dX;rw[R.du,AI,AI,T.kh.2.2.1,T.kb.2.2.1];simp
theorem Rel.len {z:aV} (R:Rel z s):s.open_.length=z.path.length+1:=by rw[R.du];simp
theorem Rel.size {z:aV} (R:Rel z s):z.all.length<=Sz s+3:=by
 have h1:=congrArg BJ R.head;have h2:=congrArg BJ R.body;have h3:=ql s.body;unfold Sz aV.all;simp at h1 h2 ⊢;lia
theorem Rel.cur {z:aV} (R:Rel z s) (T:aA g F H z):z.cur.tg.name=y0 s:=by
 unfold y0
 have:s.open_.head? =some (z.cur.tg.name,if z.path=[]then []else z.cur.at_):=by
  rw[R.du];rcases B7 z.path with q|⟨l,x,q⟩
  .have ec:z.cur=z.eb:=by unfold aV.cur;simp[q]
   rw[ec,T.kb.2.2.1,q];rfl
  .rw[B8]at q
   have ec:z.cur=x:=by
    have h1:=z.jo;unfold aV.du at h1;rw[q,show z.eh::z.eb::(l++[x])=(z.eh::z.eb::l)++[x]from rfl,List.getLast?_concat]at h1;exact(AH h1).symm
   rw[ec,q];simp
 cases h:s.open_ with
 |nil=>rw[h]at this;cases this
 |cons y l=>
  rw[h]at this;have:y=_:=AH this;rw[this];rfl
inductive cz (g:G w K mg) (F:Addr->Prop) (H:Hp) (p:Addr) (s:a8):Prop
 |i (z:aV) (_:z.p=p) (_:aA g F H z) (_:Rel z s) (_:Bd s)
theorem yb {z z':aV} (R:Rel z s) (hb:Bd s) (T:aA g F H z) (k:Nat) (hk:k+1<s.open_.length) (he:z'={z with op:=z'.op,rm:=z'.rm,path:=z.path.take (s.open_.length-k-2),rem:=cU z.rem (z.path.drop (s.open_.length-k-2))}):
  Rel z' (uw s k)/\Bd (uw s k):=by
 have hl:=R.len;have hj:s.open_.length-k-2=z.path.length-(k+1):=by lia
 rw[hj]at he;have Z3:(z.path.map λn=>(n.tg.name,n.at_)).reverse.length=z.path.length:=by simp
 have Kj:s.open_.take (k+1)=((z.path.drop (z.path.length-(k+1))).map λn=>(n.tg.name,n.at_)).reverse:=by
  rw[R.du,DM (by simp;lia),HK,CT];simp
 have Ki:s.open_.drop (k+1)=((z.path.take (z.path.length-(k+1))).map λn=>(n.tg.name,n.at_)).reverse++[(aG "body", [])]:=by
  rw[R.du,DN (by simp;omega),List.drop_reverse,CJ];simp
 have dW:(s.open_.take (k+1)).any (c5 fh)=(z.path.drop (z.path.length-(k+1))).any λn=>fh.contains n.tg.name:=by
  rw[Kj,HV,GC];rfl
 have YD:(s.open_.take (k+1)).take k=(((z.path.drop (z.path.length-(k+1))).drop 1).map λn=>(n.tg.name,n.at_)).reverse:=by
  rw[Kj,HK,CT];congr 2;simp;lia
 have zy:(((s.open_.take (k+1)).take k).filter (c5 zr)).reverse=(((z.path.drop (z.path.length-(k+1))).drop 1).filter λn=>zr.contains n.tg.name).map λn=>(n.tg.name,n.at_):=by
  rw[YD,List.filter_reverse,CP,GO];rfl
 have Nd:(uw s k).again=(cU z.rem (z.path.drop (z.path.length-(k+1)))).map λx=>(x.1.name,x.2):=by
  unfold uw cU;simp only[dW,zy]
  by_cases hw:((z.path.drop (z.path.length-(k+1))).any λn=>fh.contains n.tg.name)=true
  .rw[iP hw,iP hw];rfl
  .rw[iN hw,iN hw,R.again,CT,AL,BR];simp[Function.comp_def]
 rw[he];apply⟨⟨R.head,R.body,Ki,Nd,R.begun,R.hA,R.dA,R.bA,R.fresh⟩, ⟨?_,?_,?_,?_⟩⟩
 .show(s.open_.drop (k+1)).length<=198
  have:=hb.deep;rw[AM];nofun
 .unfold uw;simp only
  split
  .simp
  .rw[AM];omega
 .exact⟨_,Ki⟩
 .intro x hx;unfold uw at hx;simp only at hx
  split at hx
  .cases hx
  .rcases AU.mp (BH hx)with q|q
   .exact hb.ij x q
   .have:=(A9.mp (HX.mp q)).2;unfold c5 at this;exact DU.mp this
theorem Bt {l:List (TG×List cO)} (h:l.length<=8):cU l []=l:=by
 have h0:l.length-8=0:=by omega
 simp[cU,h0]
theorem dO (hT:cz g F H p s) (bN:s.begun=true) (k:Nat) (hk:k+1<s.open_.length) (q:∀(F':Addr->Prop) (H':Hp),cz g F' H' p (uw s k)->aS F F' H->bc F H H'->Q .aY H'):
  sp_Tree_close g [.ref p,.int ((s.open_.length:Int)-k)] H Q E:=by
 obtain⟨z,rfl,T,R,hb⟩:=hT;have hl:=R.len;have hr:=congrArg BJ R.again;rw[AF]at hr;have:=hb.cq;have:=hb.deep;apply⟨F,z,_,rfl,T,by lia,by lia,.inr ⟨s.open_.length-k,by lia,by lia,by lia,by rw[<-R.begun];exact bN,λF' H' z' T' gr kp he=>?_⟩⟩;obtain⟨R',rA⟩:=yb R hb T k hk he;exact q F' H' ⟨z',by rw[he],T',R',rA⟩ gr kp
theorem xX (hT:cz g F H p s) (bN:s.begun=true) (q:∀(F':Addr->Prop) (H':Hp),cz g F' H' p s->aS F F' H->bc F H H'->Q .aY H'):
  sp_Tree_close g [.ref p,.int ((s.open_.length:Int)+1)] H Q E:=by
 obtain⟨z,rfl,T,R,hb⟩:=hT;have hl:=R.len;have hr:=congrArg BJ R.again;rw[AF]at hr;have:=hb.cq;have:=hb.deep;apply⟨F,z,_,rfl,T,by lia,by lia,.inr ⟨s.open_.length+1,by nofun,by lia,by lia,by rw[<-R.begun];exact bN,λF' H' z' T' gr kp he=>?_⟩⟩;rw[AK (by lia),AQ (by omega),Bt (by lia)]at he;apply q F' H' ⟨z',by rw[he],T',?_,hb⟩ gr kp;rw[he];exact⟨R.head,R.body,R.du,R.again,R.begun,R.hA,R.dA,R.bA,R.fresh⟩
theorem oQ (hT:cz g F H p s) (q:Q .aY H):sp_Tree_close g [.ref p,.int (-1)] H Q E:=by
 obtain⟨z,rfl,T,R,hb⟩:=hT;have hl:=R.len;have hr:=congrArg BJ R.again;rw[AF]at hr;have:=hb.cq;have:=hb.deep;exact⟨F,z,_,rfl,T,by omega,by omega,.inl ⟨rfl,q⟩⟩
theorem dz (hT:cz g F H p s) (q:∀a dx d tg li,H a=some (.ins g.k_Element dx (hG d tg (W (y0 s)) li))->d=s.open_.length+1->Q (.ref a) H):sp_Tree_current g [.ref p] H Q E:=by
 obtain⟨z,rfl,T,R,hb⟩:=hT;apply⟨F,z,rfl,T,q z.cur.a z.cur.dx z.cur.depth z.cur.tg.a z.cur.li ?_ (T.fk.2.1.trans (by rw[R.len]))⟩;have:=(T.elem z.lQ).1;rw[R.cur T]at this;exact this
theorem c8 {p b:Addr} {ws:List Aa} (hT:cz g F H p s) (hb:bC K H b (WS ws)) (q:Q (.int (cP (λn=>ws.contains n) (dX s))) H):sp_Tree_nearest g [.ref p,.ref b] H Q E:=by
 obtain⟨z,rfl,T,R,NW⟩:=hT;have:=NW.deep;have:=R.len;exact⟨F,z,b,ws,rfl,T,hb,by lia,by rw[R.names T];exact q⟩
theorem mJ {nm:Aa} (hT:cz g F H p s) (q:Q (.int (dj nm (dX s))) H):sp_Tree_within_walls g [.ref p,.str (W nm)] H Q E:=by
 obtain⟨z,rfl,T,R,NW⟩:=hT;exact⟨F,z,nm,rfl,T,by rw[R.names T];exact q⟩
def bX (s:a8) (name:Aa) (a:List cO) (sh:Bool) (text:Aa):a8×Bool:=
 if oC s<=199 then
  if(!(sh||y3.contains name||lj.contains name))=true then(nK s name a,true)
  else({s with body:=(if text=[]then []else [⟨2,oC s+1, [], [],text⟩])++⟨1,oC s,name,a, []⟩::s.body},false)
 else(s,false)
theorem x5:∀n∈zr,y3.contains n=false/\lj.contains n=false/\fh.contains n=false:=by decide+kernel
def cg (g:G w K mg) (F:Addr->Prop) (H:Hp) (p:Addr) (s:a8) (Q:VK) (v:V):Prop:=∀(F':Addr->Prop) (H':Hp),cz g F' H' p s->aS F F' H->bc F H H'->Q v H'
theorem aS.trans {F F1 F2:Addr->Prop} {H H1:Hp} (a:aS F F1 H) (k:∀b,H1 b=none->H b=none) (b:aS F1 F2 H1):aS F F2 H:=
 ⟨λc h=>b.1 c (a.1 c h),λc h=>(b.2 c h).elim (a.2 c) λq=> .inr (k c q)⟩
theorem cz.uu (h:cz g F H p s) {b:Addr} (hb:F b):∃o,H b=some o:=by
 obtain⟨z,_,T,_⟩:=h;exact T.uu b hb
theorem gz (h:cz g F' H' p s) (gr:aS F F' H) (kp:bc F H H') {b:Addr} (hb:H' b=none):H b=none:=by
 cases q:H b with
 |none=>rfl
 |some o=>
  by_cases hf:F b
  .obtain⟨o',e⟩:=h.uu (gr.1 b hf);rw[hb]at e;cases e
  .rw[kp b o q hf]at hb;cases hb
theorem cg.after {F F1:Addr->Prop} {H H1:Hp} {s s1:a8} {v:V} (h:cg g F H p s Q v) (h1:cz g F1 H1 p s1) (gr:aS F F1 H) (kp:bc F H H1):cg g F1 H1 p s Q v:=λF' H' hT zi Kv=>
 h F' H' hT (gr.trans (λ_ q=>gz h1 gr kp q) zi) (kp.trans gr Kv)
theorem cg.same {H H1:Hp} {v:V} (h:cg g F H p s Q v) (s1:aj H H1):cg g F H1 p s Q v:=λF' H' hT zi Kv=>
 h F' H' hT ⟨zi.1,λb q=>(zi.2 b q).imp id λz=>s1.free z⟩ (λb o e n=>Kv b o (s1 b o e) n)
theorem aA.same {H H1:Hp} {z:aV} (T:aA g F H z) (s1:aj H H1):aA g F H1 z:=by
 have:=T.zL (aS.refl F H) (aj.keep s1 F) (λn hn o q=>s1 _ _ q) (λn hn _ o q=>s1 _ _ q) z.op z.rm z.path z.rem z.begun (s1 _ _ T.ob) (s1 _ _ T.op) T.fo (s1 _ _ T.rm) T.xD (λn hn q=>?_) (λn hn=>⟨T.po n hn,T.rE n hn⟩) T.dp T.rt T.nb (λb hb=>by obtain⟨o,e⟩:=T.uu b hb;exact⟨o,s1 _ _ e⟩)
 .exact this
 .cases hm:n.mu with
  |true=>exact(BD.mp T.nd).1 (by rw[q];exact BC.mpr ⟨n,A9.mpr ⟨hn,hm⟩,rfl⟩)
  |false=>
   obtain⟨kids,hk⟩:=T.nodes.mem hn;exact(hk.fu hm).1 (q▸T.fo)
theorem cz.same {H H1:Hp} (h:cz g F H p s) (s1:aj H H1):cz g F H1 p s:=by
 obtain⟨z,e,T,R,b⟩:=h;exact⟨z,e,T.same s1,R,b⟩
theorem pV {tg:TG} {a:List cO} {text:Aa} (hT:cz g F H p s) (bN:s.begun=true) (hP:d4 g F H tg a text) (hS:Sz s<=800000)
  (q:cg g F H p (bX s tg.name a tg.sh text).1 Q (.bl (bX s tg.name a tg.sh text).2)):sp_Tree_put g [.ref p,.ref tg.a] H Q E:=by
 obtain⟨z,rfl,T,R,hb⟩:=hT;have hl:=R.len;have hsz:=R.size;have K1:=hb.deep;have hd:oC s=z.path.length+3:=by unfold oC;lia
 have ze:z.begun=true:=by rw[<-R.begun];exact bN
 have nJ:=T.fk.2.1;apply⟨F,z,tg,a,text,rfl,T,ze,hP,by lia,by lia,λh1=>?_,λF' H' x dZ h1 h2 T' gr kp M=>?_,λF' H' x ka h1 h2 h3 T' gr kp M=>?_⟩
 .have e:bX s tg.name a tg.sh text=(s,false):=by unfold bX;rw[iN (by lia)]
  rw[e]at q;exact q F H ⟨z,rfl,T,R,hb⟩ (aS.refl F H) (bc.refl F H)
 .have e:bX s tg.name a tg.sh text=({s with body:=(if text=[]then []else [⟨2,oC s+1, [], [],text⟩])++⟨1,oC s,tg.name,a, []⟩::s.body},false):=by
   unfold bX;have yX:(!(tg.sh||y3.contains tg.name||lj.contains tg.name))=false:=h2;rw[iP (by lia),yX,iN nofun]
  rw[e]at q;apply q F' H' ⟨{z with bs:=z.bs++x::dZ},rfl,T', ⟨R.head,?_,R.du,R.again,R.begun,R.hA,R.dA,R.bA,R.fresh⟩, ⟨hb.deep,hb.cq,hb.body,hb.ij⟩⟩ gr kp;show _=((z.bs++x::dZ).map ND.node).reverse
  have hx:x.node=⟨1,oC s,tg.name,a, []⟩:=by
   unfold ND.node;rw[iP M.xk,M.xd,M.xt,M.xa,nJ,hd]
  have NN:(dZ.map ND.node).reverse=if text=[]then []else [⟨2,oC s+1, [], [],text⟩]:=by
   rcases M.lf with⟨q1,q2⟩|⟨y,q1,q2,pH,xx,hyp,_⟩
   .rw[q1,iP q2];rfl
   .rw[q1,iN q2];show [ND.node y]=_
    unfold ND.node;rw[iN (by rw[xx];decide),xx,pH,hyp,nJ,hd]
  rw[AL,BL,AI,BQ,NN,hx,R.body];simp
 .subst h3;have YI:oC s<=S2:=by unfold S2;omega
  have e:bX s tg.name a tg.sh []=(nK s tg.name a,true):=by
   unfold bX;have yX:(!(tg.sh||y3.contains tg.name||lj.contains tg.name))=true:=h2;rw[iP (by nofun),yX,iP rfl]
  rw[e]at q
  have e2:nK s tg.name a={s with body:=⟨1,oC s,tg.name,a, []⟩::s.body,open_:=(tg.name,a)::s.open_,again:=if fh.contains tg.name=true then []else s.again}:=by
   unfold nK;rw[iP YI]
  have hx:x.node=⟨1,oC s,tg.name,a, []⟩:=by
   unfold ND.node;rw[iP M.xk,M.xd,M.xt,M.xa,nJ,hd]
  apply q F' H' ⟨{z with bs:=z.bs++[x],path:=z.path++[x],rm:=ka,rem:=if fh.contains tg.name then []else z.rem},rfl,T',?_,?_⟩ gr kp
  .rw[e2];apply⟨R.head,?_,?_,?_,R.begun,R.hA,R.dA,R.bA,R.fresh⟩
   .show _=((z.bs++[x]).map ND.node).reverse
    rw[AL,BL,R.body];show _::_=[x.node]++_
    rw[hx];rfl
   .show _=((z.path++[x]).map λn=>(n.tg.name,n.at_)).reverse++_
    rw[AL,BL,R.du];show _::_=[(x.tg.name,x.at_)]++_++_
    rw[M.xt,M.xa];rfl
   .show(if _ then _ else _)=D6 _ (if _ then _ else _)
    split
    .rfl
    .exact R.again
  .rw[e2];apply⟨?_,?_,?_,λy hy=>?_⟩
   .show(s.open_.length+1)<=198
    lia
   .show(if _ then _ else _:List uh).length<=8
    split
    .simp
    .exact hb.cq
   .obtain⟨l,hl⟩:=hb.body;exact⟨(tg.name,a)::l,by show(tg.name,a)::s.open_=_;rw[hl];rfl⟩
   .have hy:y∈(if _ then _ else _:List uh):=hy
    split at hy
    .cases hy
    .exact hb.ij y hy
theorem pF (s:a8) (n:Aa) (a:List cO):Sz (nK s n a)<=Sz s+1:=by
 unfold nK Sz
 split
 .simp;lia
 .nofun
theorem jz (s:a8) (n:Aa) (a:List cO):(nK s n a).begun=s.begun:=by
 unfold nK
 split<;>rfl
def bo (s:a8) (ws:List Aa):a8:=if ws.contains (y0 s)=true then uw s 0 else s
theorem Bd.cur (hb:Bd s) (h:s.open_.length<2):y0 s=aG "body":=by
 obtain⟨l,e⟩:=hb.body;cases l with
 |nil=>unfold y0;rw[e];rfl
 |cons x l=>rw[e]at h;simp at h;lia
inductive Ob (g:G w K mg) (H:Hp) (p:Addr) (s:a8):Prop
 |i (dx eh ed eb op rm:Addr) (_:H p=some (.ins g.k_Tree dx (ba eh ed eb op s.begun rm))) (ns:List Addr) (_:H op=some (.lst (ns.map V.ref))) (_:ns.length=s.open_.length+1)
theorem cz.ob (h:cz g F H p s):Ob g H p s:=by
 obtain⟨z,rfl,T,R,hb⟩:=h;apply⟨_,_,_,_,_,_,by rw[R.begun];exact T.ob,z.du.map (·.a),by rw[T.op,BR];rfl,?_⟩;rw[R.len];simp[aV.du]
theorem cz.bd (h:cz g F H p s):Bd s:=by
 obtain⟨z,rfl,T,R,hb⟩:=h;exact hb
theorem cz.out (hT:cz g F H p s) {b:Addr} (h:H b=none):¬F b:=by
 obtain⟨z,rfl,T,R,hb⟩:=hT;exact T.out h
theorem cg.now {v:V} (h:cg g F H p s Q v) (hT:cz g F H p s):Q v H:=h F H hT (aS.refl F H) (bc.refl F H)
inductive sp_Tree_close_current (g:G w K mg) (vs:List V) (H:Hp) (Q:VK) (_:XK):Prop
 |i (F:Addr->Prop) (p b:Addr) (s:a8) (ws:List Aa) (_:vs=[.ref p,.ref b]) (_:cz g F H p s) (_:s.begun=true) (_:bC K H b (WS ws)) (_:ws.contains (aG "body")=false) (_:cg g F H p (bo s ws) Q .aY)
theorem ok_Tree_close_current (g:G w K mg):aI P w K mg base bO 2 g.Tree_close_current.f g.Tree_close_current.fd ["self","words"] (sp_Tree_close_current g):=by
 apply g.Tree_close_current.fn.bW sc_Tree_close_current λvs H Q E h=>?_;obtain⟨F,p,b,s,ws,rfl,hT,bN,hb,Eu,k⟩:=h;apply⟨rfl,λ_ _ _ _ hr=>?_⟩;apply⟨_,%[aw (binrel_no_prop% op_in_seq (ak (unop% M.Tree_current (pv 0)) rfl) (pv 1)) %[au (binop% Tree_close (pv 0) %[ay op_sub (unop% L.n (ak (pv 0) rfl)) (ag)|a])|b] %[|b]|b],?_⟩;obtain⟨dx,eh,ed,eb,op,rm,a6,ns,fw,lE⟩:=hT.ob;ext;apply⟨_,_,a6,rfl,dz hT λa dx d tg li ha _=>?_⟩;ext;apply⟨_,_,_,ha,g.cl_Element,g.na_Element_word,_,rfl,?_⟩;ext;apply cM hb ?_;apply bb (λh0=>?_) (λh0=>?_)
 .ext
  have h2:1<s.open_.length:=by
   by_cases q:1<s.open_.length
   .exact q
   .rw[hT.bd.cur (by nofun),Eu]at h0;cases h0
  apply⟨_,_,a6,rfl,_,_,_,a6,g.cl_Tree,g.na_Tree_opened,_,rfl,?_⟩;ext;apply⟨_,.inl (aL.of fw),?_⟩;have e:((ns.map V.ref).length:Int)-1=(s.open_.length:Int)-(0:Nat):=by rw[AF,lE];lia
  rw[e];apply dO hT bN 0 h2 ?_;have ec:bo s ws=uw s 0:=iP h0;rw[ec]at k;exact k
 .have ec:bo s ws=s:=iN h0;rw[ec]at k;exact k.now hT
theorem fU {p h:uh->Bool}:∀{l:List uh} {k:Nat},g0 l p h=some k->k<l.length
 |[],_,q=>by cases q
 |x::l,k,q=>by
  rw[g0]at q
  split at q
  .cases q;simp
  .split at q
   .cases q
   .cases h2:g0 l p h with
    |none=>rw[h2]at q;cases q
    |some j=>rw[h2]at q;cases q;have:=fU h2;simp;nofun
theorem bC.same {K:AD} {H H1:Hp} {a:Addr} {xs:List V} (h:bC K H a xs) (s:aj H H1):bC K H1 a xs:=by
 rcases h with(h|⟨o,h⟩)|h
 .exact .inl (.inl (s _ _ h))
 .exact .inl (.inr ⟨o,s _ _ h⟩)
 .exact .inr h
inductive sp_Tree_close_within_table (g:G w K mg) (vs:List V) (H:Hp) (Q:VK) (_:XK):Prop
 |i (F:Addr->Prop) (p b:Addr) (s:a8) (ws:List Aa) (k:Nat) (_:vs=[.ref p,.ref b]) (_:cz g F H p s) (_:s.begun=true) (_:bC K H b (WS ws)) (_:ws.length<=100) (_:g0 s.open_ (c5 (aG "table"::ws)) nL=some k) (_:cg g F H p (Fp s (aG "table"::ws)) Q .aY)
theorem ok_Tree_close_within_table (g:G w K mg):aI P w K mg base bO 2 g.Tree_close_within_table.f g.Tree_close_within_table.fd ["self","kept"] (sp_Tree_close_within_table g):=by
 apply g.Tree_close_within_table.fn.bW sc_Tree_close_within_table λvs H Q E h=>?_;obtain⟨F,p,b,s,ws,k0,rfl,hT,bN,hb,hws,pK,k⟩:=h;apply⟨rfl,λ_ _ _ _ hr=>?_⟩;apply⟨_,%[au (binop% Tree_close (pv 0) %[ay op_add (binop% Tree_nearest (pv 0) %[ay op_catT (br %[aB|a]) (pv 1)|a]) (ag)|a])|b],?_⟩;obtain⟨dx,eh,ed,eb,op,rm,a6,ns,fw,lE⟩:=hT.ob;have gc:=fU pK
 have go:∀(H1:Hp) (c:Addr) (R:VK) (E:XK),aj H H1->bC K H1 c (WS (aG "table"::ws))->(∀v:Int,sp_Tree_close g [.ref p,.int (v+1)] H1 (λ_ H1=>Q V.aY H1) E0->R (.int v) H1)->sp_Tree_nearest g [.ref p,.ref c] H1 R E:=by
  intro H1 c R E s1 hc hR;have cZ:=hT.same s1;apply c8 cZ hc (hR _ ?_);rw[fI,pK];have k':=k.same s1;unfold Fp at k';rw[pK]at k';cases k0 with
  |zero=>
   have e:(s.open_.length:Int)-(0:Nat)+1=(s.open_.length:Int)+1:=by nofun
   show sp_Tree_close g [.ref p,.int ((s.open_.length:Int)-(0:Nat)+1)] _ _ _
   rw[e];exact xX cZ bN k'
  |succ j=>
   have e:(s.open_.length:Int)-(j+1:Nat)+1=(s.open_.length:Int)-j:=by lia
   show sp_Tree_close g [.ref p,.int ((s.open_.length:Int)-(j+1:Nat)+1)] _ _ _
   rw[e];exact dO cZ bN j (by nofun) k'
 ext;apply⟨_,_,a6,rfl,_,_,a6,rfl,by decide,λc hc=>?_⟩;have s1:aj H (upd H c (.tup [V.str "table"])):=aj.upd hc;have ew:WS (aG "table"::ws)=[V.str "table"]++WS ws:=rfl;apply⟨c,b,_,_,rfl,rfl,bC.of aa,bC.same hb s1,by simp,?_,λh0=>?_,λh0 c2 g8=>?_⟩
 .simp[WS];exact cF (by lia)
 .ext;apply go _ _ _ _ s1 ?_ λv hv=>?_
  .rw[ew,h0];exact bC.of aa
  .ext;exact hv
 .ext;apply go _ _ _ _ (s1.trans (aj.upd g8)) ?_ λv hv=>?_
  .rw[ew];exact bC.of aa
  .ext;exact hv
def qa (H:Hp) (nm:Aa) (v:V):Bool:=match v with
 | .ref a=>(match H a with|some (.ins _ _ fs)=>!decide (C2 (Str.ofString "word") fs=some (V.str (W nm)))|_=>false)
 |_=>false
def gX (s:a8) (nm:Aa):a8:={s with again:=s.again.filter λx=>x.1 !=nm}
def dD (s:a8) (nm:Aa):a8:=match s.again.reverse.findIdx? λx=>x.1==nm with
 |some i=>{s with again:=s.again.eraseIdx (s.again.length-1-i)}
 |none=>s
theorem aA.Fw {z:aV} (T:aA g F H z) (begun:Bool) (bN:begun=false->z.bs=[]/\z.path=[]/\z.rem=[]) (ow:Addr) (lZ:List (TG×List cO)) {H7:Hp} (kk:∀b o,H b=some o->b≠z.p->H7 b=some o) (a6:H7 z.p=some (.ins g.k_Tree z.dx (ba z.eh.a z.ed.a z.eb.a z.op begun ow)))
  (k8:H7 ow=some (.lst (lZ.map λx=>V.ref x.1.a))) (yT:¬F ow) (QH:∀x∈lZ,x∈z.rem):aA g F H7 {z with rm:=ow,rem:=lZ,begun:=begun}/\bc F H H7:=by
 have li:∀n∈z.all,∀o,H n.li=some o->H7 n.li=some o:=λn hn o e=>by
  obtain⟨vs,hv⟩:=T.li hn;apply kk _ _ e (aE hv T.ob ?_);intro q;cases q
 have dd:∀n∈z.all,n.kind=1->∀o,H n.tg.d=some o->H7 n.tg.d=some o:=λn hn gf o e=>by
  obtain⟨aC,hv⟩:=T.di hn gf;apply kk _ _ e (aE hv T.ob ?_);intro q;cases q
 have kp:bc F H H7:=λb o e n=>kk b o e λq=>n (q▸T.fp);apply⟨T.turn (aS.refl F H) kp li dd z.op ow z.path lZ begun a6 (kk _ _ T.op (aE T.op T.ob (by intro q;cases q))) T.fo k8 yT (λn hn q=>?_) (λn hn=>hn) T.dp (λx hx=>T.rt x (QH x hx)) (λq=>?_) (λb hb=>?_),kp⟩
 .cases hm:n.mu with
  |true=>exact(BD.mp T.nd).1 (by rw[q];exact BC.mpr ⟨n,A9.mpr ⟨hn,hm⟩,rfl⟩)
  |false=>
   obtain⟨kids,hk⟩:=T.nodes.mem hn;exact(hk.fu hm).1 (q▸T.fo)
 .obtain⟨h1,h2,h3⟩:=bN q;apply⟨h1,h2,?_⟩;cases lZ with
  |nil=>rfl
  |cons x l=>have:=QH x (by simp);rw[h3]at this;cases this
 .obtain⟨o,ho⟩:=T.uu b hb
  by_cases e:b=z.p
  .rw[e];exact⟨_,a6⟩
  .exact⟨o,kk b o ho e⟩
inductive sp_Tree_forget_all (g:G w K mg) (vs:List V) (H:Hp) (Q:VK) (_:XK):Prop
 |i (F:Addr->Prop) (p:Addr) (s:a8) (nm:Aa) (_:vs=[.ref p,.str (W nm)]) (_:cz g F H p s) (_:s.begun=true) (_:cg g F H p (gX s nm) Q .aY)
theorem ok_Tree_forget_all (g:G w K mg):aI P w K mg base bO 1 g.Tree_forget_all.f g.Tree_forget_all.fd ["self","word"] (sp_Tree_forget_all g):=by
 apply g.Tree_forget_all.fn.bW sc_Tree_forget_all λvs H Q E h=>?_;obtain⟨F,p,s,nm,rfl,hT,bN,k⟩:=h;apply⟨rfl,λ_ _ _ _ hr=>?_⟩;apply⟨_,%[aT (pv 0) (rO (own:=[("tag",2)]) rfl sc_Tree_forget_all.nd (bV (ak (pv 0) rfl)) (fJ (N:=["self","word","tag"]) (sc:=ai s_Tree_forget_all) (by decide+kernel)) (λ_ _ _ _ _=>bI (i:=2) sc_Tree_forget_all.nd rfl (CM rfl)) (λ_ _ _ _ _=>wL (binrel% op_ne (lK K (pv 2) rfl) (pv 1))) (λ_ _ _ _ _=>pv 2)) rfl|b],?_⟩;have Gg:=hT.bd.cq;obtain⟨z,rfl,T,R,hb⟩:=hT;have hr:=congrArg BJ R.again;rw[AF]at hr
 have hw:∀x∈z.rem,qa H nm (V.ref x.1.a)=(x.1.name !=nm):=λx hx=>by
  have:=(T.rt x hx).tb.ob;unfold qa;simp only[this];show(!decide (some (V.str (W x.1.name))=some (V.str (W nm))))=_
  by_cases q:x.1.name=nm
  .rw[q];simp
  .have q2:¬W x.1.name=W nm:=λe=>q (ko e);simp[q,q2]
 apply zT (a:=z.rm) (H1:=H) (xs:=z.rem.map λx=>V.ref x.1.a) (λR r=>⟨_,z.dx,_,T.ob,g.cl_Tree,g.na_Tree_remembered,_,rfl,r⟩) (qa H nm) (λv=>v) (aL.of T.rm) (by rw[AF];exact cF (by lia)) (λx=>rfl) (λv hv H' hs=>?_) (λD hD=>?_)
 .obtain⟨x,hx,rfl⟩:=BC.mp hv;have ho:=hs _ _ (T.rt x hx).tb.ob;rw[hw x hx];apply⟨λQ2 r=>⟨_,_,_,ho,g.cl_Tag,g.na_Tag_word,_,rfl,?_⟩,λ_ Q2 r=>r⟩;show Q2 (!decide (W x.1.name=W nm)) H'
  have e:(!decide (W x.1.name=W nm))=(x.1.name !=nm):=by
   by_cases q:x.1.name=nm
   .rw[q];simp
   .have q2:¬W x.1.name=W nm:=λe=>q (ko e);simp[q,q2]
  rw[e];exact r
 .have ef:((z.rem.map λx=>V.ref x.1.a).filter (qa H nm)).map (λv=>v)=(z.rem.filter λx=>x.1.name !=nm).map λx=>V.ref x.1.a:=by
   rw[List.map_id',GO];congr 1;exact List.filter_congr λx hx=>hw x hx
  rw[ef];have Ks:z.p≠D:=af T.ob hD;ext;apply⟨_,_,_,by rw[ae Ks];exact T.ob,g.cl_Tree,g.na_Tree_remembered,cq rfl,?_⟩;obtain⟨T',kp⟩:=T.Fw (H7:=upd (upd H D (.lst ((z.rem.filter λx=>x.1.name !=nm).map λx=>V.ref x.1.a))) z.p (.ins g.k_Tree z.dx (ba z.eh.a z.ed.a z.eb.a z.op z.begun D))) z.begun T.nb D (z.rem.filter λx=>x.1.name !=nm) (λb o e n=>by rw[ae n,ae (af e hD)];exact e) aa (by rw[ae Ks.symm,aa]) (T.out hD) (λx hx=>(A9.mp hx).1);apply k F _ ⟨{z with rm:=D,rem:=z.rem.filter λx=>x.1.name !=nm},rfl,T', ⟨R.head,R.body,R.du,?_,R.begun,R.hA,R.dA,R.bA,R.fresh⟩, ⟨hb.deep,?_,hb.body,λx hx=>hb.ij x (A9.mp hx).1⟩⟩ (aS.refl F H) kp
  .show FU _ s.again=_
   rw[R.again,GO];rfl
  .exact AY (DT ..) hb.cq
inductive sp_Tree_forget_last (g:G w K mg) (vs:List V) (H:Hp) (Q:VK) (_:XK):Prop
 |i (F:Addr->Prop) (p:Addr) (s:a8) (nm:Aa) (_:vs=[.ref p,.str (W nm)]) (_:cz g F H p s) (_:s.begun=true) (_:cg g F H p (dD s nm) Q .aY)
theorem ok_Tree_forget_last (g:G w K mg):aI P w K mg base bO 1 g.Tree_forget_last.f g.Tree_forget_last.fd ["self","word"] (sp_Tree_forget_last g):=by
 apply g.Tree_forget_last.fn.bW sc_Tree_forget_last λvs H Q E h=>?_;obtain⟨F,p,s,nm,rfl,hT,bN,k⟩:=h;apply⟨rfl,λ_ _ _ _ hr=>?_⟩;apply⟨_,%[leftact% Tree_forget_last 2 (ay op_sub (unop% L.n (ak (pv 0) rfl)) (ag)),bE PassesOwn.never (PW.pt (bG (binrel% op_ge (pv 2) (ag)) (a9 (binrel% op_ne (ak (rightact% aN (ak (pv 0) rfl) (pv 2)) rfl) (pv 1))))) %[eD (i:=2) sc_Tree_forget_last.nd rfl (CM rfl) (ag) uW|b],aw (binrel% op_ge (pv 2) (ag)) %[aT (pv 0) (ay op_cat (aO aW (ak (pv 0) rfl) cE (aF (pv 2))) (aO aW (ak (pv 0) rfl) (aF (ay op_add (pv 2) (ag))) cE)) rfl|b] %[|b]|b],?_⟩;have Nf:=hT;have Gg:=hT.bd.cq;obtain⟨z,rfl,T,R,hb⟩:=hT;have hr:=congrArg BJ R.again;rw[AF]at hr;cbv;ext;apply⟨_,_,_,T.ob,g.cl_Tree,g.na_Tree_remembered,_,rfl,?_⟩;ext;apply⟨_,.inl (aL.of T.rm),?_⟩;rw[AF];generalize lE:z.rem.map (λx=>x.1.name)=names;have xy:names.length=z.rem.length:=by rw[<-lE,AF]
 apply g7 λR0 V1=>?_
 have OY:∀v:Int,v=cP (λn=>n==nm) names->R0 [some (.ref z.p),some (.str (W nm)),some (.int v)] H:=by
  intro v hv;subst V1;ext
  have Nd:names.reverse.findIdx? (λn=>n==nm)=s.again.reverse.findIdx? λx=>x.1==nm:=by
   have:names=s.again.map (·.1):=by rw[<-lE,R.again,BR];rfl
   rw[this,<-List.map_reverse,List.findIdx?_map];rfl
  unfold cP at hv;unfold dD at k;rw[Nd]at hv;cases hi:s.again.reverse.findIdx? λx=>x.1==nm with
  |none=>
   rw[hi]at hv k;have hv:v= -1:=hv;subst hv;exact nN nofun (k.now Nf)
  |some i=>
   rw[hi]at hv k;have hv:v=(names.length:Int)-1-i:=hv
   have VQ:i<s.again.length:=by
    have:=List.findIdx?_eq_some_iff_getElem.mp hi;obtain⟨h1,_⟩:=this;rw[DG]at h1;exact h1
   obtain⟨j,hj,Yz⟩:∃j:Nat,v=j/\j=s.again.length-1-i:=⟨_,by lia,rfl⟩
   subst hj;apply rj (by nofun) ?_;apply⟨_,_,_,T.ob,g.cl_Tree,g.na_Tree_remembered,_,rfl,?_⟩;ext;apply⟨_,aL.of T.rm,λc1 g9=>?_⟩;have s1:=aj.upd (o:= .lst (cb (z.rem.map λx=>V.ref x.1.a) none (some (j:Int)))) g9;apply⟨_,_,_,s1 _ _ T.ob,g.cl_Tree,g.na_Tree_remembered,_,rfl,?_⟩;ext;apply⟨_,aL.of (s1 _ _ T.rm),λc2 g8=>?_⟩;have s2:=s1.trans (aj.upd (o:= .lst (cb (z.rem.map λx=>V.ref x.1.a) (some ((j:Int)+1)) none)) g8);have e1:cb (z.rem.map λx=>V.ref x.1.a) none (some (j:Int))=(z.rem.take j).map λx=>V.ref x.1.a:=by rw[qC,CJ]
   have e2:cb (z.rem.map λx=>V.ref x.1.a) (some ((j:Int)+1)) none=(z.rem.drop (j+1)).map λx=>V.ref x.1.a:=by
    have:=lP (z.rem.map λx=>V.ref x.1.a) (j+1);rw[CT];exact this
   rw[e1,e2]at s2 ⊢;rw[e1]at g8;have VV:(z.rem.take j).map (λx=>V.ref x.1.a)++(z.rem.drop (j+1)).map (λx=>V.ref x.1.a)=(z.rem.eraseIdx j).map λx=>V.ref x.1.a:=by rw[DF,AL]
   apply⟨c1,c2,_,_,rfl,rfl,by rw[ae (af aa g8),aa],aa,?_,λc3 NV=>?_⟩
   .rw[<-AB,VV,AF];have:=EB z.rem j;exact cF (by lia)
   rw[VV];have s3:=s2.trans (aj.upd (o:= .lst ((z.rem.eraseIdx j).map λx=>V.ref x.1.a)) NV);generalize Jn:upd _ c3 (HO.lst ((z.rem.eraseIdx j).map λx=>V.ref x.1.a))=H3 at s3 ⊢;have Zn:H3 c3=some (.lst ((z.rem.eraseIdx j).map λx=>V.ref x.1.a)):=by rw[<-Jn,aa]
   have O1:H c3=none:=s2.free NV;have Ks:z.p≠c3:=af T.ob O1;apply⟨_,_,_,s3 _ _ T.ob,g.cl_Tree,g.na_Tree_remembered,cq rfl,?_⟩;obtain⟨T',kp⟩:=T.Fw (H7:=upd H3 z.p (.ins g.k_Tree z.dx (ba z.eh.a z.ed.a z.eb.a z.op z.begun c3))) z.begun T.nb c3 (z.rem.eraseIdx j) (λb o e n=>by rw[ae n];exact s3 _ _ e) aa (by rw[ae Ks.symm];exact Zn) (T.out O1) (λx hx=>D7 hx);apply k F _ ⟨{z with rm:=c3,rem:=z.rem.eraseIdx j},rfl,T', ⟨R.head,R.body,R.du,?_,R.begun,R.hA,R.dA,R.bA,R.fresh⟩, ⟨hb.deep,?_,hb.body,λx hx=>hb.ij x (D7 hx)⟩⟩ (aS.refl F H) kp
   .show s.again.eraseIdx (s.again.length-1-i)=_
    rw[<-Yz,R.again,DF,DF];simp[CJ,CT]
   .exact AY (EB ..) hb.cq
 clear V1;apply⟨λm σ H'=>∃q:Nat,SE σ [some (.ref z.p),some (.str (W nm)),some (.int ((q:Int)-1))]/\H'=H/\m=q/\q<=z.rem.length/\cP (λn=>n==nm) (names.take q)=cP (λn=>n==nm) names, ⟨z.rem.length,z.rem.length,?_,rfl,rfl,AE _,?_⟩,?_⟩
 .rfl
 .rw[AK (by nofun)]
 rintro m σ H' ⟨q,rfl,rfl,rfl,hq,he⟩;ext;apply bb (λh0=>?_) (λh0=>?_)
 .obtain⟨x,hx⟩:∃n,z.rem[m-1]? =some n:=⟨z.rem[m-1]'(by lia),AN (by omega)⟩
  have e1:(m:Int)-1=((m-1:Nat):Int):=by lia
  have qX:names[m-1]? =some x.1.name:=by rw[<-lE,AV,hx];rfl
  have Es:names.take m=names.take (m-1)++[x.1.name]:=by
   have:=take_snoc qX;rw[show m-1+1=m by lia]at this;exact this
  have hlen:(names.take (m-1)).length=m-1:=by
   rw[AX];have:=b7 qX;lia
  apply⟨_,_,_,T.ob,g.cl_Tree,g.na_Tree_remembered,_,rfl,?_⟩;ext;apply⟨_,aL.of T.rm,_, (by rw[e1];exact dG (by rw[AV,hx];rfl)),?_⟩;ext;apply⟨_,_,_, (T.rt x (AO hx)).tb.ob,g.cl_Tag,g.na_Tag_word,_,rfl,?_⟩;ext;apply bb (λhw=>⟨_,λ_ _ h=>h,?_⟩) (λhw=>?_)
  .ext;apply⟨m-1,by omega,m-1,?_,rfl,by nofun,?_⟩
   .show _=_
    rw[e1]
   .rw[<-he,Es,kM (p:=λn=>n==nm) (x:=x.1.name) (beq_eq_false_iff_ne.mpr λq=>hw (congrArg W q))]
  .refine OY _ ?_;have hw:x.1.name=nm:=ko (HL.mp hw);rw[<-he,Es,nc (p:=λn=>n==nm) (x:=x.1.name) (by rw[hw];exact beq_self_eq_true _),hlen,e1]
 .have:m=0:=by lia
  subst this;apply OY _ ?_;rw[<-he];rfl
def nV (s:a8) (names:List String) (name:Aa) (a:List cO) (sh:Bool) (text:Aa):a8×Bool:=
 if oC s+names.length<=199 then bX (names.foldl (λt n=>nK t (aG n) []) s) name a sh text else(s,false)
theorem kG {n:Aa} {a:List cO} (h1:y3.contains n=false) (h2:lj.contains n=false):(bX s n a false []).1=nK s n a:=by
 unfold bX;rw[h1,h2]
 split
 .rfl
 .unfold nK S2;rw[iN (by nofun)]
def nW:List String:=["colgroup","tbody","tr"]
theorem yq:∀n∈nW,y3.contains (aG n)=false/\lj.contains (aG n)=false/\(aG n).length<=100/\∀c∈aG n,c<10000000:=by decide+kernel
theorem jd {α:Type} (f:α->Aa) (e:α->List cO):∀(l:List α) (s:a8),Sz (l.foldl (λt x=>nK t (f x) (e x)) s)<=Sz s+l.length/\(l.foldl (λt x=>nK t (f x) (e x)) s).begun=s.begun
 |[],s=>⟨AE _,rfl⟩
 |x::l,s=>by
  obtain⟨h1,h2⟩:=jd f e l (nK s (f x) (e x));rw[B0];have:=pF s (f x) (e x);apply⟨?_,h2.trans (jz ..)⟩;rw[AA];lia
theorem kq.uC {t:TG} {a:List cO} (hT:cz g F H p s) (hn:t.Rk H) (h:kq g (λb=>H b=none) H' t a [] .aY):d4 g F H' t a []:=by
 obtain⟨ls,e,h1,h2⟩:=h.at_;exact⟨⟨h.ob,h.nm, ⟨ls,e,h1,λx hx=>hT.out (h2 x hx)⟩,hT.out hn.a,hT.out hn.nm⟩,hT.out hn.d,h.tx,hT.out hn.tx,λq=>absurd rfl q⟩
inductive sp_Tree_open_again (g:G w K mg) (vs:List V) (H:Hp) (Q:VK) (_:XK):Prop
 |i (F:Addr->Prop) (p:Addr) (s:a8) (_:vs=[.ref p]) (_:cz g F H p s) (_:s.begun=true) (_:Sz s<=790000) (_:cg g F H p (Ek s) Q .aY)
theorem ok_Tree_open_again (g:G w K mg):aI P w K mg base bO 5 g.Tree_open_again.f g.Tree_open_again.fd ["self"] (sp_Tree_open_again g):=by
 apply g.Tree_open_again.fn.bW sc_Tree_open_again λvs H Q E h=>?_;obtain⟨F,p,s,rfl,hT,bN,hsz,k⟩:=h;apply⟨rfl,λ_ _ _ _ hr=>?_⟩;apply⟨_,%[leftact% Tree_open_again 1 (ak (pv 0) rfl),aT (pv 0) (aM %[|a]) rfl,dy PassesOwn.never rfl (bV (pv 1)) (bI (i:=2) sc_Tree_open_again.nd rfl (CM rfl)) %[au (binop% Tree_put (pv 0) %[pv 2|a])|b]|b],?_⟩;have Gg:=hT.bd.cq;obtain⟨z,rfl,T,R,hb⟩:=hT;have hr:=congrArg BJ R.again;rw[AF]at hr;cbv;ext;apply⟨_,_,_,T.ob,g.cl_Tree,g.na_Tree_remembered,_,rfl,?_⟩;cbv;ext;apply⟨A0 _,λD hD=>?_⟩;have Ks:z.p≠D:=af T.ob hD;apply⟨_,_,_,by rw[ae Ks];exact T.ob,g.cl_Tree,g.na_Tree_remembered,cq rfl,?_⟩;obtain⟨T',kp⟩:=T.Fw (H7:=upd (upd H D (.lst [])) z.p (.ins g.k_Tree z.dx (ba z.eh.a z.ed.a z.eb.a z.op z.begun D))) z.begun T.nb D [] (λb o e n=>by rw[ae n,ae (af e hD)];exact e) aa (by rw[ae Ks.symm,aa];rfl) (T.out hD) (λx hx=>by cases hx);have cZ:cz g F (upd (upd H D (.lst [])) z.p (.ins g.k_Tree z.dx (ba z.eh.a z.ed.a z.eb.a z.op z.begun D))) z.p {s with again:=[]}:=⟨{z with rm:=D,rem:=[]},rfl,T', ⟨R.head,R.body,R.du,rfl,R.begun,R.hA,R.dA,R.bA,R.fresh⟩, ⟨hb.deep,A0 _,hb.body,λx hx=>by cases hx⟩⟩
 have OR:(upd (upd H D (.lst [])) z.p (.ins g.k_Tree z.dx (ba z.eh.a z.ed.a z.eb.a z.op z.begun D))) z.rm=some (.lst (z.rem.map λx=>V.ref x.1.a)):=kp _ _ T.rm T.xD;have OP:=λx hx=>(T.rt x hx).keep (aS.refl F H) kp;clear T';show _
 generalize Fe:upd (upd H D (.lst [])) z.p (.ins g.k_Tree z.dx (ba z.eh.a z.ed.a z.eb.a z.op z.begun D))=H1 at cZ kp OR OP;have ee:upd (upd H D (HO.lst [])) z.p (HO.ins g.k_Tree z.dx (bU "remembered" (V.ref D) (ba z.eh.a z.ed.a z.eb.a z.op z.begun z.rm)))=H1:=Fe;rw[ee]
 have Ng:∀i,Sz ((s.again.take i).foldl (λt x=>nK t x.1 x.2) {s with again:=[]})<=799000/\((s.again.take i).foldl (λt x=>nK t x.1 x.2) {s with again:=[]}).begun=true:=λi=>by
  obtain⟨h1,h2⟩:=jd (λx:uh=>x.1) (λx=>x.2) (s.again.take i) {s with again:=[]};have h3:Sz {s with again:=[]}=Sz s:=rfl;have h4:(s.again.take i).length<=8:=by rw[AX];lia
  exact⟨by lia,h2.trans bN⟩
 have TR:∀{F2:Addr->Prop} {H2:Hp},bc F H1 H2->H2 z.rm=some (.lst (z.rem.map λx=>V.ref x.1.a)):=λkk=>kk _ _ OR T.xD;apply iy (a:=z.rm) (H1:=H1) (xs:=z.rem.map λx=>V.ref x.1.a) (λR r=>by ext;exact r) (λi σ H2=>∃(F2:Addr->Prop) (v:Option V),SE σ [some (.ref z.p),some (.ref z.rm),v]/\cz g F2 H2 z.p ((s.again.take i).foldl (λt x=>nK t x.1 x.2) {s with again:=[]})/\aS F F2 H1/\bc F H1 H2) ⟨F,none,rfl,cZ,aS.refl F H1,bc.refl F H1⟩ (λi σ H2 hi hP=>?_) (λi v σ H2 hi hP=>?_) (λσ H2 hP=>?_)
 .obtain⟨F2,v,rfl,c9,gr,kk⟩:=hP;exact aL.of (TR (F2:=F2) kk)
 .obtain⟨F2,v0,rfl,c9,gr,kk⟩:=hP;rw[AV]at hi;cases hx:z.rem[i]? with
  |none=>rw[hx]at hi;cases hi
  |some x=>
   rw[hx]at hi;have:V.ref x.1.a=v:=AH hi;subst this;have Iw:=AO hx;have Nd:s.again[i]? =some (x.1.name,x.2):=by rw[R.again,AV,hx];rfl
   have M7:=hb.ij _ (AO Nd);obtain⟨p1,p2,_⟩:=x5 x.1.name (by simpa using M7);have QT:=(OP x Iw).keep gr kk;have iV:=c9.ob;obtain⟨dx,eh,ed,eb,op,rm,a6,_⟩:=iV;ext;apply⟨_,_,a6,rfl,?_⟩;apply pV c9 (Ng i).2 QT.uC (AY (Ng i).1 nofun) ?_;rw[QT.sh];intro F3 H3 eJ il RS;apply⟨F3,_,rfl,?_,gr.trans (λb q=>gz c9 gr kk q) il,kk.trans gr RS⟩;rw[take_snoc Nd,FV];show cz g F3 H3 z.p (nK _ x.1.name x.2)
   rw[<-kG p1 p2];exact eJ
 .obtain⟨F2,v,rfl,c9,gr,kk⟩:=hP;rw[AF,AK (by nofun)]at c9
  exact k F2 H2 c9 ⟨gr.1,λb q=>(gr.2 b q).imp id λq1=>by
   cases q2:H b with
   |none=>rfl
   |some o=>
    by_cases q3:b=z.p
    .rw[q3]at q1;obtain⟨_,_,_,_,_,_,h9,_⟩:=cZ.ob;rw[q1]at h9;cases h9
    .have:H1 b=some o:=by rw[<-Fe,ae q3,ae (af q2 hD)];exact q2
     rw[q1]at this;cases this⟩ (kp.trans (aS.refl F H) kk)
inductive sp_Tree_put_implying (g:G w K mg) (vs:List V) (H:Hp) (Q:VK) (_:XK):Prop
 |i (F:Addr->Prop) (p b:Addr) (s:a8) (names:List String) (tg:TG) (a:List cO) (text:Aa) (_:vs=[.ref p,.ref b,.ref tg.a]) (_:cz g F H p s) (_:s.begun=true) (_:Sz s<=790000) (_:H b=some (.lst (names.map λn=>V.str (Str.ofString n)))) (_:¬F b) (_:names.length<=2) (_:(∀n∈names,n∈nW)) (_:d4 g F H tg a text) (_:cg g F H p (nV s names tg.name a tg.sh text).1 Q (.bl (nV s names tg.name a tg.sh text).2))
theorem ok_Tree_put_implying (g:G w K mg):aI P w K mg base bO 6 g.Tree_put_implying.f g.Tree_put_implying.fd ["self","implied","tag"] (sp_Tree_put_implying g):=by
 apply g.Tree_put_implying.fn.bW sc_Tree_put_implying λvs H Q E h=>?_;obtain⟨F,p,b,s,names,tg,a,text,rfl,hT,bN,hsz,hb,YE,QM,himp,hP,k⟩:=h;apply⟨rfl,λ_ _ _ _ hr=>?_⟩;apply⟨_,%[aw (binrel% op_ge (ay op_add (ak (unop% M.Tree_current (pv 0)) rfl) (unop% L.n (pv 1))) (g.c_MOST_DEPTH.pe rfl)) %[ao (eu)|b] %[|b],dy PassesOwn.never rfl (bV (pv 1)) (bI (i:=3) sc_Tree_put_implying.nd rfl (CM rfl)) %[au (binop% Tree_put (pv 0) %[unop% plain_tag %[pv 3|a]|a])|b],ao (binop% Tree_put (pv 0) %[pv 2|a])|b],?_⟩;obtain⟨dx,eh,ed,eb,op,rm,a6,ns,fw,lE⟩:=hT.ob;cbv;ext;apply⟨_,_,a6,rfl,dz hT λca ZN d ZM li ha hd=>?_⟩;ext;apply⟨_,_,_,ha,g.cl_Element,g.na_Element_depth,_,rfl,?_⟩;ext;apply⟨_,.inl (aL.of hb),?_⟩;rw[AF];ext;have rq:oC s=s.open_.length+2:=rfl;unfold nV at k;apply bb (λh0=>?_) (λh0=>?_)
 .rw[iN (by lia)]at k;exact k.now hT
 rw[iP (by lia)]at k
 have Ng:∀i,Sz ((names.take i).foldl (λt n=>nK t (aG n) []) s)<=799000/\((names.take i).foldl (λt n=>nK t (aG n) []) s).begun=true:=λi=>by
  obtain⟨h1,h2⟩:=jd (λn:String=>aG n) (λ_=>[]) (names.take i) s;have h4:(names.take i).length<=2:=by rw[AX];lia
  exact⟨by lia,h2.trans bN⟩
 cbv;apply iy (a:=b) (H1:=H) (xs:=names.map λn=>V.str (Str.ofString n)) (λR r=>by ext;exact r) (λi σ H2=>∃(F2:Addr->Prop) (v:Option V),SE σ [some (.ref p),some (.ref b),some (.ref tg.a),v]/\cz g F2 H2 p ((names.take i).foldl (λt n=>nK t (aG n) []) s)/\aS F F2 H/\bc F H H2) ⟨F,none,rfl,hT,aS.refl F H,bc.refl F H⟩ (λi σ H2 hi hP=>?_) (λi v σ H2 hi hP=>?_) (λσ H2 lF=>?_)
 .obtain⟨F2,v,rfl,c9,gr,kk⟩:=hP;exact aL.of (kk _ _ hb YE)
 .obtain⟨F2,v0,rfl,c9,gr,kk⟩:=hP;rw[AV]at hi;cases hx:names[i]? with
  |none=>rw[hx]at hi;cases hi
  |some n=>
   rw[hx]at hi;have:V.str (Str.ofString n)=v:=AH hi;subst this;obtain⟨p1,p2,p3,p4⟩:=yq n (himp n (AO hx));obtain⟨dx,eh,ed,eb,op,rm,iV,_⟩:=c9.ob;ext;apply⟨_,_,iV,rfl,n,rfl,p3,p4,λt H3 hn s3 cx ua kZ=>?_⟩;ext;have Y1:=kZ.uC c9 hn;apply pV (c9.same s3) (Ng i).2 Y1 (AY (Ng i).1 nofun) ?_;rw[ua,cx];intro F3 H4 eJ il RS;have zi:aS F2 F3 H2:=⟨il.1,λb q=>(il.2 b q).imp id λz=>s3.free z⟩
   have XH:bc F2 H2 H4:=λb o e n=>RS b o (s3 b o e) n;apply⟨F3,_,rfl,?_,gr.trans (λb q=>gz c9 gr kk q) zi,kk.trans gr XH⟩;rw[take_snoc hx,FV];show cz g F3 H4 p (nK _ (aG n) [])
   rw[<-kG p1 p2];exact eJ
 .obtain⟨F2,v,rfl,c9,gr,kk⟩:=lF;have hS:=Ng names.length;rw[AF]at c9;rw[AK (AE _)]at c9 hS;obtain⟨dx,eh,ed,eb,op,rm,iV,_⟩:=c9.ob;ext;apply⟨_,_,iV,rfl,?_⟩;exact pV c9 hS.2 (hP.keep gr kk) (AY hS.1 nofun) (k.after c9 gr kk)
structure Alike (n n':ND):Prop where
 a:n'.a=n.a
 dp:n'.depth=n.depth
 kd:n'.kind=n.kind
 mu:n'.mu=n.mu
 li:n'.li=n.li
theorem eG {n n':ND} (h:Alike n n') (d:Nat):∀r s:List ND,aq d (r++n'::s)=aq d (r++n::s)
 |[],s=>by rw[BA,BA,aq,aq,h.a,h.dp]
 |m::r,s=>by rw[AS,AS,aq,aq,eG h d r s]
theorem mx {n n':ND} (h:Alike n n'):∀{r s:List ND},wf (r++n::s)->wf (r++n'::s)
 |[], [],_=>trivial
 |[],m::s,q=>⟨by rw[h.dp];exact q.1,by rw[h.dp,h.kd];exact q.2.1,q.2.2⟩
 |[m],s,q=>⟨by rw[h.dp];exact q.1,by rw[h.dp];exact q.2.1,mx h (r:=[]) q.2.2⟩
 |m::k::r,s,q=>⟨q.1,q.2.1,mx h (r:=k::r) q.2.2⟩
theorem qy {n n':ND} (h:Alike n n') (r s:List ND):((r++n'::s).filter (·.mu)).map (·.li)=((r++n::s).filter (·.mu)).map (·.li):=by
 rw[CC,CC,AL,AL,DX,DX,h.mu]
 split
 .rw[AI,AI,h.li]
 .rfl
theorem j4:∀(pre:List (Aa×Aa×Addr)) (x:Aa×Aa×Addr) (post:List (Aa×Aa×Addr)), (∀y∈pre,y.1≠x.1)->cS (eO (pre++x::post)) (x.1.map kI)=some (V.ref x.2.2)
 |[],x,post,_=>by
  show cS ((x.1.map kI,V.ref x.2.2)::eO post) (x.1.map kI)=_
  rw[fD rfl]
 |y::pre,x,post,h=>by
  show cS ((y.1.map kI,V.ref y.2.2)::eO (pre++x::post)) (x.1.map kI)=_
  rw[cT (λz=>h y (by simp) (qc z)),j4 pre x post λy hy=>h y (by simp[hy])]
theorem nD (l:List cO) (a:List cO) (x:cO):pO l (a++[x])=iq (pO l a) x.1 x.2:=by
 unfold pO;rw[FV];rfl
theorem pE (l:List cO) (x:cO):∀n (a:List cO),a.length=n->x∈a->(pO l a).any (λb=>b.1==x.1)=true\/64<=(pO l a).length
 |0,a,h,hx=>by
  rw[C4.mp h]at hx;cases hx
 |n+1,a,h,hx=>by
  obtain⟨b,y,rfl⟩:∃b y,a=b++[y]:=by
   rcases B7 a with q|⟨b,y,q⟩
   .rw[q]at h;cases h
   .exact⟨b,y,by rw[q,B8]⟩
  rw[nD];have hl:b.length=n:=by simpa using h
  unfold iq;rcases AU.mp hx with q|q
  .have:=pE l x n b hl q
   split
   .exact this
   .rcases this with z|z
    .left;rw[IH,z];rfl
    .right;rw[AB];nofun
  .have:x=y:=by simpa using q
   subst this
   split
   .next c=>exact c
   .left;rw[IH];simp
theorem az.mid {n n':ND} (h:Alike n n'):∀{r s:List ND},az g F H (r++n::s)->(∀m∈r,∀kids,aQ g F H m kids->aQ g F H' m kids)->aQ g F H' n' (aq n.depth s)->az g F H' s->az g F H' (r++n'::s)
 |[],s,_,_,h1,h2=>⟨by rw[h.dp];exact h1,h2⟩
 |m::r,s,q,hm,h1,h2=>by
  apply⟨?_,az.mid h q.2 (λk hk=>hm k (by simp[hk])) h1 h2⟩;show aQ g F H' m (aq m.depth (r++n'::s))
  rw[eG h];exact hm m (by simp) _ q.1
theorem aA.P5 {z:aV} (T:aA g F H z) {d0:Addr} {aC Tx:List (List Key×V)} (rr:H d0=some (.dT aC)) (Ji:H' d0=some (.dT Tx)) (hf:F d0) (kk:∀b o,H b=some o->b≠d0->H' b=some o) (ah ad ab:List cO)
  (hh:gb g F H' z.eh.tg ah) (hd:gb g F H' z.ed.tg ad) (hb:gb g F H' z.eb.tg ab):aA g F H' {z with eh:={z.eh with at_:=ah},ed:={z.ed with at_:=ad},eb:={z.eb with at_:=ab}}/\bc F H H':=by
 have kp:bc F H H':=λb o e n=>kk b o e λq=>n (q▸hf);have kl:∀{b xs},H b=some (.lst xs)->H' b=some (.lst xs):=λ{b xs} e=>kk _ _ e (aE e rr (by intro q;cases q));have gr:=aS.refl F H;have lh:Alike z.eh {z.eh with at_:=ah}:=⟨rfl,rfl,rfl,rfl,rfl⟩
 have ld:Alike z.ed {z.ed with at_:=ad}:=⟨rfl,rfl,rfl,rfl,rfl⟩
 have lb:Alike z.eb {z.eb with at_:=ab}:=⟨rfl,rfl,rfl,rfl,rfl⟩
 have rk:∀{t l},fR g F H t l->fR g F H' t l:=λr=>r.keep gr kp;have hN:=T.nodes;have nh:=hN.1;have XD:=hN.2.1;have oH:=hN.2.2;have XE:aQ g F H z.eb (aq z.eb.depth z.bs):=oH.at_;have uc:az g F H z.bs:=(az.app oH).2
 have one:∀{n:ND} {a:List cO} {kids:List Addr},n.kind=1->aQ g F H n kids->gb g F H' n.tg a->aQ g F H' {n with at_:=a} kids:=by
  intro n a kids hk hn ht;apply⟨hn.fl,hn.fu,hn.fa,λ_=>⟨kp _ _ (hn.el hk).1 hn.fa,kl (hn.el hk).2.1,ht⟩,λq=>absurd hk q⟩
 have U8:∀m∈z.hs++z.bs,∀kids,aQ g F H m kids->aQ g F H' m kids:=by
  intro m hm kids hn;apply hn.keep gr kp (λo e=>?_) (λh1 o e=>kp _ _ e (T.od m hm h1))
  by_cases h1:m.kind=1
  .have:=(hn.el h1).2.1;rw[e]at this;rw[AH this]at e ⊢;exact kl e
  .have:=(hn.lf h1).2.1;rw[e]at this;rw[AH this]at e ⊢;exact kl e
 have Uw:az g F H' z.bs:=by
  have:∀l:List ND, (∀m∈l,m∈z.hs++z.bs)->az g F H l->az g F H' l:=by
   intro l
   induction l with
   |nil=>intro _ _;trivial
   |cons m l ih=>intro hl hn;exact⟨U8 m (hl m (by simp)) _ hn.1,ih (λk hk=>hl k (by simp[hk])) hn.2⟩
  exact this _ (λm hm=>by simp[hm]) uc
 have X9:az g F H' (z.hs++{z.eb with at_:=ab}::z.bs):=az.mid lb oH (λm hm=>U8 m (by simp[hm])) (one T.kb.1 XE hb) Uw;apply⟨⟨kk _ _ T.ob (aE T.ob rr (by intro q;cases q)),T.fp,kl T.op,T.fo,kl T.rm,T.xD, ⟨?_,?_,X9⟩,?_,T.raw,T.rE,T.txt,T.knd,T.kh,T.kd,T.kb,T.dd,T.od,T.dp,T.low,λn hn=>?_,λx hx=>rk (T.rt x hx),?_,T.nb,λb hb=>?_⟩,kp⟩
 .show aQ g F H' {z.eh with at_:=ah} (aq z.eh.depth ([]++{z.ed with at_:=ad}::(z.hs++{z.eb with at_:=ab}::z.bs)))
  rw[eG ld];show aQ g F H' {z.eh with at_:=ah} (aq z.eh.depth ((z.ed::z.hs)++{z.eb with at_:=ab}::z.bs))
  rw[eG lb];exact one T.kh.1 nh hh
 .show aQ g F H' {z.ed with at_:=ad} (aq z.ed.depth (z.hs++{z.eb with at_:=ab}::z.bs))
  rw[eG lb];exact one T.kd.1 XD hd
 .have e1:=qy lh [] ({z.ed with at_:=ad}::(z.hs++{z.eb with at_:=ab}::z.bs));have e2:=qy ld [z.eh] (z.hs++{z.eb with at_:=ab}::z.bs);have e3:=qy lb (z.eh::z.ed::z.hs) z.bs;have e:((aV.all {z with eh:={z.eh with at_:=ah},ed:={z.ed with at_:=ad},eb:={z.eb with at_:=ab}}).filter (·.mu)).map (·.li)=(z.all.filter (·.mu)).map (·.li):=e1.trans (e2.trans e3);rw[e];exact T.nd
 .obtain⟨h1,h2,h3⟩:=T.po n hn;exact⟨h1,h2,rk h3⟩
 .have e3:An.wf ((z.eh::z.ed::z.hs)++{z.eb with at_:=ab}::z.bs):=mx lb T.wf;have e2:An.wf ([z.eh]++{z.ed with at_:=ad}::(z.hs++{z.eb with at_:=ab}::z.bs)):=mx ld e3;exact mx lh (r:=[]) e2
 .obtain⟨o,e⟩:=T.uu b hb
  by_cases q:b=d0
  .rw[q];exact⟨_,Ji⟩
  .exact⟨o,kk b o e q⟩
def cC (s:a8) (i:Nat) (a:List cO):a8:=if i=0 then{s with htmlA:=pO s.htmlA a}else if i=1 then{s with headA:=pO s.headA a}else{s with bodyA:=pO s.bodyA a}
theorem wR {α β:Type} {F:α->β->Prop}:∀{l₁:List α} {l₂:List β},Paired F l₁ l₂->∀{i:Nat} {b:β},l₂[i]? =some b->∃a,l₁[i]? =some a/\F a b
 |_,_,.nil,i,b,h=>by cases h
 |_,_,.cons h1 h2,0,b,h=>by cases h;exact⟨_,rfl,h1⟩
 |_,_,.cons h1 h2,i+1,b,h=>wR h2 (i:=i) h
def aV.one (z:aV) (i:Nat):ND:=if i=0 then z.eh else if i=1 then z.ed else z.eb
inductive sp_Tree_add_attributes (g:G w K mg) (vs:List V) (H:Hp) (Q:VK) (_:XK):Prop
 |i (F:Addr->Prop) (z:aV) (s:a8) (i:Nat) (tg:TG) (a:List cO) (text:Aa) (_:vs=[.ref z.p,.ref (z.one i).a,.ref tg.a]) (_:aA g F H z) (_:Rel z s) (_:Bd s) (_:d4 g F H tg a text) (_:cg g F H z.p (cC s i a) Q .aY)
theorem ok_Tree_add_attributes (g:G w K mg):aI P w K mg base bO 1 g.Tree_add_attributes.f g.Tree_add_attributes.fd ["self","element","tag"] (sp_Tree_add_attributes g):=by
 apply g.Tree_add_attributes.fn.bW sc_Tree_add_attributes λvs H Q E h=>?_;obtain⟨F,z,s,i0,tg,a,text,rfl,T,R,hb,hP,k⟩:=h;apply⟨rfl,λ_ _ _ _ hr=>?_⟩;apply⟨_,%[leftact% Tree_add_attributes 3 (ak (ak (pv 1) rfl) rfl),dy PassesOwn.never rfl (bV (gU (nH rfl) (by rfl) g.n_list xl %[ak (pv 2) rfl|a])) (bI (i:=4) sc_Tree_add_attributes.nd rfl (CM rfl)) %[aw (PW.pt (bG (uP (oY (mi hr) (pv 4) (pv 3))) (a9 (binrel% op_lt (fE j3 (by rfl) g.n_len qg %[pv 3|a]) (g.c_MOST_ATTRIBUTES.pe rfl))))) %[wN (mi hr) (pv 3) (pv 4) (qu (mi hr) (ak (pv 2) rfl) (pv 4) (λ_ _=>rfl)) rfl|b] %[|b]|b]|b],?_⟩
 have TY:(z.one i0).kind=1/\F (z.one i0).tg.d/\∃kids,aQ g F H (z.one i0) kids:=by
  unfold aV.one
  split
  .exact⟨T.kh.1,T.kh.2.2.2,T.nodes.mem (by simp[aV.all])⟩
  .split
   .exact⟨T.kd.1,T.kd.2.2.2,T.nodes.mem (by simp[aV.all])⟩
   .exact⟨T.kb.1,T.kb.2.2.2,T.nodes.mem (by simp[aV.all])⟩
 obtain⟨gf,Nb,kids,cw⟩:=TY;obtain⟨vV,_,Jc⟩:=cw.el gf;obtain⟨l0,ZA, ⟨rr,X0⟩,Ub⟩:=Jc.at_;obtain⟨la,SN, ⟨VY,Er⟩,Ua⟩:=hP.tb.at_;cbv;ext;apply⟨_,_,_,vV,g.cl_Element,g.na_Element_tag,_,rfl,?_⟩;ext;apply⟨_,_,_,Jc.ob,g.cl_Tag,g.na_Tag_attributes,_,rfl,?_⟩;ext;have a6:=hP.tb.ob;have rq:(z.one i0).tg.d≠tg.d:=λq=>hP.fd (q▸Nb);have K5:a.length=la.length:=by rw[<-SN,lR]
 have xC:∀(i:Nat) (x:Aa×Aa×Addr),la[i]? =some x->a[i]? =some (x.1,x.2.1):=λi x hx=>by rw[<-SN];unfold gd;rw[AV,hx];rfl
 apply⟨_,tg.dx,_,a6,g.cl_Tag,g.na_Tag_attributes,_,rfl,tg.d,_,rfl,VY,λl ks hl Kh=>⟨l,rfl, ⟨_,aL.of aa⟩,?_⟩⟩;have s1:=aj.upd (o:= .lst (ks.map V.ref)) hl;generalize Fe:upd H l (.lst (ks.map V.ref))=H1 at s1 ⊢;have Q3:H1 l=some (.lst (ks.map V.ref)):=by rw[<-Fe,aa]
 have Sa:ks.length=la.length:=by have:=Paired.length Kh;rw[fb]at this;exact this.symm
 apply jm (xs:=ks.map V.ref) (λi σ H2=>∃(v:Option V) (t7:List (Aa×Aa×Addr)),SE σ [some (V.ref z.p),some (V.ref (z.one i0).a),some (V.ref tg.a),some (V.ref (z.one i0).tg.d),v]/\(∀b o,H1 b=some o->b≠(z.one i0).tg.d->H2 b=some o)/\Oh H2 (z.one i0).tg.d t7/\gd t7=pO (z.one i0).at_ (a.take i)/\∀x∈t7,¬F x.2.2)
  ⟨none,l0,rfl,λb o e _=>e, ⟨s1 _ _ rr,λx hx=>s1 _ _ (X0 x hx)⟩,ZA,Ub⟩ (λi σ H2 hi lF=>?_) (λi v σ H2 hi lF=>?_) (λσ H2 lF=>?_)
 .obtain⟨v,t7,rfl,kk,_,_⟩:=lF;exact aL.of (kk _ _ Q3 (aE Q3 (s1 _ _ rr) (by intro q;cases q)))
 .obtain⟨v0,t7,rfl,kk, ⟨hd2,KU⟩,e2,Gb⟩:=lF;rw[AV]at hi;cases hq:ks[i]? with
  |none=>rw[hq]at hi;cases hi
  |some q=>
   rw[hq]at hi;have:V.ref q=v:=AH hi;subst this;obtain⟨kv,yS,R6⟩:=wR Kh hq
   obtain⟨x,hx,ZC⟩:∃x,la[i]? =some x/\kv=(x.1.map kI,V.ref x.2.2):=by
    unfold eO at yS;rw[AV]at yS;cases hx:la[i]? with
    |none=>rw[hx]at yS;cases yS
    |some x=>rw[hx]at yS;exact⟨x,rfl, (AH yS).symm⟩
   subst ZC;have pI:H2 q=some (.tup ((x.1.map kI).map kV)):=kk _ _ (s1 _ _ R6) (aE (s1 _ _ R6) (s1 _ _ rr) (by intro z;cases z));have hg:=lx.t (k:=x.1.map kI) hd2 pI;have dW:=qE t7 x.1;rw[e2]at dW
   have Pa:pO (z.one i0).at_ (a.take (i+1))=iq (pO (z.one i0).at_ (a.take i)) x.1 x.2.1:=by
    rw[take_snoc (xC i x hx),nD]
   have Zy:(pO (z.one i0).at_ (a.take i)).length=t7.length:=by rw[<-e2,lR]
   ext;apply⟨(z.one i0).tg.d,_,rfl,hg,?_⟩;rw[dW];have lY:iq (pO (z.one i0).at_ (a.take i)) x.1 x.2.1=pO (z.one i0).at_ (a.take i)->∃(v:Option V),SE [some (V.ref z.p),some (V.ref (z.one i0).a),some (V.ref tg.a),some (V.ref (z.one i0).tg.d),some (V.ref q)] [some (V.ref z.p),some (V.ref (z.one i0).a),some (V.ref tg.a),some (V.ref (z.one i0).tg.d),v]/\(∀b o,H1 b=some o->b≠(z.one i0).tg.d->H2 b=some o)/\∃(RO:List (Aa×Aa×Addr)),Oh H2 (z.one i0).tg.d RO/\gd RO=pO (z.one i0).at_ (a.take (i+1))/\∀x∈RO,¬F x.2.2:=λe=>⟨_,rfl,kk,t7, ⟨hd2,KU⟩,by rw[Pa,e];exact e2,Gb⟩
   apply bb (λh1=>?_) (λh1=>?_)
   .have h1:((pO (z.one i0).at_ (a.take i)).any λa=>a.1==x.1)=false:=by simpa using h1
    ext;apply⟨_,hd2,?_⟩;rw[fb];apply bb (λh2=>?_) (λh2=>?_)
    .have h64:t7.length<64:=by lia
     have MG:cS (eO la) (x.1.map kI)=some (V.ref x.2.2):=by
      have rl:la=la.take i++x::la.drop (i+1):=by
       have:=BV i la;rw[aJ hx]at this;exact this.symm
      rw[rl];apply j4 _ _ _ λy hy e=>?_
      have uk:(y.1,y.2.1)∈a.take i:=by
       rw[<-SN];unfold gd;rw[<-CJ];exact BC.mpr ⟨y,hy,rfl⟩
      rcases pE (z.one i0).at_ (y.1,y.2.1) _ (a.take i) rfl uk with q|q
      .have:((pO (z.one i0).at_ (a.take i)).any λa=>a.1==x.1)=true:=by rw[<-e];exact q
       rw[h1]at this;cases this
      .lia
     have Uo:H2 tg.d=some (.dT (eO la)):=kk _ _ (s1 _ _ VY) rq.symm;have iV:=kk _ _ (s1 _ _ a6) (aE (s1 _ _ a6) (s1 _ _ rr) (by intro z;cases z));have NP:=lx.t (k:=x.1.map kI) Uo pI;rw[MG]at NP;apply⟨_,tg.dx,_,iV,g.cl_Tag,g.na_Tag_attributes,_,rfl,tg.d,_,rfl,NP, (z.one i0).tg.d,_,rfl,xK.t hd2 pI (by rw[fb];exact cY (by nofun)),?_⟩
     have LN:putK (eO t7) (x.1.map kI) (V.ref x.2.2)=eO (t7++[x]):=by
      have e0:cS (eO t7) (x.1.map kI)=none:=by
       rw[h1]at dW;cases hv:cS (eO t7) (x.1.map kI)with
       |none=>rfl
       |some y=>rw[hv]at dW;cases dW
      rw[sE _ e0];unfold eO;rw[AL];rfl
     rw[LN];have Vz:=kk _ _ (s1 _ _ (Er x (AO hx))) (aE (s1 _ _ (Er x (AO hx))) (s1 _ _ rr) (by intro z;cases z));apply⟨_,rfl,λb o e nb=>by rw[ae nb];exact kk b o e nb,t7++[x], ⟨aa,λy hy=>?_⟩,?_,λy hy=>?_⟩
     .rcases AU.mp hy with hy|hy
      .rw[ae (aE (KU y hy) hd2 (by intro z;cases z))];exact KU y hy
      .have e:y=x:=by simpa using hy
       subst e;rw[ae (aE Vz hd2 (by intro z;cases z))];exact Vz
     .rw[Pa];unfold iq;rw[iN (by intro z;rcases z with z|z;rw[h1]at z;cases z;lia),<-e2];unfold gd;rw[AL];rfl
     .rcases AU.mp hy with hy|hy
      .exact Gb y hy
      .have e:y=x:=by simpa using hy
       subst e;exact Ua _ (AO hx)
    .refine lY ?_;unfold iq;rw[iP (.inr (by lia))]
   .have h1:((pO (z.one i0).at_ (a.take i)).any λa=>a.1==x.1)=true:=by simpa using h1
    ext;apply lY ?_;unfold iq;rw[iP (.inl h1)]
 .obtain⟨v,t7,rfl,kk, ⟨hd2,KU⟩,e2,Gb⟩:=lF;rw[AF,AK (by lia)]at e2;have kH:∀b o,H b=some o->b≠(z.one i0).tg.d->H2 b=some o:=λb o e n=>kk b o (s1 b o e) n;have RP:bc F H H2:=λb o e n=>kH b o e λq=>n (q▸Nb);have MS:∀{n:ND},n.kind=1->(∃kids,aQ g F H n kids)->n.tg.d≠(z.one i0).tg.d->gb g F H2 n.tg n.at_:=λh1 ⟨kids,hn⟩ dF=>((hn.el h1).2.2).keep (aS.refl F H) RP λo e=>kH _ _ e dF;have MT:gb g F H2 (z.one i0).tg (pO (z.one i0).at_ a):=⟨RP _ _ Jc.ob Jc.fa,RP _ _ Jc.nm Jc.fn, ⟨t7,e2, ⟨hd2,KU⟩,Gb⟩,Jc.fa,Jc.fn⟩
  have mh:∃kids,aQ g F H z.eh kids:=T.nodes.mem (by simp[aV.all]);have md:∃kids,aQ g F H z.ed kids:=T.nodes.mem (by simp[aV.all]);have mb:∃kids,aQ g F H z.eb kids:=T.nodes.mem (by simp[aV.all])
  have fin:∀ah ad ab,gb g F H2 z.eh.tg ah->gb g F H2 z.ed.tg ad->gb g F H2 z.eb.tg ab->cC s i0 a={s with htmlA:=ah,headA:=ad,bodyA:=ab}->Q .aY H2:=by
   intro ah ad ab t1 t2 t3 e;obtain⟨T',kp⟩:=T.P5 rr hd2 Nb kH ah ad ab t1 t2 t3;apply k F H2 ?_ (aS.refl F H) kp;rw[e];exact⟨{z with eh:={z.eh with at_:=ah},ed:={z.ed with at_:=ad},eb:={z.eb with at_:=ab}},rfl,T', ⟨R.head,R.body,R.du,R.again,R.begun,rfl,rfl,rfl,R.fresh⟩, ⟨hb.deep,hb.cq,hb.body,hb.ij⟩⟩
  ext
  by_cases h0:i0=0
  .subst h0;have e0:z.one 0=z.eh:=rfl;rw[e0]at MT;apply fin _ _ _ MT (MS T.kd.1 md T.dd.1.symm) (MS T.kb.1 mb T.dd.2.1.symm) ?_;unfold cC;rw[iP rfl,R.hA,<-R.dA,<-R.bA]
  .by_cases h1:i0=1
   .subst h1;have e0:z.one 1=z.ed:=rfl;rw[e0]at MT;apply fin _ _ _ (MS T.kh.1 mh T.dd.1) MT (MS T.kb.1 mb T.dd.2.2.symm) ?_;unfold cC;rw[iN nofun,iP rfl,R.dA,<-R.hA,<-R.bA]
   .have e0:z.one i0=z.eb:=by unfold aV.one;rw[iN h0,iN h1]
    rw[e0]at MT;apply fin _ _ _ (MS T.kh.1 mh (by rw[e0];exact T.dd.2.1)) (MS T.kd.1 md (by rw[e0];exact T.dd.2.2)) MT ?_;unfold cC;rw[iN h0,iN h1,R.bA,<-R.hA,<-R.dA]
def hV (s:a8) (name:Aa) (a:List cO) (text:Aa):a8:={s with head:=(if text=[]then []else [⟨2,4, [], [],text⟩])++⟨1,3,name,a, []⟩::s.head}
def cp (s:a8) (t:Aa):a8:=if s.begun=true then{s with body:=⟨3,oC s, [], [],t⟩::s.body}else{s with head:=⟨3,3, [], [],t⟩::s.head}
theorem node2 {n:ND} (h:n.kind=2):n.node=⟨2,n.depth, [], [],n.bF⟩:=by
 unfold ND.node;rw[iN (by rw[h];decide),h]
theorem Rel.PK {z:aV} (R:Rel z s):∀n∈z.bs,n.kind=2->n.bF.length<=Sz s:=by
 intro n hn hk;have:n.node∈s.body:=by rw[R.body];simp;exact⟨n,hn,rfl⟩
 have h2:=wB this;rw[node2 hk]at h2;unfold Sz;exact AY h2 (Nat.le_add_left ..)
theorem vD {x:ND} {dZ:List ND} {e:ND} {tg:TG} {a:List cO} {text:Aa} (M:Made x dZ e tg a text):x.node=⟨1,e.depth+1,tg.name,a, []⟩/\(dZ.map ND.node).reverse=if text=[]then []else [⟨2,e.depth+2, [], [],text⟩]:=by
 constructor
 .unfold ND.node;rw[iP M.xk,M.xd,M.xt,M.xa]
 .rcases M.lf with⟨q1,q2⟩|⟨y,q1,q2,pH,xx,hyp,_⟩
  .rw[q1,iP q2];rfl
  .rw[q1,iN q2];show [ND.node y]=_
   unfold ND.node;rw[iN (by rw[xx];decide),xx,pH,hyp]
theorem Gm {p:Addr} {z:aV} {tg:TG} {a:List cO} {text:Aa} (T:aA g F H z) (R:Rel z s) (hb:Bd s) (bN:s.begun=false) (hP:d4 g F H tg a text) (hS:Sz s<=800000)
  (q:∀x,cg g F H z.p (hV s tg.name a text) Q (.ref x)):sp_Tree_put_in g [.ref z.p,.ref z.ed.a,.ref tg.a] H Q E:=by
 have hsz:=R.size;have ze:z.begun=false:=by rw[<-R.begun];exact bN
 apply⟨F,z,z.ed,tg,a,text,rfl,T,by rw[ze];rfl,hP.tb,hP.fd,hP.tx,hP.ft,hP.Qq,by lia,λF' H' x dZ T' gr kp M=>?_⟩;have ep:z.plus (x::dZ)={z with hs:=z.hs++x::dZ}:=by unfold aV.plus;rw[ze];rfl
 rw[ep]at T';obtain⟨m1,m2⟩:=vD M;rw[T.kd.2.1]at m1 m2;apply q x.a F' H' ⟨{z with hs:=z.hs++x::dZ},rfl,T', ⟨?_,R.body,R.du,R.again,R.begun,R.hA,R.dA,R.bA,R.fresh⟩, ⟨hb.deep,hb.cq,hb.body,hb.ij⟩⟩ gr kp;show _=((z.hs++x::dZ).map ND.node).reverse
 rw[AL,BL,AI,BQ,m2,m1,<-R.head];simp[hV]
theorem xW {z:aV} {pl:Addr} {t:Aa} (T:aA g F H z) (R:Rel z s) (hb:Bd s) (nP:H pl=some (.lst (VL t))) (xB:¬F pl) (hS:Sz s<=800000)
  (q:cg g F H z.p (cp s t) Q .aY):sp_Tree_put_remark g [.ref z.p,.ref (if s.begun=true then z.cur else z.ed).a,.ref pl] H Q E:=by
 have hsz:=R.size;apply⟨F,z,if s.begun=true then z.cur else z.ed,pl,t,rfl,T,by rw[R.begun],nP,xB,by omega,λF' H' x T' gr kp hx=>?_⟩;have nJ:=T.fk.2.1;have hl:=R.len;unfold cp at q
 by_cases bN:s.begun=true
 .have ze:z.begun=true:=by rw[<-R.begun];exact bN
  rw[iP bN]at q hx;rw[aV.uQ ze]at T';apply q F' H' ⟨{z with bs:=z.bs++[x]},rfl,T', ⟨R.head,?_,R.du,R.again,R.begun,R.hA,R.dA,R.bA,R.fresh⟩, ⟨hb.deep,hb.cq,hb.body,hb.ij⟩⟩ gr kp;show _=((z.bs++[x]).map ND.node).reverse
  rw[AL,BL,R.body];show _::_=[x.node]++_
  rw[hx];have:oC s=z.cur.depth+1:=by unfold oC;lia
  rw[this];rfl
 .have ze:z.begun=false:=by rw[<-R.begun];simpa using bN
  rw[iN bN]at q hx;have ep:z.plus [x]={z with hs:=z.hs++[x]}:=by unfold aV.plus;rw[ze];rfl
  rw[ep]at T';apply q F' H' ⟨{z with hs:=z.hs++[x]},rfl,T', ⟨?_,R.body,R.du,R.again,R.begun,R.hA,R.dA,R.bA,R.fresh⟩, ⟨hb.deep,hb.cq,hb.body,hb.ij⟩⟩ gr kp;show _=((z.hs++[x]).map ND.node).reverse
  rw[AL,BL,R.head];show _::_=[x.node]++_
  rw[hx,T.kd.2.1];rfl
theorem wq {c:Nat} (hT:cz g F H p s) (bN:s.begun=true) (hS:Sz s<=800000)
  (q:cg g F H p (Lf s [c]) Q .aY):sp_Tree_put_text g [.ref p,.int c] H Q E:=by
 obtain⟨z,rfl,T,R,hb⟩:=hT;have hsz:=R.size;have ze:z.begun=true:=by rw[<-R.begun];exact bN
 have nJ:=T.fk.2.1;have hl:=R.len;have hd:oC s=z.cur.depth+1:=by unfold oC;omega
 have Yd:∀n∈z.bs,n.kind=2->n.bF.length<=900000:=λn hn hk=>by have:=R.PK n hn hk;lia
 apply⟨F,z,c,rfl,T,ze,by lia,Yd,λgh n H' hx T' kp=>?_,λF' H' x hx T' gr kp ex=>?_⟩
 .obtain⟨h1,h2,h3⟩:=hx;have eb:s.body=n.node::(gh.map ND.node).reverse:=by rw[R.body,h1];simp
  have ep:Lf s [c]={s with body:={n.node with text:=n.node.text++[c]}::(gh.map ND.node).reverse}:=by
   unfold Lf;rw[iN (by intro q;cases q),eb];simp only;rw[iP ⟨by rw[node2 h2],by rw[node2 h2,hd];exact h3⟩]
  rw[ep]at q;apply q F H' ⟨{z with bs:=gh++[{n with bF:=n.bF++[c]}]},rfl,T', ⟨R.head,?_,R.du,R.again,R.begun,R.hA,R.dA,R.bA,R.fresh⟩, ⟨hb.deep,hb.cq,hb.body,hb.ij⟩⟩ (aS.refl F H) kp;show _::_=((gh++[{n with bF:=n.bF++[c]}]).map ND.node).reverse
  have:ND.node {n with bF:=n.bF++[c]}={n.node with text:=n.node.text++[c]}:=by
   rw[node2 h2];exact node2 (n:={n with bF:=n.bF++[c]}) h2
  rw[AL,BL,<-this];rfl
 .rw[aV.uQ ze]at T'
  have ep:Lf s [c]={s with body:=⟨2,oC s, [], [], [c]⟩::s.body}:=by
   unfold Lf;rw[iN (by intro q;cases q)];cases X5:s.body with
   |nil=>rfl
   |cons m r=>
    simp only;apply iN λh=>hx ?_;have hr:=R.body;rw[X5]at hr;have vT:(m::r).reverse=z.bs.map ND.node:=by rw[hr,CP]
    rcases B7 z.bs with e|⟨gh,n,e⟩
    .rw[e]at vT;simp at vT
    .rw[B8]at e;rw[e,AL,BQ]at vT;have:=BP vT rfl;have QN:m=n.node:=by simpa using this
     have hk:n.kind=2:=by
      have h1:=h.1;rw[QN]at h1;unfold ND.node at h1
      split at h1
      .cases h1
      .exact h1
     apply⟨gh,n,e,hk,?_⟩;have h2:=h.2;rw[QN,node2 hk,hd]at h2;exact h2
  rw[ep]at q;apply q F' H' ⟨{z with bs:=z.bs++[x]},rfl,T', ⟨R.head,?_,R.du,R.again,R.begun,R.hA,R.dA,R.bA,R.fresh⟩, ⟨hb.deep,hb.cq,hb.body,hb.ij⟩⟩ gr kp;show _=((z.bs++[x]).map ND.node).reverse
  rw[AL,BL,R.body];show _::_=[x.node]++_
  rw[ex,hd];rfl
theorem cz.begin {p dx:Addr} {fs:List (Str×V)} (hT:cz g F H p s) (a6:H p=some (.ins g.k_Tree dx fs)):cz g F (upd H p (.ins g.k_Tree dx (bU "begun" (.bl true) fs))) p {s with begun:=true}/\bc F H (upd H p (.ins g.k_Tree dx (bU "begun" (.bl true) fs))):=by
 obtain⟨z,rfl,T,R,hb⟩:=hT;have ho:=T.ob;rw[a6]at ho;have ho:=AH ho;injection ho with h1 h2 h3;subst h2;subst h3;have e:bU "begun" (.bl true) (ba z.eh.a z.ed.a z.eb.a z.op z.begun z.rm)=ba z.eh.a z.ed.a z.eb.a z.op true z.rm:=rfl;rw[e];obtain⟨T',kp⟩:=T.Fw (H7:=upd H z.p (.ins g.k_Tree z.dx (ba z.eh.a z.ed.a z.eb.a z.op true z.rm))) true (λq=>by cases q) z.rm z.rem (λb o e n=>by rw[ae n];exact e) aa (by rw[ae (aE T.rm T.ob (by intro q;cases q))];exact T.rm) T.xD (λx hx=>hx);exact⟨⟨{z with begun:=true},rfl,T', ⟨R.head,R.body,R.du,R.again,rfl,R.hA,R.dA,R.bA,R.fresh⟩, ⟨hb.deep,hb.cq,hb.body,hb.ij⟩⟩,kp⟩
structure ir (g:G w K mg) (H:Hp) (tg:TG) (e dx li:Addr) (d:Nat) (nm:String):Prop where
 ob:H e=some (.ins g.k_Element dx (hG d tg.a (W (aG nm)) li))
 Kp:H tg.a=some (.ins g.k_Tag tg.dx (dw tg.nm (W (aG nm)) tg.d false tg.tx .aY))
 Kt:H tg.nm=some (.lst (VL (aG nm)))
 d_:H tg.d=some (.dT [])
theorem ir.to {tg:TG} {e dx li:Addr} {d:Nat} {nm:String} (h:ir g H tg e dx li d nm) {x:Addr} (s:fB x H H') (h1:e≠x) (h2:tg.a≠x) (h3:tg.nm≠x) (h4:tg.d≠x):ir g H' tg e dx li d nm:=⟨s _ _ h.ob h1,s _ _ h.Kp h2,s _ _ h.Kt h3,s _ _ h.d_ h4⟩
theorem ir.x {tg:TG} {e dx li:Addr} {d:Nat} {nm:String} (h:ir g H tg e dx li d nm) {x y:Addr} {fs:List (Str×V)} (hx:H x=some (.ins g.k_Tree y fs)) (VT:fs.length<=4\/∃v r,fs=(Str.ofString "html",v)::r) (s:fB x H H'):ir g H' tg e dx li d nm:=by
 have a1:e≠x:=aE h.ob hx (by
  intro z;injection z with _ _ z3;rcases VT with q|⟨v,r,q⟩
  .rw[<-z3]at q;simp[hG]at q
  .rw[<-z3]at q;unfold hG at q;injection q with q1 _;injection q1 with q1 _;exact absurd q1 nofun)
 have a2:tg.a≠x:=aE h.Kp hx (by
  intro z;injection z with _ _ z3;rcases VT with q|⟨v,r,q⟩
  .rw[<-z3]at q;simp[dw]at q
  .rw[<-z3]at q;unfold dw at q;injection q with q1 _;injection q1 with q1 _;exact absurd q1 nofun)
 exact h.to s a1 a2 (aE h.Kt hx (by intro z;cases z)) (aE h.d_ hx (by intro z;cases z))
theorem Lq {nm:String} {d:Nat} {R:Addr->Hp->Prop} {E1 E2:XK} (hl:(aG nm).length<=100) (hc:∀n∈aG nm,n<10000000)
  (k:∀(tg:TG) (e dx li:Addr) (H1:Hp),tg.Rk H->H e=none->H li=none->aj H H1->tg.name=aG nm->tg.sh=false->ir g H1 tg e dx li d nm->H1 li=some (.lst [])->R e H1):
  sp_plain_tag g [V.str (Str.ofString nm)] H (λv H1=>∀(e dx:Addr),H1 e=none->H1 dx=none->dx≠e->sp_Element_init g [V.ref e,v,V.int d] (upd (upd H1 dx (HO.own e)) e (HO.ins g.k_Element dx [])) (λv H2=>v=V.aY/\R e H2) E2) E1:=by
 apply⟨nm,rfl,hl,hc,λt H1 hn s1 cx ua kZ=>?_⟩;intro e dx he oz dF;have ne:∀{b o},H1 b=some o->b≠e:=λq=>af q he;have nd:∀{b o},H1 b=some o->b≠dx:=λq=>af q oz;have kk:∀{b o},H1 b=some o->upd (upd H1 dx (HO.own e)) e (HO.ins g.k_Element dx []) b=some o:=λq=>by rw[ae (ne q),ae (nd q)];exact q
 apply⟨e,dx,t.a,t.dx,t.nm,t.d,t.tx,d,W t.name,t.sh,.aY,rfl,aa,kk kZ.ob,λli H2 uq Fg K8 s2=>⟨rfl,?_⟩⟩;have sm:aj H1 H2:=λb o q=>s2 b o (kk q) (ne q)
 have rJ:H li=none:=by
  have q1:li≠e:=λz=>by rw[z,aa]at uq;cases uq
  have q2:li≠dx:=λz=>by rw[z,ae dF,aa]at uq;cases uq
  rw[ae q1,ae q2]at uq;exact s1.free uq
 obtain⟨ls,yY, ⟨Fb,_⟩,_⟩:=kZ.at_
 have Yu:ls=[]:=by
  cases ls with
  |nil=>rfl
  |cons a l=>cases yY
 rw[Yu]at Fb;have a6:=kZ.ob;rw[cx,ua]at a6;rw[cx]at Fg;exact k t e dx li H2 hn (s1.free he) rJ (s1.trans sm) cx ua ⟨Fg,sm _ _ a6,by rw[<-cx];exact sm _ _ kZ.nm,sm _ _ Fb⟩ K8
inductive sp_Tree_init (g:G w K mg) (vs:List V) (H:Hp) (Q:VK) (_:XK):Prop
 |i (x dx:Addr) (_:vs=[.ref x]) (_:H x=some (.ins g.k_Tree dx [])) (_:∀(F':Addr->Prop) (H':Hp),cz g F' H' x {}->(∀b,F' b->b=x\/H b=none)->fB x H H'->Q .aY H')
theorem yp {x dx op rm:Addr} {th td tb:TG} {eh ed eb dh dd db lh ld lb:Addr} (hx:H x=some (.ins g.k_Tree dx (ba eh ed eb op false rm))) (fw:H op=some (.lst [.ref eh,.ref eb])) (k8:H rm=some (.lst []))
  (h1:ir g H th eh dh lh 1 "html") (h2:ir g H td ed dd ld 2 "head") (h3:ir g H tb eb db lb 2 "body") (Jg:H lh=some (.lst [.ref ed,.ref eb])) (nR:H ld=some (.lst [])) (iO:H lb=some (.lst []))
  (n1:th.d≠td.d) (n2:th.d≠tb.d) (n3:td.d≠tb.d) (m1:ld≠lb) (m2:rm≠ld) (m3:rm≠lb) (nh:th.name=aG "html") (nd:td.name=aG "head") (nb:tb.name=aG "body") (RA:th.sh=false) (Rz:td.sh=false) (Ry:tb.sh=false):
  cz g (λb=>b=x\/b=op\/b=lh\/b=ld\/b=lb\/b=th.d\/b=td.d\/b=tb.d) H x {}:=by
 have Lo:∀{b o},H b=some o->o≠.ins g.k_Tree dx (ba eh ed eb op false rm)->o≠.lst [.ref eh,.ref eb]->o≠.lst [.ref ed,.ref eb]->o≠.lst []->o≠.dT []->¬(b=x\/b=op\/b=lh\/b=ld\/b=lb\/b=th.d\/b=td.d\/b=tb.d):=by
  intro b o hb a1 a2 a3 a4 a5 q;rcases q with q|q|q|q|q|q|q|q<;>rw[q]at hb
  .rw[hx]at hb;exact a1 (AH hb).symm
  .rw[fw]at hb;exact a2 (AH hb).symm
  .rw[Jg]at hb;exact a3 (AH hb).symm
  .rw[nR]at hb;exact a4 (AH hb).symm
  .rw[iO]at hb;exact a4 (AH hb).symm
  .rw[h1.d_]at hb;exact a5 (AH hb).symm
  .rw[h2.d_]at hb;exact a5 (AH hb).symm
  .rw[h3.d_]at hb;exact a5 (AH hb).symm
 have Zz:∀{a d t wd l},HO.ins g.k_Element a (hG d t wd l)≠.ins g.k_Tree dx (ba eh ed eb op false rm):=λz=>by injection z with _ _ z3;unfold hG ba at z3;injection z3 with z4 _;injection z4 with z5 _;exact absurd z5 nofun
 have WU:∀{a n wd d sh tx wr},HO.ins g.k_Tag a (dw n wd d sh tx wr)≠.ins g.k_Tree dx (ba eh ed eb op false rm):=λz=>by injection z with _ _ z3;unfold dw ba at z3;injection z3 with z4 _;injection z4 with z5 _;exact absurd z5 nofun
 have Xv:∀{b:Addr} {t:List Nat},t≠[]->H b=some (.lst (VL t))->¬(b=x\/b=op\/b=lh\/b=ld\/b=lb\/b=th.d\/b=td.d\/b=tb.d):=by
  intro b t ht hb;cases t with
  |nil=>exact absurd rfl ht
  |cons c t=>exact Lo hb (by intro z;cases z) (by intro z;cases z) (by intro z;cases z) (by intro z;cases z) (by intro z;cases z)
 have S6:∀{tg:TG} {e dx li:Addr} {d:Nat} {nm:String},ir g H tg e dx li d nm->tg.name=aG nm->tg.sh=false->aG nm≠[]->gb g (λb=>b=x\/b=op\/b=lh\/b=ld\/b=lb\/b=th.d\/b=td.d\/b=tb.d) H tg []:=by
  intro tg e dx li d nm h hn hs dF;apply⟨by rw[hn,hs];exact h.Kp,by rw[hn];exact h.Kt, ⟨[],rfl, ⟨h.d_,λx hx=>by cases hx⟩,λx hx=>by cases hx⟩,Lo h.Kp WU (by intro z;cases z) (by intro z;cases z) (by intro z;cases z) (by intro z;cases z),Xv dF h.Kt⟩
 have Uc:eh≠ed:=aE h1.ob h2.ob (by intro z;injection z with _ _ z3;unfold hG at z3;simp at z3);have R8:op≠lh:=aE fw Jg (by intro z;injection z with z1;injection z1 with z2 _;injection z2 with z3;exact Uc z3);apply⟨⟨x,dx,op,rm, ⟨eh,dh,lh,1,1,th, [], [],true⟩, ⟨ed,dd,ld,2,1,td, [], [],true⟩, ⟨eb,db,lb,2,1,tb, [], [],true⟩, [], [], [], [],false⟩,rfl,?_, ⟨rfl,rfl,rfl,rfl,rfl,rfl,rfl,rfl,rfl⟩, ⟨by decide,by decide, ⟨[],rfl⟩,λx hx=>by cases hx⟩⟩
 have uU:∀{tg:TG} {e SQ li:Addr} {d:Nat} {nm:String} {kids:List Addr},ir g H tg e SQ li d nm->tg.name=aG nm->tg.sh=false->aG nm≠[]->(li=lh\/li=ld\/li=lb)->H li=some (.lst (kids.map V.ref))->aQ g (λb=>b=x\/b=op\/b=lh\/b=ld\/b=lb\/b=th.d\/b=td.d\/b=tb.d) H ⟨e,SQ,li,d,1,tg, [], [],true⟩ kids:=by
  intro tg e SQ li d nm kids h hn hs dF uq hk;apply aQ.mk (λ_=>?_) (λq=>Bool.noConfusion q) (Lo h.ob Zz (by intro z;cases z) (by intro z;cases z) (by intro z;cases z) (by intro z;cases z)) (λ_=>⟨by rw[hn];exact h.ob,hk,S6 h hn hs dF⟩) (λq=>absurd rfl q);rcases uq with q|q|q
  .exact .inr (.inr (.inl q))
  .exact .inr (.inr (.inr (.inl q)))
  .exact .inr (.inr (.inr (.inr (.inl q))))
 apply⟨hx,.inl rfl,fw,.inr (.inl rfl),k8,?_, ⟨uU h1 nh RA nofun (.inl rfl) Jg,uU h2 nd Rz nofun (.inr (.inl rfl)) nR,uU h3 nb Ry nofun (.inr (.inr rfl)) iO,trivial⟩,?_,λpre n post h=>?_,λn hn=>?_,λn hn=>?_,λn hn=>?_, ⟨rfl,rfl,nh,?_⟩, ⟨rfl,rfl,nd,?_⟩, ⟨rfl,rfl,nb,?_⟩, ⟨n1,n2,n3⟩,λn hn=>?_,λi n h=>?_,λn hn=>?_,λn hn=>?_,λn hn=>?_,?_,λ_=>⟨rfl,rfl,rfl⟩,λb hb=>?_⟩
 .show¬(rm=x\/rm=op\/rm=lh\/rm=ld\/rm=lb\/rm=th.d\/rm=td.d\/rm=tb.d)
  intro q;rcases q with q|q|q|q|q|q|q|q
  .rw[q,hx]at k8;cases k8
  .rw[q,fw]at k8;cases k8
  .rw[q,Jg]at k8;cases k8
  .exact m2 q
  .exact m3 q
  .rw[q,h1.d_]at k8;cases k8
  .rw[q,h2.d_]at k8;cases k8
  .rw[q,h3.d_]at k8;cases k8
 .show [op,lh,ld,lb].Nodup
  have q1:op≠ld:=aE fw nR (by intro z;cases z);have q2:op≠lb:=aE fw iO (by intro z;cases z);have q3:lh≠ld:=aE Jg nR (by intro z;cases z);have q4:lh≠lb:=aE Jg iO (by intro z;cases z);simp[R8,q1,q2,q3,q4,m1]
 .have:=congrArg BJ h;simp at this
 .cases hn
 .cases hn
 .cases hn
 .exact .inr (.inr (.inr (.inr (.inr (.inl rfl)))))
 .exact .inr (.inr (.inr (.inr (.inr (.inr (.inl rfl))))))
 .exact .inr (.inr (.inr (.inr (.inr (.inr (.inr rfl))))))
 .cases hn
 .cases h
 .cases hn
 .cases hn
 .cases hn
 .exact⟨show 2<=1+1 by decide,λq=>absurd rfl q,show 2<=2+1 by decide,λq=>absurd rfl q,trivial⟩
 .rcases hb with q|q|q|q|q|q|q|q<;>rw[q]
  .exact⟨_,hx⟩
  .exact⟨_,fw⟩
  .exact⟨_,Jg⟩
  .exact⟨_,nR⟩
  .exact⟨_,iO⟩
  .exact⟨_,h1.d_⟩
  .exact⟨_,h2.d_⟩
  .exact⟨_,h3.d_⟩
theorem ok_Tree_init (g:G w K mg):aI P w K mg base bO 5 g.Tree_init.f g.Tree_init.fd ["self"] (sp_Tree_init g):=by
 apply g.Tree_init.fn.bW sc_Tree_init λvs H Q E h=>?_;obtain⟨x,dx,rfl,hx,k⟩:=h;apply⟨rfl,λ_ _ _ _ hr=>?_⟩;apply⟨_,%[aT (pv 0) (unop% N.Element_init %[unop% plain_tag %[aB|a],ag|a]) rfl,aT (pv 0) (unop% N.Element_init %[unop% plain_tag %[aB|a],ag|a]) rfl,aT (pv 0) (unop% N.Element_init %[unop% plain_tag %[aB|a],ag|a]) rfl,aT (ak (pv 0) rfl) (aM %[ak (pv 0) rfl,ak (pv 0) rfl|a]) rfl,aT (pv 0) (aM %[ak (pv 0) rfl,ak (pv 0) rfl|a]) rfl,aT (pv 0) (eu) rfl,aT (pv 0) (aM %[|a]) rfl|b],?_⟩;cbv;ext;apply Lq (nm:="html") (d:=1) nofun nofun λth eh dh NC A1 nh Si Jg s1 Xy RA E1 _=>?_;have WD:=s1 _ _ hx;apply⟨_,_,_,WD,g.cl_Tree,g.na_Tree_html,cq rfl,?_⟩;have b1:fB x A1 (upd A1 x (.ins g.k_Tree dx (bU "html" (V.ref eh) []))):=λb o e n=>by rw[ae n];exact e
 replace E1:=E1.x WD (.inl (by simp)) b1
 generalize Wb:upd A1 x (.ins g.k_Tree dx (bU "html" (V.ref eh) []))=B1 at b1 E1 ⊢;have SR:B1 x=some (.ins g.k_Tree dx [("html",V.ref eh)]):=by rw[<-Wb,aa];rfl
 have f1:∀{b},B1 b=none->A1 b=none:=λ{b} q=>by
  by_cases e:b=x
  .rw[e,SR]at q;cases q
  .rw[<-Wb,ae e]at q;exact q
 cbv;ext;apply Lq (nm:="head") (d:=2) nofun nofun λtd ed dd ld A2 nd YG nR s2 Xx Rz E2 l2=>?_;have Ri:=s2 _ _ SR;apply⟨_,_,_,Ri,g.cl_Tree,g.na_Tree_head,cq rfl,?_⟩;have b2:fB x A2 (upd A2 x (.ins g.k_Tree dx (bU "head" (V.ref ed) [("html",V.ref eh)]))):=λb o e n=>by rw[ae n];exact e
 replace E2:=E2.x Ri (.inl (by simp)) b2
 have SW:=(E1.x SR (.inl (by simp)) (aj.b s2 x)).x Ri (.inl (by simp)) b2;have QA:=b2 _ _ l2 (aE l2 Ri (by intro q;cases q));generalize Wa:upd A2 x (.ins g.k_Tree dx (bU "head" (V.ref ed) [("html",V.ref eh)]))=B2 at b2 E2 SW QA ⊢;have Rh:B2 x=some (.ins g.k_Tree dx [("html",V.ref eh), ("head",V.ref ed)]):=by rw[<-Wa,aa];rfl
 have f2:∀{b},B2 b=none->A2 b=none:=λ{b} q=>by
  by_cases e:b=x
  .rw[e,Rh]at q;cases q
  .rw[<-Wa,ae e]at q;exact q
 cbv;ext;apply Lq (nm:="body") (d:=2) nofun nofun λtb eb db lb A3 nb he3 iO s3 Xw Ry E3 l3=>?_;have Nm:=s3 _ _ Rh;apply⟨_,_,_,Nm,g.cl_Tree,g.na_Tree_body,cq rfl,?_⟩;have b3:fB x A3 (upd A3 x (.ins g.k_Tree dx (bU "body" (V.ref eb) [("html",V.ref eh), ("head",V.ref ed)]))):=λb o e n=>by rw[ae n];exact e
 replace E3:=E3.x Nm (.inl (by simp)) b3
 have Np:=(SW.x Rh (.inl (by simp)) (aj.b s3 x)).x Nm (.inl (by simp)) b3;have Og:=(E2.x Rh (.inl (by simp)) (aj.b s3 x)).x Nm (.inl (by simp)) b3;have Vw:=b3 _ _ (s3 _ _ QA) (aE (s3 _ _ QA) Nm (by intro q;cases q));have Vu:=b3 _ _ l3 (aE l3 Nm (by intro q;cases q));generalize V9:upd A3 x (.ins g.k_Tree dx (bU "body" (V.ref eb) [("html",V.ref eh), ("head",V.ref ed)]))=B3 at b3 E3 Np Og Vw Vu ⊢;have N9:B3 x=some (.ins g.k_Tree dx [("html",V.ref eh), ("head",V.ref ed), ("body",V.ref eb)]):=by rw[<-V9,aa];rfl
 have f3:∀{b},B3 b=none->A3 b=none:=λ{b} q=>by
  by_cases e:b=x
  .rw[e,N9]at q;cases q
  .rw[<-V9,ae e]at q;exact q
 have k3:∀b o,H b=some o->b≠x->B3 b=some o:=λb o e n=>b3 _ _ (s3 _ _ (b2 _ _ (s2 _ _ (b1 _ _ (s1 _ _ e) n)) n)) n;have g3:∀{b},B3 b=none->H b=none:=λq=>s1.free (f1 (s2.free (f2 (s3.free (f3 q)))));have g2:∀{b},B2 b=none->H b=none:=λq=>s1.free (f1 (s2.free (f2 q)));have g1:∀{b},B1 b=none->H b=none:=λq=>s1.free (f1 q);cbv;ext;apply⟨_,_,_,N9,g.cl_Tree,g.na_Tree_head,_,rfl,?_⟩;apply⟨_,_,_,N9,g.cl_Tree,g.na_Tree_body,_,rfl,?_⟩;ext;apply⟨by decide,λlh VP=>?_⟩;have s4:=aj.upd (o:= .lst [V.ref ed,V.ref eb]) VP;generalize Zd:upd B3 lh (.lst [V.ref ed,V.ref eb])=A4 at s4 ⊢;have WC:A4 lh=some (.lst [V.ref ed,V.ref eb]):=by rw[<-Zd,aa]
 apply⟨_,_,_,s4 _ _ N9,g.cl_Tree,g.na_Tree_html,_,rfl,?_⟩;ext;apply⟨_,_,_,s4 _ _ Np.ob,g.cl_Element,g.na_Element_inside,cq rfl,?_⟩;have b4:fB eh A4 (upd A4 eh (.ins g.k_Element dh (bU "inside" (V.ref lh) (hG 1 th.a (W (aG "html")) NC)))):=λb o e n=>by rw[ae n];exact e
 generalize V8:upd A4 eh (.ins g.k_Element dh (bU "inside" (V.ref lh) (hG 1 th.a (W (aG "html")) NC)))=B4 at b4 ⊢;have WA:B4 eh=some (.ins g.k_Element dh (hG 1 th.a (W (aG "html")) lh)):=by rw[<-V8,aa];rfl
 have Va:=s4 _ _ Np.ob;have vS:∀{b o},B3 b=some o->o≠.ins g.k_Element dh (hG 1 th.a (W (aG "html")) NC)->B4 b=some o:=λq z=>b4 _ _ (s4 _ _ q) (aE (s4 _ _ q) Va z);have Rr:∀{a n wd d sh tx wr},HO.ins g.k_Tag a (dw n wd d sh tx wr)≠.ins g.k_Element dh (hG 1 th.a (W (aG "html")) NC):=λz=>by injection z with _ _ z3;unfold dw hG at z3;injection z3 with z4 _;injection z4 with z5 _;exact absurd z5 nofun
 have Wo:∀{a t wd l},HO.ins g.k_Element a (hG 2 t wd l)≠.ins g.k_Element dh (hG 1 th.a (W (aG "html")) NC):=λz=>by injection z with _ _ z3;unfold hG at z3;injection z3 with _ z4;injection z4 with z5 _;injection z5 with _ z6;injection z6 with z7;lia
 have D1:ir g B4 th eh dh lh 1 "html":=⟨WA,vS Np.Kp Rr,vS Np.Kt (by intro q;cases q),vS Np.d_ (by intro q;cases q)⟩
 have D2:ir g B4 td ed dd ld 2 "head":=⟨vS Og.ob Wo,vS Og.Kp Rr,vS Og.Kt (by intro q;cases q),vS Og.d_ (by intro q;cases q)⟩
 have D3:ir g B4 tb eb db lb 2 "body":=⟨vS E3.ob Wo,vS E3.Kp Rr,vS E3.Kt (by intro q;cases q),vS E3.d_ (by intro q;cases q)⟩
 have Vv:=vS Vw (by intro q;cases q);have Vt:=vS Vu (by intro q;cases q);have ZQ:B4 lh=some (.lst [V.ref ed,V.ref eb]):=b4 _ _ WC (aE WC Va (by intro q;cases q));have Nk:B4 x=some (.ins g.k_Tree dx [("html",V.ref eh), ("head",V.ref ed), ("body",V.ref eb)]):=vS N9 (by intro z;injection z with _ _ z3;unfold hG at z3;injection z3 with _ z4;injection z4 with _ z5;injection z5 with _ z6;cases z6)
 have f4:∀{b},B4 b=none->B3 b=none:=λ{b} q=>by
  by_cases e:b=eh
  .rw[e,WA]at q;cases q
  .rw[<-V8,ae e]at q;exact s4.free q
 have k4:∀b o,H b=some o->b≠x->B4 b=some o:=λb o e n=>by
  have q1:b≠eh:=af e Si;exact b4 _ _ (s4 _ _ (k3 b o e n)) q1
 cbv;ext;apply⟨_,_,_,Nk,g.cl_Tree,g.na_Tree_html,_,rfl,?_⟩;apply⟨_,_,_,Nk,g.cl_Tree,g.na_Tree_body,_,rfl,?_⟩;ext;apply⟨by decide,λop fw=>?_⟩;have s5:=aj.upd (o:= .lst [V.ref eh,V.ref eb]) fw;generalize QZ:upd B4 op (.lst [V.ref eh,V.ref eb])=A5 at s5 ⊢;have WB:A5 op=some (.lst [V.ref eh,V.ref eb]):=by rw[<-QZ,aa]
 have Nl:=s5 _ _ Nk;apply⟨_,_,_,Nl,g.cl_Tree,g.na_Tree_opened,cq rfl,?_⟩;cbv;ext;apply⟨_,_,_,aa,g.cl_Tree,g.na_Tree_begun,cq rfl,?_⟩;rw[d5];apply⟨A0 _,λrm k8=>?_⟩;have RH:x≠rm:=af aa k8;apply⟨_,_,_,by rw[ae RH];exact aa,g.cl_Tree,g.na_Tree_remembered,cq rfl,?_⟩;have LA:A5 rm=none:=by rw[ae RH.symm]at k8;exact k8
 generalize Sq:upd (upd (upd A5 x _) rm (.lst [])) x _=B5;have ZO:B5 x=some (.ins g.k_Tree dx (ba eh ed eb op false rm)):=by rw[<-Sq,aa];rfl
 have ZP:B5 rm=some (.lst []):=by rw[<-Sq,ae RH.symm,aa]
 have b5:fB x A5 B5:=λb o e n=>by rw[<-Sq,ae n,ae (af e LA),ae n];exact e
 have ZY:=(D1.x Nk (.inl (by simp)) (aj.b s5 x)).x Nl (.inl (by simp)) b5;have ZX:=(D2.x Nk (.inl (by simp)) (aj.b s5 x)).x Nl (.inl (by simp)) b5;have ZW:=(D3.x Nk (.inl (by simp)) (aj.b s5 x)).x Nl (.inl (by simp)) b5;have RR:∀{b xs},B4 b=some (.lst xs)->B5 b=some (.lst xs):=λq=>b5 _ _ (s5 _ _ q) (aE (s5 _ _ q) Nl (by intro q;cases q));apply k _ B5 (yp ZO (b5 _ _ WB (aE WB Nl (by intro q;cases q))) ZP ZY ZX ZW (RR ZQ) (RR Vv) (RR Vt) ?_ ?_ ?_ ?_ ?_ ?_ Xy Xx Xw RA Rz Ry) (λb hb=>?_) (λb o e n=>b5 _ _ (s5 _ _ (k4 b o e n)) n)
 .exact af E1.d_ nd.d
 .exact af SW.d_ nb.d
 .exact af E2.d_ nb.d
 .exact af QA iO
 .exact(af (s5 _ _ Vv) LA).symm
 .exact(af (s5 _ _ Vt) LA).symm
 .rcases hb with q|q|q|q|q|q|q|q
  .exact .inl q
  .rw[q];exact .inr (g3 (f4 fw))
  .rw[q];exact .inr (g3 VP)
  .rw[q];exact .inr (g1 nR)
  .rw[q];exact .inr (g2 iO)
  .rw[q];exact .inr nh.d
  .rw[q];exact .inr (g1 nd.d)
  .rw[q];exact .inr (g2 nb.d)
theorem cH {p h:uh->Bool}:∀{l:List uh} {k:Nat},g0 l p h=some k->∃x,l[k]? =some x/\p x=true
 |[],_,q=>by cases q
 |x::l,k,q=>by
  rw[g0]at q
  split at q
  .next hp=>cases q;exact⟨x,rfl,hp⟩
  .split at q
   .cases q
   .cases h2:g0 l p h with
    |none=>rw[h2]at q;cases q
    |some j=>rw[h2]at q;cases q;obtain⟨y,h3,h4⟩:=cH h2;exact⟨y,h3,h4⟩
theorem eF {ws:List Aa} {h:uh->Bool} {k:Nat} (hb:Bd s) (hw:ws.contains (aG "body")=false) (q:g0 s.open_ (c5 ws) h=some k):k+1<s.open_.length:=by
 obtain⟨x,h1,h2⟩:=cH q;have hk:=fU q;obtain⟨l,e⟩:=hb.body
 by_cases gc:k+1<s.open_.length
 .exact gc
 .have hl:s.open_.length=l.length+1:=by rw[e];simp
  have:k=l.length:=by lia
  rw[e,this,BW (AE _),DP]at h1;have:x=(aG "body", []):=by simpa using h1.symm
  rw[this]at h2;have h2:ws.contains (aG "body")=true:=h2;rw[hw]at h2;cases h2
theorem dC:Rn=c5 [aG "table"]:=by
 funext x;unfold Rn c5;rw[BE,BZ,BY]
theorem jW (a b:List Aa):(λx=>c5 a x||c5 b x)=c5 (a++b):=by
 funext x;unfold c5;rw[G0]
theorem fM {s:String} (h:(aG s).all eW=true) {n:Aa}:W n=Str.ofString s↔n=aG s:=⟨λq=>ko (q.trans (Am h).symm),λq=>by rw[q];exact Am h⟩
def nM (s:a8):a8:=if rf s=true then S1 s else s
def Eo (s:a8) (ws lim:List Aa):a8:=match g0 s.open_ (c5 (lim++fh)) nL with
 |some k=>if(s.open_[k]?).any (c5 ws)=true then uw s k else s
 |none=>s
theorem ju {ws:List Aa} (hT:cz g F H p s) (bN:s.begun=true) (h1:ws.contains (aG "body")=false) (h2:ws.contains (aG "html")=false) (k:cg g F H p (zq s (c5 ws) nL) Q .aY):
  sp_Tree_close g [.ref p,.int (cP (λn=>ws.contains n) (dX s))] H Q E:=by
 rw[fI];unfold zq at k;cases hn:g0 s.open_ (c5 ws) nL with
 |none=>
  rw[hn]at k;simp only[h2,BS,if_false];exact oQ hT (k.now hT)
 |some j=>
  rw[hn]at k;exact dO hT bN j (eF hT.bd h1 hn) k
theorem jt {nm:Aa} (hT:cz g F H p s) (bN:s.begun=true) (h1:[nm].contains (aG "body")=false) (k:cg g F H p (zq s (c5 [nm]) (c5 fh)) Q .aY):
  sp_Tree_close g [.ref p,.int (dj nm (dX s))] H Q E:=by
 rw[sj nm s hT.bd];unfold zq at k;cases hn:g0 s.open_ (c5 [nm]) (c5 fh)with
 |none=>
  rw[hn]at k;exact oQ hT (k.now hT)
 |some j=>
  rw[hn]at k;exact dO hT bN j (eF hT.bd h1 hn) k
theorem qh (hT:cz g F H p s) {k:Nat} {x:uh} (hk:s.open_[k]? =some x):∃dx eh ed eb op rm,H p=some (.ins g.k_Tree dx (ba eh ed eb op s.begun rm))/\∃ns a,H op=some (.lst ns)/\qZ ns ((s.open_.length:Int)-k)=some (.ref a)/\∃d2 fs,H a=some (.ins g.k_Element d2 fs)/\C2 (Str.ofString "word") fs=some (.str (W x.1)):=by
 obtain⟨z,rfl,T,R,hb⟩:=hT;have hl:=R.len;have gc:=b7 hk;have e:(s.open_.length:Int)-k=((s.open_.length-k:Nat):Int):=by lia
 have hn:∃n,z.du[s.open_.length-k]? =some n/\n.tg.name=x.1:=by
  have h1:(dX s)[s.open_.length-k]? =some x.1:=by
   unfold dX;obtain⟨j,hj⟩:∃j,s.open_.length-k=j+1:=⟨s.open_.length-k-1,by lia⟩
   rw[hj,EA,List.getElem?_reverse (by rw[AF];lia),AV,AF,show s.open_.length-1-j=k by omega,hk];rfl
  rw[<-R.names T]at h1;unfold aV.names at h1;rw[AV]at h1;cases hz:z.du[s.open_.length-k]? with
  |none=>rw[hz]at h1;cases h1
  |some n=>rw[hz]at h1;exact⟨n,rfl,AH h1⟩
 obtain⟨n,hn,cx⟩:=hn;apply⟨_,_,_,_,_,_,by rw[R.begun];exact T.ob,_,n.a,T.op,?_,n.dx,_, (T.elem (AO hn)).1,by rw[<-cx];rfl⟩;rw[e];exact dG (by rw[AV,hn];rfl)
theorem pf (g:G w K mg) (H:Hp):bC K H g.c_FRAMES.a (WS Rd27.FRAMES):=g.c_FRAMES.sq H
theorem pz (g:G w K mg) (H:Hp):bC K H g.c_BLOCKS.a (WS Fo):=g.c_BLOCKS.sq H
theorem kO (g:G w K mg) (H:Hp):bC K H g.c_HEADINGS.a (WS S0):=g.c_HEADINGS.sq H
theorem sI (g:G w K mg) (H:Hp):bC K H g.c_PARTS.a (WS Ae):=g.c_PARTS.sq H
theorem tp (g:G w K mg) (H:Hp):bC K H g.c_CELLS.a (WS ug):=g.c_CELLS.sq H
theorem pb (g:G w K mg) (H:Hp):bC K H g.c_ROW_GROUPS.a (WS Nq):=g.c_ROW_GROUPS.sq H
theorem Ct (g:G w K mg) (H:Hp):bC K H g.c_HEADS.a (WS KC):=g.c_HEADS.sq H
theorem Cq (g:G w K mg) (H:Hp):bC K H g.c_ITEM_LIMITS.a (WS (["li","ul","ol","menu","dir"].map aG)):=g.c_ITEM_LIMITS.sq H
theorem Ig (g:G w K mg) (H:Hp):bC K H g.c_DEFINITION_LIMITS.a (WS (["dd","dt","dl"].map aG)):=g.c_DEFINITION_LIMITS.sq H
inductive sp_close_framing_table (g:G w K mg) (vs:List V) (H:Hp) (Q:VK) (_:XK):Prop
 |i (F:Addr->Prop) (p:Addr) (s:a8) (_:vs=[.ref p]) (_:cz g F H p s) (_:s.begun=true) (_:cg g F H p (nM s) Q .aY)
theorem ok_close_framing_table (g:G w K mg):aI P w K mg base bO 2 g.close_framing_table.f g.close_framing_table.fd ["tree"] (sp_close_framing_table g):=by
 apply g.close_framing_table.fn.bW sc_close_framing_table λvs H Q E h=>?_;obtain⟨F,p,s,rfl,hT,bN,k⟩:=h;apply⟨rfl,λ_ _ _ _ hr=>?_⟩;apply⟨_,%[aw (binrel_no_prop% op_in_seq (ak (unop% M.Tree_current (pv 0)) rfl) (g.c_FRAMES.pe rfl)) %[au (binop% Tree_close (pv 0) %[binop% Tree_nearest (pv 0) %[br %[aB|a]|a]|a])|b] %[|b]|b],?_⟩;obtain⟨dx,eh,ed,eb,op,rm,a6,ns,fw,lE⟩:=hT.ob;ext;apply⟨_,_,a6,rfl,dz hT λa dx d tg li ha _=>?_⟩;ext;apply⟨_,_,_,ha,g.cl_Element,g.na_Element_word,_,rfl,?_⟩;ext;apply cM (pf g H) ?_;apply bb (λh0=>?_) (λh0=>?_)
 .have ec:nM s=S1 s:=iP h0;rw[ec]at k;unfold S1 at k;rw[dC]at k;apply⟨_,_,a6,rfl,_,_,a6,rfl,by decide,λc hc=>?_⟩;have s1:=aj.upd (o:= .tup [V.str "table"]) hc;apply c8 (hT.same s1) (ws:=[aG "table"]) (bC.of aa) ?_;exact ju (hT.same s1) bN nofun nofun (k.same s1)
 .have ec:nM s=s:=iN h0;rw[ec]at k;exact k.now hT
inductive sp_close_nearest_of (g:G w K mg) (vs:List V) (H:Hp) (Q:VK) (_:XK):Prop
 |i (F:Addr->Prop) (p b c:Addr) (s:a8) (ws lim:List Aa) (_:vs=[.ref p,.ref b,.ref c]) (_:cz g F H p s) (_:s.begun=true) (_:bC K H b (WS ws)) (_:bC K H c (WS lim)) (_:lim≠[]) (_:lim.length<=100) (_:ws.contains (aG "body")=false) (_:cg g F H p (Eo s ws lim) Q .aY)
theorem ok_close_nearest_of (g:G w K mg):aI P w K mg base bO 2 g.close_nearest_of.f g.close_nearest_of.fd ["tree","words","limits"] (sp_close_nearest_of g):=by
 apply g.close_nearest_of.fn.bW sc_close_nearest_of λvs H Q E h=>?_;obtain⟨F,p,b,c,s,ws,lim,rfl,hT,bN,hb,hc,dF,hll,XX,k⟩:=h;apply⟨rfl,λ_ _ _ _ hr=>?_⟩;apply⟨_,%[leftact% close_nearest_of 3 (binop% Tree_nearest (pv 0) %[ay op_catT (pv 2) (g.c_WALLS.pe rfl)|a]),aw (binrel_no_prop% op_in_seq (ak (rightact% aN (ak (pv 0) rfl) (pv 3)) rfl) (pv 1)) %[au (binop% Tree_close (pv 0) %[pv 3|a])|b] %[|b]|b],?_⟩;obtain⟨dx,eh,ed,eb,op,rm,a6,ns,fw,lE⟩:=hT.ob;cbv;ext;apply⟨_,_,a6,rfl,c,g.c_WALLS.a,_,_,rfl,rfl,hc,je g H,?_,?_,λh0=>?_,λh0 q hq=>?_⟩
 .cases lim with
  |nil=>exact absurd rfl dF
  |cons a l=>intro q;cases q
 .simp[WS];have:fh.length=7:=rfl;exact cF (by lia)
 .cases h0
 have s1:=aj.upd (o:= .tup (WS lim++WS fh)) hq;generalize Fe:upd H q (.tup (WS lim++WS fh))=H1 at s1 ⊢;have cZ:=hT.same s1;have k1:=k.same s1;apply c8 cZ (ws:=lim++fh) (by rw[Bh];exact bC.of (by rw[<-Fe,aa])) ?_;rw[fI]
 have MF:∃j,g0 s.open_ (c5 (lim++fh)) nL=some j:=by
  rw[lM];cases hf:(s.open_.map (·.1)).findIdx? λn=>(lim++fh).contains n with
  |some j=>exact⟨j,rfl⟩
  |none=>
   exfalso;rw[FK]at hf;obtain⟨l,e⟩:=hT.bd.body;have:=hf (aG "body") (by rw[e];simp);rw[G0]at this;have h2:fh.contains (aG "body")=true:=by decide
   rw[h2,J1]at this;cases this
 obtain⟨j,hj⟩:=MF;rw[hj];obtain⟨x,hx,y8⟩:=cH hj;have Fd:=bC.same hb s1;unfold Eo at k1;rw[hj]at k1;simp only[hx,II]at k1;obtain⟨Wx,Wq,Wr,Wt,U9,ow,nZ,Ve,a2,zD,uE,d2,Wk,NX,y9⟩:=qh cZ hx;ext;apply⟨_,_,_,nZ,g.cl_Tree,g.na_Tree_opened,_,rfl,?_⟩;ext;apply⟨_,aL.of zD,_,uE,?_⟩;ext;apply⟨_,_,_,NX,g.cl_Element,g.na_Element_word,_,y9,?_⟩;ext;apply cM Fd ?_;have e:c5 ws x=ws.contains x.1:=rfl;rw[e]at k1;apply bb (λh0=>?_) (λh0=>?_)
 .rw[iP h0]at k1;apply⟨_,_,nZ,rfl,dO cZ bN j ?_ k1⟩;have Ew:=b7 hx;obtain⟨l,el⟩:=hT.bd.body
  by_cases gc:j+1<s.open_.length
  .exact gc
  .have hl:s.open_.length=l.length+1:=by rw[el];simp
   have:j=l.length:=by lia
   rw[el,this,BW (AE _),DP]at hx;have:x=(aG "body", []):=by simpa using hx.symm
   rw[this,XX]at h0;cases h0
 .rw[iN h0]at k1;exact k1.now cZ
theorem nA (s:a8) (p h:uh->Bool):(zq s p h).begun=s.begun:=by
 unfold zq
 split<;>rfl
theorem yJ (s:a8) (ws:List Aa):(bo s ws).begun=s.begun:=by
 unfold bo
 split<;>rfl
theorem yH (s:a8) (n:Aa):bo s [n]=if y0 s=n then uw s 0 else s:=by
 unfold bo;rw[BE,BZ,BY]
 by_cases h:y0 s=n
 .rw[iP h,iP (by rw[h];exact beq_self_eq_true _)]
 .rw[iN h,iN (by intro q;exact h (beq_iff_eq.mp q))]
def dQ (s:a8) (name:Aa):a8:=
 if S0.contains name=true then bo s S0
 else if name=aG "li" then Eo s [aG "li"] (["li","ul","ol","menu","dir"].map aG)
 else if name=aG "dd"\/name=aG "dt" then Eo s (["dd","dt"].map aG) (["dd","dt","dl"].map aG)
 else if name=aG "option" then bo s [aG "option"]
 else if name=aG "optgroup" then bo (bo s [aG "option"]) [aG "optgroup"]
 else if name=aG "button" then zq s (c5 [aG "button"]) nL
 else if name=aG "a" then gX (zq s (c5 [aG "a"]) (c5 fh)) (aG "a")
 else s
theorem iI (s:a8) (name:Aa):Ac s name=dQ (if Fo.contains name=true then zq s (c5 [aG "p"]) (c5 fh)else s) name:=by
 unfold Ac dQ;simp only[yH,<-jW];unfold bo Eo gX;simp only[<-jW]
 by_cases ha:name=aG "a"
 .subst ha;rfl
 .simp only[iN ha];rfl
inductive sp_close_for (g:G w K mg) (vs:List V) (H:Hp) (Q:VK) (_:XK):Prop
 |i (F:Addr->Prop) (p:Addr) (s:a8) (nm:Aa) (_:vs=[.ref p,.str (W nm)]) (_:cz g F H p s) (_:s.begun=true) (_:cg g F H p (Ac s nm) Q .aY)
theorem ok_close_for (g:G w K mg):aI P w K mg base bO 3 g.close_for.f g.close_for.fd ["tree","word"] (sp_close_for g):=by
 apply g.close_for.fn.bW sc_close_for λvs H Q E h=>?_;obtain⟨F,p,s0,nm,rfl,Nf,LI,k0⟩:=h;apply⟨rfl,λ_ _ _ _ hr=>?_⟩;apply⟨_,%[aw (binrel_no_prop% op_in_seq (pv 1) (g.c_BLOCKS.pe rfl)) %[au (binop% Tree_close (pv 0) %[binop% Tree_within_walls (pv 0) %[aB|a]|a])|b] %[|b],aw (binrel_no_prop% op_in_seq (pv 1) (g.c_HEADINGS.pe rfl)) %[au (binop% Tree_close_current (pv 0) %[g.c_HEADINGS.pe rfl|a])|b] %[aw (binrel% op_eq (pv 1) (aB)) %[au (unop% close_nearest_of %[pv 0,br %[aB|a],g.c_ITEM_LIMITS.pe rfl|a])|b] %[aw (binrel_no_prop% op_in_seq (pv 1) (br %[aB,aB|a])) %[au (unop% close_nearest_of %[pv 0,br %[aB,aB|a],g.c_DEFINITION_LIMITS.pe rfl|a])|b] %[aw (binrel% op_eq (pv 1) (aB)) %[au (binop% Tree_close_current (pv 0) %[br %[aB|a]|a])|b] %[aw (binrel% op_eq (pv 1) (aB)) %[au (binop% Tree_close_current (pv 0) %[br %[aB|a]|a]),au (binop% Tree_close_current (pv 0) %[br %[aB|a]|a])|b] %[aw (binrel% op_eq (pv 1) (aB)) %[au (binop% Tree_close (pv 0) %[binop% Tree_nearest (pv 0) %[br %[aB|a]|a]|a])|b] %[aw (binrel% op_eq (pv 1) (aB)) %[au (binop% Tree_close (pv 0) %[binop% Tree_within_walls (pv 0) %[aB|a]|a]),au (binop% Tree_forget_all (pv 0) %[aB|a])|b] %[|b]|b]|b]|b]|b]|b]|b]|b],?_⟩;rw[iI]at k0;apply g7 λR hR=>?_
 have rest:∀(F:Addr->Prop) (H:Hp) (s:a8),cz g F H p s->s.begun=true->cg g F H p (dQ s nm) Q .aY->R [some (.ref p),some (.str (W nm))] H:=by
  intro F H s hT bN k;subst hR;obtain⟨dx,eh,ed,eb,op,rm,a6,ns,fw,lE⟩:=hT.ob;unfold dQ at k;ext;apply cM (kO g H) ?_;apply bb (λh0=>?_) (λh0=>?_)
  .rw[iP h0]at k;exact⟨_,_,a6,rfl,F,p,_,s,_,rfl,hT,bN,kO g H,by decide,k⟩
  rw[iN h0]at k;ext;apply bb (λh1=>?_) (λh1=>?_)
  .rw[iP ((fM nofun).mp h1)]at k;apply⟨by decide,λc hc=>?_⟩;have s1:=aj.upd (o:= .tup [V.str "li"]) hc;exact⟨F,p,c,_,s, [aG "li"],_,rfl,hT.same s1,bN,bC.of aa,Cq g _,by decide,by decide,by decide,k.same s1⟩
  rw[iN (λq=>h1 ((fM nofun).mpr q))]at k;apply⟨by decide,λc hc=>?_⟩;have s1:=aj.upd (o:= .tup [V.str "dd",V.str "dt"]) hc;have a6:=s1 _ _ a6;have hT:=hT.same s1;have k:=k.same s1;have g9:bC K (upd H c (.tup [V.str "dd",V.str "dt"])) c (WS (["dd","dt"].map aG)):=bC.of aa;generalize upd H c (.tup [V.str "dd",V.str "dt"])=H1 at g9 a6 hT k s1;apply cM g9 ?_
  have ed:((["dd","dt"].map aG).contains nm=true)↔nm=aG "dd"\/nm=aG "dt":=by
   show((nm==aG "dd")||((nm==aG "dt")||false))=true↔_
   simp
  apply bb (λh2=>?_) (λh2=>?_)
  .rw[iP (ed.mp h2)]at k;apply⟨by decide,λc2 g8=>?_⟩;have s2:=aj.upd (o:= .tup [V.str "dd",V.str "dt"]) g8;exact⟨F,p,c2,_,s, ["dd","dt"].map aG,_,rfl,hT.same s2,bN,bC.of aa,Ig g _,by decide,by decide,by decide,k.same s2⟩
  rw[iN (λq=>h2 (ed.mpr q))]at k;ext;apply bb (λh3=>?_) (λh3=>?_)
  .rw[iP ((fM nofun).mp h3)]at k;apply⟨_,_,a6,rfl,by decide,λc2 g8=>?_⟩;have s2:=aj.upd (o:= .tup [V.str "option"]) g8;exact⟨F,p,c2,s, [aG "option"],rfl,hT.same s2,bN,bC.of aa,by decide,k.same s2⟩
  rw[iN (λq=>h3 ((fM nofun).mpr q))]at k;apply bb (λh4=>?_) (λh4=>?_)
  .rw[iP ((fM nofun).mp h4)]at k;cbv;ext;apply⟨_,_,a6,rfl,by decide,λc2 g8=>?_⟩;have s2:=aj.upd (o:= .tup [V.str "option"]) g8;apply⟨F,p,c2,s, [aG "option"],rfl,hT.same s2,bN,bC.of aa,by decide,λF3 H3 eJ il jF=>?_⟩;have k3:=(k.same s2).after eJ il jF;obtain⟨dx,eh,ed,eb,op,rm,nY,_⟩:=eJ.ob;ext;apply⟨_,_,nY,rfl,by decide,λc4 YQ=>?_⟩;have s4:=aj.upd (o:= .tup [V.str "optgroup"]) YQ;exact⟨F3,p,c4,_, [aG "optgroup"],rfl,eJ.same s4,by rw[yJ];exact bN,bC.of aa,by decide,k3.same s4⟩
  rw[iN (λq=>h4 ((fM nofun).mpr q))]at k;apply bb (λh5=>?_) (λh5=>?_)
  .rw[iP ((fM nofun).mp h5)]at k;apply⟨_,_,a6,rfl,_,_,a6,rfl,by decide,λc2 g8=>?_⟩;have s2:=aj.upd (o:= .tup [V.str "button"]) g8;apply c8 (hT.same s2) (ws:=[aG "button"]) (bC.of aa) ?_;exact ju (hT.same s2) bN nofun nofun (k.same s2)
  rw[iN (λq=>h5 ((fM nofun).mpr q))]at k;apply bb (λh6=>?_) (λh6=>?_)
  .rw[iP ((fM nofun).mp h6)]at k;cbv;ext;apply⟨_,_,a6,rfl,_,_,a6,rfl,mJ (nm:=aG "a") hT ?_⟩;apply jt hT bN nofun λF3 H3 eJ il jF=>?_;have k3:=k.after eJ il jF;obtain⟨dx,eh,ed,eb,op,rm,nY,_⟩:=eJ.ob;ext;exact⟨_,_,nY,rfl,F3,p,_,aG "a",rfl,eJ,by rw[nA];exact bN,k3⟩
  rw[iN (λq=>h6 ((fM nofun).mpr q))]at k;exact k.now hT
 clear hR;ext;obtain⟨dx,eh,ed,eb,op,rm,a6,_⟩:=Nf.ob;apply cM (pz g _) ?_;apply bb (λh0=>?_) (λh0=>?_)
 .rw[iP h0]at k0;apply⟨_,_,a6,rfl,_,_,a6,rfl,mJ (nm:=aG "p") Nf ?_⟩;apply jt Nf LI nofun λF3 H3 eJ il jF=>?_;exact rest F3 H3 _ eJ (by rw[nA];exact LI) (k0.after eJ il jF)
 .rw[iN h0]at k0;exact rest F _ s0 Nf LI k0
def bj (s:a8):Prop:=∃k,g0 s.open_ (c5 [aG "table"]) nL=some k
theorem jT (h:bj s) (ws:List Aa):∃k,g0 s.open_ (c5 (aG "table"::ws)) nL=some k:=by
 obtain⟨k,hk⟩:=h;rw[lM];cases hf:(s.open_.map (·.1)).findIdx? λn=>(aG "table"::ws).contains n with
 |some j=>exact⟨j,rfl⟩
 |none=>
  exfalso;rw[FK]at hf;obtain⟨x,h1,h2⟩:=cH hk;have:=hf x.1 (BC.mpr ⟨x,AO h1,rfl⟩);have h2:((x.1==aG "table")||false)=true:=h2;rw[BY]at h2;rw[BE,h2]at this;cases this
def cJ (s:a8):a8×List String:=
 (Fp s (aG "table"::Nq),if Nq.contains (y0 (Fp s (aG "table"::Nq)))=true then []else ["tbody"])
def roomOf (s:a8) (name:Aa):a8×List String:=
 if name=aG "col" then(if y0 s=aG "colgroup" then(s, [])else(Fp s [aG "table"], ["colgroup"]))
 else if name=aG "tr" then cJ s
 else if name=aG "td"\/name=aG "th" then(if y0 s=aG "tr" then(s, [])else((cJ s).1, (cJ s).2++["tr"]))
 else(Fp s [aG "table"], [])
theorem iB (s:a8):(cJ s).2.length<=1/\∀n∈(cJ s).2,n∈nW:=by
 unfold cJ;simp only
 split
 .exact⟨by decide,λn hn=>by cases hn⟩
 .exact⟨by decide,λn hn=>by rw[DO.mp hn];decide⟩
theorem oW (s:a8) (name:Aa):(roomOf s name).2.length<=2/\∀n∈(roomOf s name).2,n∈nW:=by
 obtain⟨h1,h2⟩:=iB s;unfold roomOf
 split
 .split
  .exact⟨by simp,λn hn=>by cases hn⟩
  .exact⟨by simp,λn hn=>by rw[DO.mp hn];decide⟩
 .split
  .exact⟨by nofun,h2⟩
  .split
   .split
    .exact⟨by simp,λn hn=>by cases hn⟩
    .refine⟨by simp;nofun,λn hn=>?_⟩;rcases AU.mp hn with q|q
     .exact h2 n q
     .rw[DO.mp q];decide
   .exact⟨by simp,λn hn=>by cases hn⟩
theorem gR (s:a8) (ws:List Aa):Sz (Fp s ws)=Sz s/\(Fp s ws).begun=s.begun:=by
 unfold Fp
 split<;>exact⟨rfl,rfl⟩
theorem kz (s:a8) (name:Aa):Sz (roomOf s name).1=Sz s/\(roomOf s name).1.begun=s.begun:=by
 unfold roomOf cJ
 split
 .split
  .exact⟨rfl,rfl⟩
  .exact gR ..
 .split
  .exact gR ..
  .split
   .split
    .exact⟨rfl,rfl⟩
    .exact gR ..
   .exact gR ..
def VS (names:List String):List V:=names.map λn=>V.str (Str.ofString n)
def wg (g:G w K mg) (F:Addr->Prop) (H:Hp) (p:Addr) (r:a8×List String) (Q:VK):Prop:=∀(F':Addr->Prop) (H':Hp) (l:Addr),cz g F' H' p r.1->aS F F' H->bc F H H'->H' l=some (.lst (VS r.2))->¬F' l->H l=none->Q (.ref l) H'
theorem wg.new {F F1:Addr->Prop} {H H1:Hp} {r:a8×List String} (k:wg g F H p r Q) (hT:cz g F1 H1 p r.1) (gr:aS F F1 H) (kp:bc F H H1) (l:Addr) (hl:H1 l=none):Q (.ref l) (upd H1 l (.lst (VS r.2))):=
 k F1 _ l (hT.same (aj.upd hl)) gr (λb o e n=>aj.upd hl b o (kp b o e n)) aa (hT.out hl) (gz hT gr kp hl)
inductive sp_make_row_room (g:G w K mg) (vs:List V) (H:Hp) (Q:VK) (_:XK):Prop
 |i (F:Addr->Prop) (p:Addr) (s:a8) (_:vs=[.ref p]) (_:cz g F H p s) (_:s.begun=true) (_:bj s) (_:wg g F H p (cJ s) Q)
theorem ok_make_row_room (g:G w K mg):aI P w K mg base bO 3 g.make_row_room.f g.make_row_room.fd ["tree"] (sp_make_row_room g):=by
 apply g.make_row_room.fn.bW sc_make_row_room λvs H Q E h=>?_;obtain⟨F,p,s,rfl,hT,bN,ht,k⟩:=h;apply⟨rfl,λ_ _ _ _ hr=>?_⟩;apply⟨_,%[au (binop% Tree_close_within_table (pv 0) %[g.c_ROW_GROUPS.pe rfl|a]),aw (binrel_no_prop% op_in_seq (ak (unop% M.Tree_current (pv 0)) rfl) (g.c_ROW_GROUPS.pe rfl)) %[ao (aM %[|a])|b] %[|b],ao (aM %[aB|a])|b],?_⟩;obtain⟨dx,eh,ed,eb,op,rm,a6,ns,fw,lE⟩:=hT.ob;obtain⟨k1,gf⟩:=jT ht Nq;cbv;ext;apply⟨_,_,a6,rfl,F,p,_,s,Nq,k1,rfl,hT,bN,pb g H,by decide,gf,λF1 H1 cZ nS kY=>?_⟩;obtain⟨dx,eh,ed,eb,op,rm,nZ,_⟩:=cZ.ob;cbv;ext;apply⟨_,_,nZ,rfl,dz cZ λa dx d tg li ha _=>?_⟩;ext;apply⟨_,_,_,ha,g.cl_Element,g.na_Element_word,_,rfl,?_⟩;ext;apply cM (pb g H1) ?_;have k':=λl hl=>k.new cZ nS kY l hl;unfold cJ at k';simp only at k';apply bb (λh0=>?_) (λh0=>?_)
 .rw[iP h0]at k';exact⟨A0 _,λl hl=>k' l hl⟩
 .rw[iN h0]at k';exact⟨by decide,λl hl=>k' l hl⟩
inductive sp_make_room (g:G w K mg) (vs:List V) (H:Hp) (Q:VK) (_:XK):Prop
 |i (F:Addr->Prop) (p:Addr) (s:a8) (nm:Aa) (_:vs=[.ref p,.str (W nm)]) (_:cz g F H p s) (_:s.begun=true) (_:bj s) (_:wg g F H p (roomOf s nm) Q)
theorem ok_make_room (g:G w K mg):aI P w K mg base bO 4 g.make_room.f g.make_room.fd ["tree","word"] (sp_make_room g):=by
 apply g.make_room.fn.bW sc_make_room λvs H Q E h=>?_;obtain⟨F,p,s,nm,rfl,hT,bN,ht,k⟩:=h;apply⟨rfl,λ_ _ _ _ hr=>?_⟩;apply⟨_,%[leftact% make_room 2 (ak (unop% M.Tree_current (pv 0)) rfl),aw (binrel% op_eq (pv 1) (aB)) %[aw (binrel% op_eq (pv 2) (aB)) %[ao (aM %[|a])|b] %[|b],au (binop% Tree_close_within_table (pv 0) %[br %[|a]|a]),ao (aM %[aB|a])|b] %[|b],aw (binrel% op_eq (pv 1) (aB)) %[ao (unop% make_row_room %[pv 0|a])|b] %[|b],aw (binrel_no_prop% op_in_seq (pv 1) (br %[aB,aB|a])) %[aw (binrel% op_eq (pv 2) (aB)) %[ao (aM %[|a])|b] %[|b],ao (ay op_cat (unop% make_row_room %[pv 0|a]) (aM %[aB|a]))|b] %[|b],au (binop% Tree_close_within_table (pv 0) %[br %[|a]|a]),ao (aM %[|a])|b],?_⟩;obtain⟨dx,eh,ed,eb,op,rm,a6,ns,fw,lE⟩:=hT.ob;obtain⟨k1,gf⟩:=jT ht [];cbv;ext;apply⟨_,_,a6,rfl,dz hT λa dx d tg li ha _=>?_⟩;ext;apply⟨_,_,_,ha,g.cl_Element,g.na_Element_word,_,rfl,?_⟩;cbv;ext;unfold roomOf at k;apply bb (λh0=>?_) (λh0=>?_)
 .rw[iP ((fM nofun).mp h0)]at k;cbv;ext;apply bb (λh1=>?_) (λh1=>?_)
  .rw[iP ((fM nofun).mp h1)]at k;exact⟨A0 _,λl hl=>k.new hT (aS.refl F H) (bc.refl F H) l hl⟩
  rw[iN (λq=>h1 ((fM nofun).mpr q))]at k;cbv;ext;apply⟨_,_,a6,rfl,A0 _,λc hc=>?_⟩;have s1:=aj.upd (o:= .tup []) hc;apply⟨F,p,c,s, [],k1,rfl,hT.same s1,bN,bC.of aa,by decide,gf,λF1 H1 cZ nS kY=>?_⟩;apply⟨by decide,λl hl=>k.new cZ ⟨nS.1,λb q=>(nS.2 b q).imp id λz=>s1.free z⟩ (λb o e n=>kY b o (s1 b o e) n) l hl⟩
 rw[iN (λq=>h0 ((fM nofun).mpr q))]at k;cbv;ext;apply bb (λh1=>?_) (λh1=>?_)
 .rw[iP ((fM nofun).mp h1)]at k;exact⟨F,p,s,rfl,hT,bN,ht,k⟩
 rw[iN (λq=>h1 ((fM nofun).mpr q))]at k;cbv;ext;apply⟨by decide,λc hc=>?_⟩;have s1:=aj.upd (o:= .tup [V.str "td",V.str "th"]) hc;have a6:=s1 _ _ a6;have cZ:=hT.same s1;have g9:bC K (upd H c (.tup [V.str "td",V.str "th"])) c (WS (["td","th"].map aG)):=bC.of aa;have back:∀{F1:Addr->Prop} {H1:Hp},aS F F1 (upd H c (.tup [V.str "td",V.str "th"]))->bc F (upd H c (.tup [V.str "td",V.str "th"])) H1->aS F F1 H/\bc F H H1:=λgr kp=>⟨⟨gr.1,λb q=>(gr.2 b q).imp id λz=>s1.free z⟩,λb o e n=>kp b o (s1 b o e) n⟩
 have Q9:∀{b},upd H c (.tup [V.str "td",V.str "th"]) b=none->H b=none:=λz=>s1.free z;generalize Fe:upd H c (.tup [V.str "td",V.str "th"])=H1 at g9 a6 cZ s1 back Q9;apply cM g9 ?_
 have ed:((["td","th"].map aG).contains nm=true)↔nm=aG "td"\/nm=aG "th":=by
  show((nm==aG "td")||((nm==aG "th")||false))=true↔_
  simp
 apply bb (λh2=>?_) (λh2=>?_)
 .rw[iP (ed.mp h2)]at k;cbv;ext;apply bb (λh3=>?_) (λh3=>?_)
  .rw[iP ((fM nofun).mp h3)]at k;exact⟨A0 _,λl hl=>k.new cZ (aS.refl F H) (aj.keep s1 F) l hl⟩
  rw[iN (λq=>h3 ((fM nofun).mpr q))]at k;ext;apply⟨F,p,s,rfl,cZ,bN,ht,λF2 H2 l2 c9 ur lD nR QR QM=>?_⟩;ext;apply⟨by decide,λl3 iO=>?_⟩;have s3:=aj.upd (o:= .lst [V.str "tr"]) iO;have Wh:upd H2 l3 (.lst [V.str "tr"]) l3=some (.lst [V.str "tr"]):=aa;have eJ:=c9.same s3;generalize upd H2 l3 (.lst [V.str "tr"])=H3 at s3 Wh eJ;apply⟨l2,l3,_,_,rfl,rfl,s3 _ _ nR,Wh,?_,λl4 zc=>?_⟩
  .have:=(iB s).1;simp[VS];exact cF (by nofun)
  .have e:VS (cJ s).2++[V.str "tr"]=VS ((cJ s).2++["tr"]):=by unfold VS;rw[AL];rfl
   rw[e];obtain⟨g2,p2⟩:=back ur lD;exact k.new eJ g2 (λb o q n=>s3 _ _ (p2 b o q n)) l4 zc
 rw[iN (λq=>h2 (ed.mpr q))]at k;cbv;ext;apply⟨_,_,a6,rfl,A0 _,λc2 g8=>?_⟩;have s2:=aj.upd (o:= .tup []) g8;apply⟨F,p,c2,s, [],k1,rfl,cZ.same s2,bN,bC.of aa,by decide,gf,λF3 H3 eJ il jF=>?_⟩;obtain⟨g2,p2⟩:=back (⟨il.1,λb q=>(il.2 b q).imp id λz=>s2.free z⟩) (λb o e n=>jF b o (s2 b o e) n);exact⟨A0 _,λl hl=>k.new eJ g2 p2 l hl⟩
def aD (s:a8):a8:=match g0 s.open_ (λx=>c5 ug x||Rn x) nL with
 |some k=>if(s.open_[k]?).any (c5 ug)=true then uw s k else s
 |none=>s
def eT (s0:a8) (name:Aa) (a:List cO) (sh:Bool) (text:Aa):a8×Bool:=
 if rf (aD s0)=true then nV (roomOf (aD s0) name).1 (roomOf (aD s0) name).2 name a sh text else(aD s0,false)
theorem iD (s:a8):Sz (aD s)=Sz s/\(aD s).begun=s.begun:=by
 unfold aD
 split
 .split<;>exact⟨rfl,rfl⟩
 .exact⟨rfl,rfl⟩
inductive sp_start_part (g:G w K mg) (vs:List V) (H:Hp) (Q:VK) (_:XK):Prop
 |i (F:Addr->Prop) (p:Addr) (s:a8) (tg:TG) (a:List cO) (text:Aa) (_:vs=[.ref p,.ref tg.a]) (_:cz g F H p s) (_:s.begun=true) (_:Sz s<=790000) (_:d4 g F H tg a text) (_:(rf (aD s)=true->bj (aD s))) (_:cg g F H p (eT s tg.name a tg.sh text).1 Q (.bl (eT s tg.name a tg.sh text).2))
theorem ok_start_part (g:G w K mg):aI P w K mg base bO 7 g.start_part.f g.start_part.fd ["tree","tag"] (sp_start_part g):=by
 apply g.start_part.fn.bW sc_start_part λvs H Q E h=>?_;obtain⟨F,p,s,tg,a,text,rfl,hT,bN,hsz,hP,kZ,k⟩:=h;apply⟨rfl,λ_ _ _ _ hr=>?_⟩;apply⟨_,%[leftact% start_part 2 (binop% Tree_nearest (pv 0) %[ay op_catT (g.c_CELLS.pe rfl) (br %[aB|a])|a]),aw (PW.pt (bG (binrel% op_ge (pv 2) (ag)) (a9 (binrel_no_prop% op_in_seq (ak (rightact% aN (ak (pv 0) rfl) (pv 2)) rfl) (g.c_CELLS.pe rfl))))) %[au (binop% Tree_close (pv 0) %[pv 2|a])|b] %[|b],aw (binrel_no_prop% op_notIn_seq (ak (unop% M.Tree_current (pv 0)) rfl) (g.c_FRAMES.pe rfl)) %[ao (eu)|b] %[|b],ao (binop% Tree_put_implying (pv 0) %[unop% make_room %[pv 0,ak (pv 1) rfl|a],pv 1|a])|b],?_⟩;obtain⟨dx,eh,ed,eb,op,rm,a6,ns,fw,lE⟩:=hT.ob;cbv;ext;apply⟨_,_,a6,rfl,by decide,λc hc=>?_⟩;have s1:=aj.upd (o:= .tup [V.str "table"]) hc;apply⟨g.c_CELLS.a,c,_,_,rfl,rfl,tp g _,bC.of aa, (by intro q;cases q), nofun, (λh0=>by cases h0),λ_ c2 g8=>?_⟩;have s2:=s1.trans (aj.upd (o:= .tup (WS ug++[V.str "table"])) g8);have NV:bC K (upd (upd H c (.tup [V.str "table"])) c2 (.tup (WS ug++[V.str "table"]))) c2 (WS (ug++[aG "table"])):=by rw[Bh];exact bC.of aa
 have k2:=k.same s2;have c9:=hT.same s2;have lF:d4 g F (upd (upd H c (.tup [V.str "table"])) c2 (.tup (WS ug++[V.str "table"]))) tg a text:=hP.keep (aS.refl F H) (aj.keep s2 F);generalize upd (upd H c (.tup [V.str "table"])) c2 (.tup (WS ug++[V.str "table"]))=H2 at s2 NV k2 c9 lF;have iV:=s2 _ _ a6;apply c8 c9 NV ?_;rw[fI];ext;apply g7 λR hR=>?_
 have rest:∀(F3:Addr->Prop) (H3:Hp) (v:V),cz g F3 H3 p (aD s)->aS F F3 H2->bc F H2 H3->R [some (.ref p),some (.ref tg.a),some v] H3:=by
  intro F3 H3 v eJ il jF;subst hR;have k3:=k2.after eJ il jF;have QU:=lF.keep il jF;have O3:(aD s).begun=true:=by rw[(iD s).2];exact bN
  obtain⟨dx,eh,ed,eb,op,rm,nY,_⟩:=eJ.ob;unfold eT at k3;cbv;ext;apply⟨_,_,nY,rfl,dz eJ λca ZN cd ZM cli ha _=>?_⟩;ext;apply⟨_,_,_,ha,g.cl_Element,g.na_Element_word,_,rfl,?_⟩;ext;apply mR (pf g H3) ?_;apply bb (λh0=>?_) (λh0=>?_)
  .have h0:rf (aD s)=false:=by unfold rf;simpa using h0
   rw[h0,iN nofun]at k3;exact k3.now eJ
  have h0:rf (aD s)=true:=by unfold rf;simpa using h0
  rw[iP h0]at k3;ext;apply⟨_,_,nY,rfl,_,_,_,QU.tb.ob,g.cl_Tag,g.na_Tag_word,_,rfl,?_⟩;apply⟨F3,p,aD s,tg.name,rfl,eJ,O3,kZ h0,λF4 H4 l4 NY Q7 QB zc Nc VM=>?_⟩;have k4:=k3.after NY Q7 QB;obtain⟨q1,q2⟩:=oW (aD s) tg.name;obtain⟨q3,q4⟩:=kz (aD s) tg.name;apply⟨F4,p,l4,_, (roomOf (aD s) tg.name).2,tg,a,text,rfl,NY,by rw[q4];exact O3,by rw[q3, (iD s).1];exact hsz,zc,Nc,q1,q2,QU.keep Q7 QB,k4⟩
 clear hR;apply kj λZV V7=>?_;have eS:g0 s.open_ (λx=>c5 ug x||Rn x) nL=g0 s.open_ (c5 (ug++[aG "table"])) nL:=by rw[dC,jW]
 have fin:aD s=s->ZV [some (.ref p),some (.ref tg.a),some (.int (match g0 s.open_ (c5 (ug++[aG "table"])) nL with|some k=>(s.open_.length:Int)-k|none=>if(ug++[aG "table"]).contains (aG "html")=true then 0 else-1))] H2:=by
  intro e;subst V7;ext;apply rest F H2 _ ?_ (aS.refl F H2) (bc.refl F H2);rw[e];exact c9
 clear V7;cases hn:g0 s.open_ (c5 (ug++[aG "table"])) nL with
 |none=>
  have e:aD s=s:=by unfold aD;rw[eS,hn]
  have f:=fin e;rw[hn]at f;have hh:(ug++[aG "table"]).contains (aG "html")=false:=by decide
  simp only[hh,BS,if_false]at f ⊢;ext;exact nN nofun f
 |some j=>
  obtain⟨x,hx,y8⟩:=cH hn;have Ew:=eF hT.bd nofun hn;obtain⟨Wx,Wq,Wr,Wt,U9,ow,nZ,Ve,a2,zD,uE,d2,Wk,NX,y9⟩:=qh c9 hx;have f:=fin;rw[hn]at f;simp only at f ⊢;ext;apply rj (by lia) ?_;apply⟨_,_,_,nZ,g.cl_Tree,g.na_Tree_opened,_,rfl,?_⟩;ext;apply⟨_,aL.of zD,_,uE,?_⟩;ext;apply⟨_,_,_,NX,g.cl_Element,g.na_Element_word,_,y9,?_⟩;ext;apply cM (tp g H2) ?_;have ex:(s.open_[j]?).any (c5 ug)=ug.contains x.1:=by rw[hx];rfl
  apply bb (λh0=>?_) (λh0=>?_)
  .have e:aD s=uw s j:=by unfold aD;rw[eS,hn];simp only;rw[ex,iP h0]
   apply⟨_,_,nZ,rfl,dO c9 bN j Ew λF3 H3 eJ il jF=>?_⟩;exact rest F3 H3 _ (by rw[e];exact eJ) il jF
  .refine f ?_;unfold aD;rw[eS,hn];simp only;rw[ex,iN h0]
def zp (s t:a8):Prop:=Sz t=Sz s/\t.begun=s.begun
theorem zp.trans {a b c:a8} (h:zp a b) (k:zp b c):zp a c:=⟨k.1.trans h.1,k.2.trans h.2⟩
theorem jj (s:a8) (p h:uh->Bool):zp s (zq s p h):=by
 unfold zq
 split<;>exact⟨rfl,rfl⟩
theorem ja (s:a8) (ws:List Aa):zp s (bo s ws):=by
 unfold bo
 split<;>exact⟨rfl,rfl⟩
theorem Aw (s:a8) (ws lim:List Aa):zp s (Eo s ws lim):=by
 unfold Eo
 split
 .split<;>exact⟨rfl,rfl⟩
 .exact⟨rfl,rfl⟩
theorem gP (s:a8):zp s (nM s):=by
 unfold nM
 split
 .exact jj ..
 .exact⟨rfl,rfl⟩
theorem qO (s:a8) (n:Aa):zp s (dQ s n):=by
 unfold dQ
 split
 .exact ja ..
 split
 .exact Aw ..
 split
 .exact Aw ..
 split
 .exact ja ..
 split
 .exact(ja ..).trans (ja ..)
 split
 .exact jj ..
 split
 .exact(jj s (c5 [aG "a"]) (c5 fh)).trans ⟨rfl,rfl⟩
 .exact⟨rfl,rfl⟩
theorem gI (s:a8) (n:Aa):zp s (Ac s n):=by
 rw[iI];apply zp.trans ?_ (qO ..)
 split
 .exact jj ..
 .exact⟨rfl,rfl⟩
theorem dS (hb:s.again.length<=8):Sz (Ek s)<=Sz s+8/\(Ek s).begun=s.begun:=by
 obtain⟨h1,h2⟩:=jd (λx:uh=>x.1) (λx=>x.2) s.again {s with again:=[]};have h3:Sz {s with again:=[]}=Sz s:=rfl;unfold Ek;exact⟨by lia,h2⟩
def bD (s:a8) (name:Aa):a8:=Ac (if Ad.contains name=true then s else nM s) name
def mStart (s:a8) (name:Aa) (a:List cO) (sh:Bool) (text:Aa):a8×Bool:=
 if name=aG "html" then(cC s 0 a,false)
 else if name=aG "body" then(cC s 2 a,false)
 else if name=aG "head" then(s,false)
 else if Ae.contains name=true then eT s name a sh text
 else if name=aG "form"/\(bD s name).open_.any (c5 [aG "form"])=true then(bD s name,false)
 else bX (if Fo.contains name=true then bD s name else Ek (bD s name)) name a sh text
theorem sU (p:uh->Bool):∀l:List uh, (g0 l p nL).isSome=l.any p
 |[]=>rfl
 |x::l=>by
  rw[g0,CS,<-sU p l];cases p x with
  |true=>rfl
  |false=>
   show(if false=true then none else _:Option Nat).isSome=_
   rw[iN nofun,iN (show¬nL x=true by unfold nL;decide),FQ];rfl
theorem pW {tg:TG} {a:List cO} {text:Aa} {i:Nat} {e:Addr} (hT:cz g F H p s) (hP:d4 g F H tg a text) (k:cg g F H p (cC s i a) Q .aY)
  (he:∃dx eh ed eb op bg rm,H p=some (.ins g.k_Tree dx (ba eh ed eb op bg rm))/\(i=0/\e=eh\/i=1/\e=ed\/i=2/\e=eb)):sp_Tree_add_attributes g [.ref p,.ref e,.ref tg.a] H Q E:=by
 obtain⟨z,rfl,T,R,hb⟩:=hT;obtain⟨dx,eh,ed,eb,op,bg,rm,ho,hc⟩:=he;have Et:=T.ob;rw[ho]at Et;have Et:=AH Et;injection Et with _ _ h3;unfold ba at h3;simp only[IG,JR,V.ref.injEq,true_and,and_true]at h3;obtain⟨q1,q2,q3,_⟩:=h3;apply⟨F,z,s,i,tg,a,text,?_,T,R,hb,hP,k⟩;rcases hc with⟨h1,h2⟩|⟨h1,h2⟩|⟨h1,h2⟩<;>subst h1<;>subst h2
 .rw[q1];rfl
 .rw[q2];rfl
 .rw[q3];rfl
inductive sp_start_in_body (g:G w K mg) (vs:List V) (H:Hp) (Q:VK) (_:XK):Prop
 |i (F:Addr->Prop) (p:Addr) (s:a8) (tg:TG) (a:List cO) (text:Aa) (_:vs=[.ref p,.ref tg.a]) (_:cz g F H p s) (_:s.begun=true) (_:Sz s<=780000) (_:d4 g F H tg a text) (_:(rf (aD s)=true->bj (aD s))) (_:cg g F H p (mStart s tg.name a tg.sh text).1 Q (.bl (mStart s tg.name a tg.sh text).2))
theorem ok_start_in_body (g:G w K mg):aI P w K mg base bO 8 g.start_in_body.f g.start_in_body.fd ["tree","tag"] (sp_start_in_body g):=by
 apply g.start_in_body.fn.bW sc_start_in_body λvs H Q E h=>?_;obtain⟨F,p,s,tg,a,text,rfl,hT,bN,hsz,hP,kZ,k⟩:=h;apply⟨rfl,λ_ _ _ _ hr=>?_⟩;apply⟨_,%[aw (binrel% op_eq (ak (pv 1) rfl) (aB)) %[au (binop% Tree_add_attributes (pv 0) %[ak (pv 0) rfl,pv 1|a]),ao (eu)|b] %[|b],aw (binrel% op_eq (ak (pv 1) rfl) (aB)) %[au (binop% Tree_add_attributes (pv 0) %[ak (pv 0) rfl,pv 1|a]),ao (eu)|b] %[|b],aw (binrel% op_eq (ak (pv 1) rfl) (aB)) %[ao (eu)|b] %[|b],aw (binrel_no_prop% op_in_seq (ak (pv 1) rfl) (g.c_PARTS.pe rfl)) %[ao (unop% start_part %[pv 0,pv 1|a])|b] %[|b],aw (binrel_no_prop% op_notIn_seq (ak (pv 1) rfl) (br %[aB,aB|a])) %[au (unop% close_framing_table %[pv 0|a])|b] %[|b],au (unop% close_for %[pv 0,ak (pv 1) rfl|a]),aw (PW.pt (bG (binrel% op_eq (ak (pv 1) rfl) (aB)) (a9 (binrel% op_ge (binop% Tree_nearest (pv 0) %[br %[aB|a]|a]) (ag))))) %[ao (eu)|b] %[|b],aw (binrel_no_prop% op_notIn_seq (ak (pv 1) rfl) (g.c_BLOCKS.pe rfl)) %[au (unop% M.Tree_open_again (pv 0))|b] %[|b],ao (binop% Tree_put (pv 0) %[pv 1|a])|b],?_⟩;obtain⟨dx,eh,ed,eb,op,rm,a6,ns,fw,lE⟩:=hT.ob;have za:=hP.tb.ob;unfold mStart at k;cbv;ext;apply⟨_,_,_,za,g.cl_Tag,g.na_Tag_word,_,rfl,?_⟩;ext;apply bb (λh0=>?_) (λh0=>?_)
 .rw[iP ((fM nofun).mp h0)]at k;cbv;ext;apply⟨_,_,a6,rfl,_,_,_,a6,g.cl_Tree,g.na_Tree_html,_,rfl,?_⟩;apply pW hT hP (i:=0) (λF1 H1 cZ nS kY=>?_) ⟨_,_,_,_,_,_,_,a6,.inl ⟨rfl,rfl⟩⟩;ext;exact k F1 H1 cZ nS kY
 rw[iN (λq=>h0 ((fM nofun).mpr q))]at k;cbv;ext;apply⟨_,_,_,za,g.cl_Tag,g.na_Tag_word,_,rfl,?_⟩;ext;apply bb (λh1=>?_) (λh1=>?_)
 .rw[iP ((fM nofun).mp h1)]at k;cbv;ext;apply⟨_,_,a6,rfl,_,_,_,a6,g.cl_Tree,g.na_Tree_body,_,rfl,?_⟩;apply pW hT hP (i:=2) (λF1 H1 cZ nS kY=>?_) ⟨_,_,_,_,_,_,_,a6,.inr (.inr ⟨rfl,rfl⟩)⟩;ext;exact k F1 H1 cZ nS kY
 rw[iN (λq=>h1 ((fM nofun).mpr q))]at k;cbv;ext;apply⟨_,_,_,za,g.cl_Tag,g.na_Tag_word,_,rfl,?_⟩;ext;apply bb (λh2=>?_) (λh2=>?_)
 .rw[iP ((fM nofun).mp h2)]at k;exact k.now hT
 rw[iN (λq=>h2 ((fM nofun).mpr q))]at k;cbv;ext;apply⟨_,_,_,za,g.cl_Tag,g.na_Tag_word,_,rfl,?_⟩;ext;apply cM (sI g H) ?_;apply bb (λh3=>?_) (λh3=>?_)
 .rw[iP h3]at k;exact⟨F,p,s,tg,a,text,rfl,hT,bN,by nofun,hP,kZ,k⟩
 rw[iN h3]at k;apply g7 λR hR=>?_
 have rest:∀(F:Addr->Prop) (H:Hp) (s1:a8),cz g F H p s1->s1.begun=true->Sz s1<=780000->d4 g F H tg a text->cg g F H p (if tg.name=aG "form"/\(Ac s1 tg.name).open_.any (c5 [aG "form"])=true then(Ac s1 tg.name,false)else bX (if Fo.contains tg.name=true then Ac s1 tg.name else Ek (Ac s1 tg.name)) tg.name a tg.sh text).1 Q (.bl (if tg.name=aG "form"/\(Ac s1 tg.name).open_.any (c5 [aG "form"])=true then(Ac s1 tg.name,false)else bX (if Fo.contains tg.name=true then Ac s1 tg.name else Ek (Ac s1 tg.name)) tg.name a tg.sh text).2)->R [some (.ref p),some (.ref tg.a)] H:=by
  intro F H s1 hT bN hsz hP k;subst hR;obtain⟨dx,eh,ed,eb,op,rm,a6,ns,fw,lE⟩:=hT.ob;cbv;ext;apply⟨_,_,_,hP.tb.ob,g.cl_Tag,g.na_Tag_word,_,rfl,?_⟩;apply⟨F,p,s1,tg.name,rfl,hT,bN,λF2 H2 c9 ur lD=>?_⟩;obtain⟨z1,z2⟩:=gI s1 tg.name;generalize Ac s1 tg.name=s2 at k c9 z1 z2;have k2:=k.after c9 ur lD;have lF:=hP.keep ur lD;have LH:s2.begun=true:=z2.trans bN;obtain⟨dx,eh,ed,eb,op,rm,iV,_⟩:=c9.ob;cbv;apply kj λE1 rB=>?_
  have go:∀(F:Addr->Prop) (H:Hp),cz g F H p s2->d4 g F H tg a text->¬(tg.name=aG "form"/\s2.open_.any (c5 [aG "form"])=true)->cg g F H p (if tg.name=aG "form"/\s2.open_.any (c5 [aG "form"])=true then(s2,false)else bX (if Fo.contains tg.name=true then s2 else Ek s2) tg.name a tg.sh text).1 Q (.bl (if tg.name=aG "form"/\s2.open_.any (c5 [aG "form"])=true then(s2,false)else bX (if Fo.contains tg.name=true then s2 else Ek s2) tg.name a tg.sh text).2)->E1 [some (.ref p),some (.ref tg.a)] H:=by
   intro F H hT hP Yn k;subst rB;rw[iN Yn]at k;obtain⟨dx,eh,ed,eb,op,rm,a6,_⟩:=hT.ob;ext;apply g7 λR2 Ee=>?_
   have last:∀(F:Addr->Prop) (H:Hp) (s3:a8),cz g F H p s3->s3.begun=true->Sz s3<=800000->d4 g F H tg a text->cg g F H p (bX s3 tg.name a tg.sh text).1 Q (.bl (bX s3 tg.name a tg.sh text).2)->R2 [some (.ref p),some (.ref tg.a)] H:=by
    intro F H s3 hT bN hsz hP k;subst Ee;obtain⟨dx,eh,ed,eb,op,rm,a6,_⟩:=hT.ob;ext;exact⟨_,_,a6,rfl,pV hT bN hP hsz k⟩
   clear Ee;ext;apply⟨_,_,_,hP.tb.ob,g.cl_Tag,g.na_Tag_word,_,rfl,?_⟩;ext;apply mR (pz g H) ?_;apply bb (λh5=>?_) (λh5=>?_)
   .have h5:¬Fo.contains tg.name=true:=by simpa using h5
    rw[iN h5]at k;apply⟨_,_,a6,rfl,F,p,s2,rfl,hT,LH,by lia,λF3 H3 eJ il jF=>?_⟩;obtain⟨y1,y2⟩:=dS hT.bd.cq;exact last F3 H3 _ eJ (y2.trans LH) (by lia) (hP.keep il jF) (k.after eJ il jF)
   .have h5:Fo.contains tg.name=true:=by simpa using h5
    rw[iP h5]at k;exact last F H s2 hT LH (by lia) hP k
  clear rB;ext;apply⟨_,_,_,lF.tb.ob,g.cl_Tag,g.na_Tag_word,_,rfl,?_⟩;ext;apply bb (λh5=>?_) (λh5=>?_)
  .have h5:=(fM nofun).mp h5;apply⟨_,_,iV,rfl,by decide,λc hc=>?_⟩;have s3:=aj.upd (o:= .tup [V.str "form"]) hc;apply c8 (c9.same s3) (ws:=[aG "form"]) (bC.of aa) ?_;rw[fI];have dW:=sU (c5 [aG "form"]) s2.open_;cases hn:g0 s2.open_ (c5 [aG "form"]) nL with
   |none=>
    rw[hn]at dW;have hh:[aG "form"].contains (aG "html")=false:=by decide
    simp only[hh,BS,if_false];ext;apply nN nofun (go F2 _ (c9.same s3) (lF.keep (aS.refl F2 H2) (aj.keep s3 F2)) (λq=>?_) (k2.same s3));rw[<-dW]at q;exact absurd q.2 nofun
   |some j=>
    rw[hn]at dW;have Ew:=fU hn;simp only;ext;apply rj (by lia) ?_;have k3:=k2.same s3;rw[iP ⟨h5,by rw[<-dW];rfl⟩]at k3;exact k3.now (c9.same s3)
  .exact go F2 H2 c9 lF (λq=>h5 ((fM nofun).mpr q.1)) k2
 clear hR;unfold bD at k;ext;apply⟨_,_,_,za,g.cl_Tag,g.na_Tag_word,_,rfl,?_⟩;ext;apply⟨by decide,λc hc=>?_⟩;have s1:=aj.upd (o:= .tup [V.str "script",V.str "style"]) hc;have g9:bC K (upd H c (.tup [V.str "script",V.str "style"])) c (WS Ad):=bC.of aa;have cZ:=hT.same s1;have k1:=k.same s1;have gg:d4 g F (upd H c (.tup [V.str "script",V.str "style"])) tg a text:=hP.keep (aS.refl F H) (aj.keep s1 F);generalize upd H c (.tup [V.str "script",V.str "style"])=H1 at s1 g9 cZ k1 gg;apply mR g9 ?_;apply bb (λh4=>?_) (λh4=>?_)
 .have h4:¬Ad.contains tg.name=true:=by simpa using h4
  rw[iN h4]at k1;apply⟨F,p,s,rfl,cZ,bN,λF2 H2 c9 ur lD=>?_⟩;obtain⟨y1,y2⟩:=gP s;exact rest F2 H2 _ c9 (y2.trans bN) (by lia) (gg.keep ur lD) (k1.after c9 ur lD)
 .have h4:Ad.contains tg.name=true:=by simpa using h4
  rw[iP h4]at k1;exact rest F H1 s cZ bN hsz gg k1
def ez (s:a8) (c:Nat):a8:=if SY c=true then(if s.begun=true then Lf s [c]else s)else Lf (Ek (nM {s with begun:=true})) [c]
def bY (s:a8) (name:Aa) (a:List cO) (sh:Bool) (text:Aa):a8×Bool:=
 if s.begun=true then mStart s name a sh text
 else if name=aG "html" then(cC s 0 a,false)
 else if name=aG "head" then(cC s 1 a,false)
 else if KC.contains name=true then(hV s name a text,false)
 else mStart {s with begun:=true} name a sh text
def ki (s:a8):a8:=if(mStart s (aG "p") [] false []).2=true then bo (mStart s (aG "p") [] false []).1 [aG "p"]else(mStart s (aG "p") [] false []).1
def l9 (s:a8) (name:Aa):a8:=match g0 s.open_ (c5 [name]) (c5 fh)with
 |some k=>uw s k
 |none=>if name=aG "p" then ki s else if zr.contains name=true then dD s name else s
def kg (s:a8) (name:Aa):a8:=match g0 s.open_ (c5 [name,aG "table"]) nL with
 |some k=>if(s.open_[k]?).any (λx=>decide (x.1=name))=true then uw s k else s
 |none=>s
def lp (s:a8) (name:Aa):a8:=
 if s.begun=false\/(["html","head","body"].map aG).contains name=true then s
 else if name=aG "br" then(mStart s (aG "br") [] false []).1
 else if name=aG "table"\/Ae.contains name=true then kg s name
 else l9 s name
theorem Dg (c:Nat):[9,10,12,32].contains c=SY c:=by
 unfold SY;simp only[BE,BZ,BY]
theorem vE (s:a8) (n:Aa) (a:List cO) (sh:Bool) (t:Aa):(bX s n a sh t).1.begun=s.begun:=by
 unfold bX
 split
 .split
  .exact jz ..
  .rfl
 .rfl
theorem Ck (hb:s.begun=true):(mStart s (aG "p") [] false []).1.begun=true:=by
 unfold mStart;rw[iN nofun,iN nofun,iN nofun,iN nofun,iN (by intro q;exact absurd q.1 nofun),vE,iP nofun];unfold bD;rw[(gI _ _).2]
 split
 .exact hb
 .rw[(gP s).2];exact hb
theorem Hw (s:a8):(aD {s with begun:=true}).open_=(aD s).open_:=by
 unfold aD;simp only
 split
 .split<;>rfl
 .rfl
theorem Gq (h:rf (aD s)=true->bj (aD s)):rf (aD {s with begun:=true})=true->bj (aD {s with begun:=true}):=by
 unfold rf y0 bj at h ⊢;rw[Hw];exact h
theorem Ke {K:AD} {c:Addr} {n:Nat} {t:List Nat} (h:bC K H c (VL t)) (q:Q (.bl (t.contains n)) H):MX K false (.int n) (.ref c) H Q:=⟨c,_,rfl,.inr h,rfl,jc _,by rw[jK];exact q⟩
inductive sp_take_text (g:G w K mg) (vs:List V) (H:Hp) (Q:VK) (_:XK):Prop
 |i (F:Addr->Prop) (p:Addr) (s:a8) (c:Nat) (_:vs=[.ref p,.int c]) (_:cz g F H p s) (_:Sz s<=780000) (_:cg g F H p (ez s c) Q .aY)
theorem ok_take_text (g:G w K mg):aI P w K mg base bO 6 g.take_text.f g.take_text.fd ["tree","point"] (sp_take_text g):=by
 apply g.take_text.fn.bW sc_take_text λvs H Q E h=>?_;obtain⟨F,p,s,c,rfl,hT,hsz,k⟩:=h;apply⟨rfl,λ_ _ _ _ hr=>?_⟩;apply⟨_,%[aw (binrel_no_prop% op_in_seq (pv 1) (g.c_BLANKS.pe rfl)) %[aw (c7 (ak (pv 0) rfl)) %[au (binop% Tree_put_text (pv 0) %[pv 1|a])|b] %[|b],qr|b] %[|b],aT (pv 0) (eu) rfl,au (unop% close_framing_table %[pv 0|a]),au (unop% M.Tree_open_again (pv 0)),au (binop% Tree_put_text (pv 0) %[pv 1|a])|b],?_⟩;obtain⟨dx,eh,ed,eb,op,rm,a6,ns,fw,lE⟩:=hT.ob;unfold ez at k;cbv;ext;apply Ke (t:=[9,10,12,32]) (g.c_BLANKS.sq H) ?_;rw[Dg];apply bb (λh0=>?_) (λh0=>?_)
 .rw[iP h0]at k;cbv;ext;apply⟨_,_,_,a6,g.cl_Tree,g.na_Tree_begun,_,rfl,?_⟩;ext;apply bb (λh1=>?_) (λh1=>?_)
  .rw[iP h1]at k;exact⟨_,_,a6,rfl,wq hT h1 (by nofun) k⟩
  .rw[iN h1]at k;exact k.now hT
 rw[iN h0]at k;cbv;ext;apply⟨_,_,_,a6,g.cl_Tree,g.na_Tree_begun,cq rfl,?_⟩;obtain⟨cZ,kY⟩:=hT.begin a6;generalize upd H p (HO.ins g.k_Tree dx (bU "begun" (V.bl true) (ba eh ed eb op s.begun rm)))=H1 at cZ kY ⊢;have k1:=k.after cZ (aS.refl F H) kY;have Kw:Sz {s with begun:=true}=Sz s:=rfl;generalize zb:({s with begun:=true}:a8)=s1 at cZ k1 Kw;have Fd:s1.begun=true:=by rw[<-zb]
 cbv;ext;apply⟨F,p,s1,rfl,cZ,Fd,λF2 H2 c9 ur lD=>?_⟩;have k2:=k1.after c9 ur lD;obtain⟨y1,y2⟩:=gP s1;obtain⟨dx,eh,ed,eb,op,rm,iV,_⟩:=c9.ob;cbv;ext;apply⟨_,_,iV,rfl,F2,p,_,rfl,c9,y2.trans Fd,by lia,λF3 H3 eJ il jF=>?_⟩;have k3:=k2.after eJ il jF;obtain⟨x1,x2⟩:=dS c9.bd.cq;obtain⟨dx,eh,ed,eb,op,rm,nY,_⟩:=eJ.ob;ext;exact⟨_,_,nY,rfl,wq eJ (x2.trans (y2.trans Fd)) (by lia) k3⟩
inductive sp_take_remark (g:G w K mg) (vs:List V) (H:Hp) (Q:VK) (_:XK):Prop
 |i (F:Addr->Prop) (p pl:Addr) (s:a8) (t:Aa) (_:vs=[.ref p,.ref pl]) (_:cz g F H p s) (_:Sz s<=780000) (_:H pl=some (.lst (VL t))) (_:¬F pl) (_:cg g F H p (cp s t) Q .aY)
theorem ok_take_remark (g:G w K mg):aI P w K mg base bO 4 g.take_remark.f g.take_remark.fd ["tree","points"] (sp_take_remark g):=by
 apply g.take_remark.fn.bW sc_take_remark λvs H Q E h=>?_;obtain⟨F,p,pl,s,t,rfl,hT,hsz,nP,xB,k⟩:=h;apply⟨rfl,λ_ _ _ _ hr=>?_⟩;apply⟨_,%[au (binop% Tree_put_remark (pv 0) %[mP (c7 (ak (pv 0) rfl)) (unop% M.Tree_current (pv 0)) (ak (pv 0) rfl),pv 1|a])|b],?_⟩;obtain⟨z,rfl,T,R,hb⟩:=hT;have a6:=T.ob;have kr:=xW (E:=E0) (Q:=λ_ H=>Q .aY H) T R hb nP xB (by nofun) k;ext;apply⟨_,_,a6,rfl,_,_,_,a6,g.cl_Tree,g.na_Tree_begun,_,rfl,?_⟩;ext;rw[R.begun]at kr;apply bb (λh0=>?_) (λh0=>?_)
 .rw[iP h0]at kr;exact⟨_,_,a6,rfl,F,z,rfl,T,kr⟩
 .rw[iN h0]at kr;exact⟨_,_,_,a6,g.cl_Tree,g.na_Tree_head,_,rfl,kr⟩
inductive sp_take_start (g:G w K mg) (vs:List V) (H:Hp) (Q:VK) (_:XK):Prop
 |i (F:Addr->Prop) (p:Addr) (s:a8) (tg:TG) (a:List cO) (text:Aa) (_:vs=[.ref p,.ref tg.a]) (_:cz g F H p s) (_:Sz s<=780000) (_:d4 g F H tg a text) (_:(rf (aD s)=true->bj (aD s))) (_:cg g F H p (bY s tg.name a tg.sh text).1 Q (.bl (bY s tg.name a tg.sh text).2))
theorem ok_take_start (g:G w K mg):aI P w K mg base bO 9 g.take_start.f g.take_start.fd ["tree","tag"] (sp_take_start g):=by
 apply g.take_start.fn.bW sc_take_start λvs H Q E h=>?_;obtain⟨F,p,s,tg,a,text,rfl,hT,hsz,hP,kZ,k⟩:=h;apply⟨rfl,λ_ _ _ _ hr=>?_⟩;apply⟨_,%[aw (c7 (ak (pv 0) rfl)) %[ao (unop% start_in_body %[pv 0,pv 1|a])|b] %[|b],aw (binrel% op_eq (ak (pv 1) rfl) (aB)) %[au (binop% Tree_add_attributes (pv 0) %[ak (pv 0) rfl,pv 1|a])|b] %[aw (binrel% op_eq (ak (pv 1) rfl) (aB)) %[au (binop% Tree_add_attributes (pv 0) %[ak (pv 0) rfl,pv 1|a])|b] %[aw (binrel_no_prop% op_in_seq (ak (pv 1) rfl) (g.c_HEADS.pe rfl)) %[au (binop% Tree_put_in (pv 0) %[ak (pv 0) rfl,pv 1|a])|b] %[aT (pv 0) (eu) rfl,ao (unop% start_in_body %[pv 0,pv 1|a])|b]|b]|b],ao (eu)|b],?_⟩;obtain⟨dx,eh,ed,eb,op,rm,a6,ns,fw,lE⟩:=hT.ob;have za:=hP.tb.ob;unfold bY at k;cbv;ext;apply⟨_,_,_,a6,g.cl_Tree,g.na_Tree_begun,_,rfl,?_⟩;ext;apply bb (λh0=>?_) (λh0=>?_)
 .rw[iP h0]at k;exact⟨F,p,s,tg,a,text,rfl,hT,h0,hsz,hP,kZ,k⟩
 rw[iN h0]at k;apply g7 λR hR=>?_
 have fin:∀(F1:Addr->Prop) (H1:Hp),Q (.bl false) H1->R [some (.ref p),some (.ref tg.a)] H1:=by
  intro F1 H1 q;subst hR;exact q
 clear hR;ext;apply⟨_,_,_,za,g.cl_Tag,g.na_Tag_word,_,rfl,?_⟩;ext;apply bb (λh1=>?_) (λh1=>?_)
 .rw[iP ((fM nofun).mp h1)]at k;apply⟨_,_,a6,rfl,_,_,_,a6,g.cl_Tree,g.na_Tree_html,_,rfl,?_⟩;exact pW hT hP (i:=0) (λF1 H1 cZ nS kY=>fin F1 H1 (k F1 H1 cZ nS kY)) ⟨_,_,_,_,_,_,_,a6,.inl ⟨rfl,rfl⟩⟩
 rw[iN (λq=>h1 ((fM nofun).mpr q))]at k;apply⟨_,_,_,za,g.cl_Tag,g.na_Tag_word,_,rfl,?_⟩;ext;apply bb (λh2=>?_) (λh2=>?_)
 .rw[iP ((fM nofun).mp h2)]at k;apply⟨_,_,a6,rfl,_,_,_,a6,g.cl_Tree,g.na_Tree_head,_,rfl,?_⟩;exact pW hT hP (i:=1) (λF1 H1 cZ nS kY=>fin F1 H1 (k F1 H1 cZ nS kY)) ⟨_,_,_,_,_,_,_,a6,.inr (.inl ⟨rfl,rfl⟩)⟩
 rw[iN (λq=>h2 ((fM nofun).mpr q))]at k;apply⟨_,_,_,za,g.cl_Tag,g.na_Tag_word,_,rfl,?_⟩;ext;apply cM (Ct g H) ?_;apply bb (λh3=>?_) (λh3=>?_)
 .rw[iP h3]at k;obtain⟨z,rfl,T,R,hb⟩:=hT;apply⟨_,_,T.ob,rfl,_,_,_,T.ob,g.cl_Tree,g.na_Tree_head,_,rfl,?_⟩;exact Gm (p:=z.p) T R hb (by simpa using h0) hP (by omega) λx F1 H1 cZ nS kY=>fin F1 H1 (k F1 H1 cZ nS kY)
 rw[iN h3]at k;cbv;ext;apply⟨_,_,_,a6,g.cl_Tree,g.na_Tree_begun,cq rfl,?_⟩;obtain⟨cZ,kY⟩:=hT.begin a6;generalize upd H p (HO.ins g.k_Tree dx (bU "begun" (V.bl true) (ba eh ed eb op s.begun rm)))=H1 at cZ kY ⊢;have k1:=k.after cZ (aS.refl F H) kY;exact⟨F,p,_,tg,a,text,rfl,cZ,rfl,hsz,hP.keep (aS.refl F H) kY,Gq kZ,k1⟩
inductive sp_end_other (g:G w K mg) (vs:List V) (H:Hp) (Q:VK) (_:XK):Prop
 |i (F:Addr->Prop) (p:Addr) (s:a8) (nm:Aa) (_:vs=[.ref p,.str (W nm)]) (_:cz g F H p s) (_:s.begun=true) (_:Sz s<=780000) (_:nm≠aG "body") (_:(rf (aD s)=true->bj (aD s))) (_:cg g F H p (l9 s nm) Q .aY)
theorem ok_end_other (g:G w K mg):aI P w K mg base bO 9 g.end_other.f g.end_other.fd ["tree","word"] (sp_end_other g):=by
 apply g.end_other.fn.bW sc_end_other λvs H Q E h=>?_;obtain⟨F,p,s,nm,rfl,hT,bN,hsz,Eu,kZ,k⟩:=h;apply⟨rfl,λ_ _ _ _ hr=>?_⟩;apply⟨_,%[leftact% end_other 2 (binop% Tree_within_walls (pv 0) %[pv 1|a]),aw (binrel% op_ge (pv 2) (ag)) %[au (binop% Tree_close (pv 0) %[pv 2|a])|b] %[aw (binrel% op_eq (pv 1) (aB)) %[aw (c7 (unop% start_in_body %[pv 0,unop% plain_tag %[aB|a]|a])) %[au (binop% Tree_close_current (pv 0) %[br %[aB|a]|a])|b] %[|b]|b] %[aw (binrel_no_prop% op_in_seq (pv 1) (g.c_STYLED.pe rfl)) %[au (binop% Tree_forget_last (pv 0) %[pv 1|a])|b] %[|b]|b]|b]|b],?_⟩;obtain⟨dx,eh,ed,eb,op,rm,a6,ns,fw,lE⟩:=hT.ob;unfold l9 at k;cbv;ext;apply⟨_,_,a6,rfl,mJ hT ?_⟩;rw[sj nm s hT.bd];cases hn:g0 s.open_ (c5 [nm]) (c5 fh)with
 |some j=>
  rw[hn]at k;have Ew:=eF hT.bd (by show((aG "body"==nm)||false)=false;rw[BY];exact beq_eq_false_iff_ne.mpr λq=>Eu q.symm) hn;ext;apply rj (Int.sub_nonneg_of_le (by lia)) ?_;exact⟨_,_,a6,rfl,dO hT bN j Ew k⟩
 |none=>
  rw[hn]at k;ext;apply nN nofun ?_;simp only at k;apply bb (λh1=>?_) (λh1=>?_)
  .rw[iP ((fM nofun).mp h1)]at k;apply⟨"p",rfl,by decide,by decide,λt H1 n8 s1 cx ua Lx=>?_⟩;ext;have gg:=Lx.uC hT n8;unfold ki at k;apply⟨F,p,s,t, [], [],rfl,hT.same s1,bN,hsz,gg,kZ,?_⟩;rw[cx,ua];intro F2 H2 c9 ur lD;have k2:=(k.same s1).after c9 ur lD;ext;apply bb (λh2=>?_) (λh2=>?_)
   .rw[iP h2]at k2;obtain⟨dx,eh,ed,eb,op,rm,iV,_⟩:=c9.ob;apply⟨_,_,iV,rfl,by decide,λc hc=>?_⟩;have s3:=aj.upd (o:= .tup [V.str "p"]) hc;exact⟨F2,p,c,_, [aG "p"],rfl,c9.same s3,Ck bN,bC.of aa,by decide,k2.same s3⟩
   .rw[iN h2]at k2;exact k2.now c9
  rw[iN (λq=>h1 ((fM nofun).mpr q))]at k;apply cM (oS g H) ?_;apply bb (λh2=>?_) (λh2=>?_)
  .rw[iP h2]at k;exact⟨_,_,a6,rfl,F,p,s,nm,rfl,hT,bN,k⟩
  .rw[iN h2]at k;exact k.now hT
theorem O9 {p ta:Addr} {nm:Aa} (hT:cz g F H p s) (bN:s.begun=true) (Eu:nm≠aG "body") (QL:nm≠aG "html") (k:cg g F H p (kg s nm) Q .aY):zt
   (Fu
    (rN g.k_Tree (Str.ofString "nearest") (sp_Tree_nearest g) [] E0 (lX 0)
     (oE (Lk (oE (lX 2) (oE (tC (V.str (Str.ofString "table"))) uA))) uA))
    (gq 3))
   (Ft
    (Fv (rM (Ip (Dr λi j=>V.bl (decide (j<=i))) (lX 3) (tC (V.int 0))))
     (rM
      (Ip Qr (zu K (Ip (Ln K) (zu K (lX 0) (Str.ofString "opened")) (lX 3)) (Str.ofString "word"))
       (lX 2))))
    (zO (rN g.k_Tree (Str.ofString "close") (sp_Tree_close g) [] E0 (lX 0) (oE (lX 3) uA))) zM)
   {nx:=λx H'=>Q V.aY H',rt:=Q} [some (V.ref p),some (V.ref ta),some (V.str (W nm)),none] H:=by
 obtain⟨dx,eh,ed,eb,op,rm,a6,ns,fw,lE⟩:=hT.ob;cbv;ext;apply⟨_,_,a6,rfl,by decide,λc hc=>?_⟩;have s1:=aj.upd (o:= .tup [V.str (W nm),V.str "table"]) hc;have g9:bC K (upd H c (.tup [V.str (W nm),V.str "table"])) c (WS [nm,aG "table"]):=bC.of aa;have cZ:=hT.same s1;have k1:=k.same s1;generalize upd H c (.tup [V.str (W nm),V.str (Str.ofString "table")])=H1 at s1 g9 cZ k1;apply c8 cZ g9 ?_;rw[fI]
 have Fd:[nm,aG "table"].contains (aG "body")=false:=by
  rw[BE,beq_eq_false_iff_ne.mpr λq=>Eu q.symm];decide
 have YC:[nm,aG "table"].contains (aG "html")=false:=by
  rw[BE,beq_eq_false_iff_ne.mpr λq=>QL q.symm];decide
 unfold kg at k1;cases hn:g0 s.open_ (c5 [nm,aG "table"]) nL with
 |none=>
  rw[hn]at k1;simp only[YC,BS,if_false];ext;exact nN nofun (k1.now cZ)
 |some j=>
  rw[hn]at k1;obtain⟨x,hx,y8⟩:=cH hn;have Ew:=eF hT.bd Fd hn;obtain⟨Wx,Wq,Wr,Wt,U9,ow,nZ,Ve,a2,zD,uE,d2,Wk,NX,y9⟩:=qh cZ hx;simp only[hx,II]at k1 ⊢;ext;apply rj (by lia) ?_;apply⟨_,_,_,nZ,g.cl_Tree,g.na_Tree_opened,_,rfl,?_⟩;ext;apply⟨_,aL.of zD,_,uE,?_⟩;ext;apply⟨_,_,_,NX,g.cl_Element,g.na_Element_word,_,y9,?_⟩;ext;apply bb (λh0=>?_) (λh0=>?_)
  .rw[iP (decide_eq_true (ko h0))]at k1;exact⟨_,_,nZ,rfl,dO cZ bN j Ew k1⟩
  .rw[iN (λq=>h0 (congrArg W (of_decide_eq_true q)))]at k1;exact k1.now cZ
inductive sp_take_end (g:G w K mg) (vs:List V) (H:Hp) (Q:VK) (_:XK):Prop
 |i (F:Addr->Prop) (p:Addr) (s:a8) (tg:TG) (a:List cO) (text:Aa) (_:vs=[.ref p,.ref tg.a]) (_:cz g F H p s) (_:Sz s<=780000) (_:d4 g F H tg a text) (_:(rf (aD s)=true->bj (aD s))) (_:cg g F H p (lp s tg.name) Q .aY)
theorem ok_take_end (g:G w K mg):aI P w K mg base bO 10 g.take_end.f g.take_end.fd ["tree","tag"] (sp_take_end g):=by
 apply g.take_end.fn.bW sc_take_end λvs H Q E h=>?_;obtain⟨F,p,s,tg,a,text,rfl,hT,hsz,hP,kZ,k⟩:=h;apply⟨rfl,λ_ _ _ _ hr=>?_⟩;apply⟨_,%[leftact% take_end 2 (ak (pv 1) rfl),aw (PW.pt (hU (mz (c7 (ak (pv 0) rfl))) (fS (binrel_no_prop% op_in_seq (pv 2) (br %[aB,aB,aB|a]))))) %[qr|b] %[|b],aw (binrel% op_eq (pv 2) (aB)) %[au (unop% start_in_body %[pv 0,unop% plain_tag %[aB|a]|a])|b] %[aw (PW.pt (hU (binrel% op_eq (pv 2) (aB)) (fS (binrel_no_prop% op_in_seq (pv 2) (g.c_PARTS.pe rfl))))) %[leftact% take_end 3 (binop% Tree_nearest (pv 0) %[br %[pv 2,aB|a]|a]),aw (PW.pt (bG (binrel% op_ge (pv 3) (ag)) (a9 (binrel% op_eq (ak (rightact% aN (ak (pv 0) rfl) (pv 3)) rfl) (pv 2))))) %[au (binop% Tree_close (pv 0) %[pv 3|a])|b] %[|b]|b] %[au (unop% end_other %[pv 0,pv 2|a])|b]|b]|b],?_⟩;obtain⟨dx,eh,ed,eb,op,rm,a6,ns,fw,lE⟩:=hT.ob;have za:=hP.tb.ob;unfold lp at k;cbv;ext;apply⟨_,_,_,za,g.cl_Tag,g.na_Tag_word,_,rfl,?_⟩;apply g7 λR hR=>?_
 have rest:∀(H:Hp),cz g F H p s->s.begun=true->(["html","head","body"].map aG).contains tg.name=false->d4 g F H tg a text->cg g F H p (if tg.name=aG "br" then(mStart s (aG "br") [] false []).1
  else if tg.name=aG "table"\/Ae.contains tg.name=true then kg s tg.name
  else l9 s tg.name) Q .aY->R [some (.ref p),some (.ref tg.a),some (.str (W tg.name)),none] H:=by
  intro H hT bN QL hP k;subst hR;obtain⟨dx,eh,ed,eb,op,rm,a6,ns,fw,lE⟩:=hT.ob;ext;apply bb (λh1=>?_) (λh1=>?_)
  .rw[iP ((fM nofun).mp h1)]at k;apply⟨"br",rfl,by decide,by decide,λt H1 n8 s1 cx ua Lx=>?_⟩;have gg:=Lx.uC hT n8;apply⟨F,p,s,t, [], [],rfl,hT.same s1,bN,hsz,gg,kZ,?_⟩;rw[cx,ua];exact λF2 H2 c9 ur lD=>(k.same s1) F2 H2 c9 ur lD
  rw[iN (λq=>h1 ((fM nofun).mpr q))]at k
  have nh:∀t∈["html","head","body"].map aG,tg.name≠t:=λt ht q=>by
   rw[q]at QL;have:(["html","head","body"].map aG).contains t=true:=DU.mpr ht;rw[QL]at this;cases this
  have RL:=nh (aG "body") (by simp);have Vo:=nh (aG "html") (by simp);apply bb (λh2=>?_) (λh2=>?_)
  .rw[iP (.inl ((fM nofun).mp h2))]at k;exact O9 hT bN RL Vo k
  apply cM (sI g H) ?_;apply bb (λh3=>?_) (λh3=>?_)
  .rw[iP (.inr h3)]at k;exact O9 hT bN RL Vo k
  rw[iN (λq=>q.elim (λq=>h2 ((fM nofun).mpr q)) h3)]at k;exact⟨F,p,s,tg.name,rfl,hT,bN,hsz,RL,kZ,k⟩
 clear hR;ext;apply⟨_,_,_,a6,g.cl_Tree,g.na_Tree_begun,_,rfl,?_⟩;ext;apply bb (λh0=>?_) (λh0=>?_)
 .rw[iP (.inl h0)]at k;exact k.now hT
 apply⟨by decide,λc hc=>?_⟩;have s1:=aj.upd (o:= .tup [V.str "html",V.str "head",V.str "body"]) hc;have g9:bC K (upd H c (.tup [V.str "html",V.str "head",V.str "body"])) c (WS (["html","head","body"].map aG)):=bC.of aa;have cZ:=hT.same s1;have k1:=k.same s1;have gg:d4 g F (upd H c (.tup [V.str "html",V.str "head",V.str "body"])) tg a text:=hP.keep (aS.refl F H) (aj.keep s1 F);generalize upd H c (.tup [V.str "html",V.str "head",V.str "body"])=H1 at s1 g9 cZ k1 gg;apply cM g9 ?_;apply bb (λh1=>?_) (λh1=>?_)
 .rw[iP (.inr h1)]at k1;exact k1.now cZ
 .rw[iN (λq=>q.elim h0 h1)]at k1;exact rest H1 cZ (by simpa using h0) (by simpa using h1) gg k1
def pt (u:Aa):Int:=match u with|[]=> -1|c::_=>(c:Int)
theorem Pt {t:List Nat} {n c:Nat} (h:t[n]? =some c):pt (t.drop n)=c:=by rw[aJ h];rfl
theorem Pu {t:List Nat} {n:Nat} (h:¬n<t.length):pt (t.drop n)= -1:=by rw[AQ (by nofun)];rfl
def nothing (u:Aa):Bool:=if pt u=60/\¬u.take 4=[60,33,45,45]then(if pt (u.drop 1)=47 then !isLet (pt (u.drop 2))else(decide (pt (u.drop 1)=33)||decide (pt (u.drop 1)=63)))else false
def bL (u:Aa):Aa:=u.drop ((u.takeWhile λc=>![62].contains c).length+1)
def dY:Nat->Aa->Aa
 |0,u=>u
 |f+1,u=>if nothing u=true then dY f (bL u)else u
def Ep (u:Aa):Aa:=match u with
 |[]=>[]
 |c::r=>if(aR c r).1=10 then(c::r).drop (aR c r).2 else c::r
def lu (u:Aa):Aa:=Ep (dY u.length u)
theorem dE {u:Aa} (h:u≠[]):(bL u).length<u.length:=by
 unfold bL;rw[AM];cases u with
 |nil=>exact absurd rfl h
 |cons c r=>simp;omega
theorem dB {u:Aa} (h:nothing u=true):u≠[]:=by
 intro q;subst q;exact absurd h nofun
theorem m7:∀(f g:Nat) (u:Aa),u.length<=f->u.length<=g->dY f u=dY g u
 |0,0,u,_,_=>rfl
 |0,g+1,u,h,_=>by
  have:u=[]:=C4.mp (by lia);subst this;rfl
 |f+1,0,u,_,h=>by
  have:u=[]:=C4.mp (by omega);subst this;rfl
 |f+1,g+1,u,h1,h2=>by
  rw[dY,dY]
  split
  .next q=>
   have:=dE (dB q);exact m7 f g _ (by lia) (by lia)
  .rfl
theorem m6 {u:Aa} (h:nothing u=true):dY u.length u=dY (bL u).length (bL u):=by
 have h1:=dE (dB h);obtain⟨f,hf⟩:∃f,u.length=f+1:=⟨u.length-1,by lia⟩
 rw[hf,dY,iP h];exact m7 _ _ _ (by lia) (AE _)
theorem m5 {u:Aa} (h:¬nothing u=true):dY u.length u=u:=by
 cases hu:u.length with
 |zero=>rfl
 |succ f=>rw[dY,iN h]
theorem PD (x a b:Int):xw (.int x) [.int a,.int b]=(decide (x=a)||decide (x=b)):=by
 show((a==x)||((b==x)||false))=_
 rw[BY];congr 1
 .by_cases h:x=a
  .rw[h];simp
  .rw[decide_eq_false h];exact beq_eq_false_iff_ne.mpr λq=>h q.symm
 .by_cases h:x=b
  .rw[h];simp
  .rw[decide_eq_false h];exact beq_eq_false_iff_ne.mpr λq=>h q.symm
theorem mv (t:List Nat) (n k:Nat):cb (VL t) (some (n:Int)) (some ((n+k:Nat):Int))=VL ((t.drop n).take k):=by rw[jN];congr 2;lia
theorem uO (s:String) (hl:(aG s).length<=100) (k:iW H (aG s) Q):sp_points_of g [.str (Str.ofString s)] H Q E:=by
 have e:(Str.ofString s).cps.toList=aG s:=TL.fc s;apply⟨_,rfl,?_,by rw[e];exact k⟩;have:=congrArg BJ e;rw[CW]at this;rw[this];exact cF (by nofun)
inductive sp_point_at (_:G w K mg) (vs:List V) (H:Hp) (Q:VK) (_:XK):Prop
 |i (a:Addr) (t:List Nat) (n:Nat) (_:vs=[.ref a,.int n]) (_:aL K H a (VL t)) (_:Q (.int (pt (t.drop n))) H)
theorem ok_point_at (g:G w K mg):aI P w K mg base bO 1 g.point_at.f g.point_at.fd ["points","place"] (sp_point_at g):=by
 apply g.point_at.fn.bW sc_point_at λvs H Q E h=>?_;obtain⟨a,t,n,rfl,ha,k⟩:=h;apply⟨rfl,λ_ _ _ _ hr=>?_⟩;apply⟨_,%[ao (mP (binrel% op_lt (pv 1) (unop% L.n (pv 0))) (rightact% aN (pv 0) (pv 1)) (dM cG (ag)))|b],?_⟩;ext;apply⟨_,.inl ha,?_⟩;rw[ax];apply bb (λh0=>?_) (λh0=>?_)
 .obtain⟨c,hc⟩:∃c,t[n]? =some c:=⟨t[n]'(by lia),AN (by omega)⟩
  rw[Pt hc]at k;exact⟨_,ha,_,cR hc,k⟩
 .rw[Pu (by lia)]at k;exact k
inductive sp_stands_nothing (_:G w K mg) (vs:List V) (H:Hp) (Q:VK) (_:XK):Prop
 |i (a:Addr) (t:List Nat) (n:Nat) (_:vs=[.ref a,.int n]) (_:aL K H a (VL t)) (_:t.length<=1000000) (_:∀H',aj H H'->Q (.bl (nothing (t.drop n))) H')
theorem ok_stands_nothing (g:G w K mg):aI P w K mg base bO 2 g.stands_nothing.f g.stands_nothing.fd ["points","place"] (sp_stands_nothing g):=by
 apply g.stands_nothing.fn.bW sc_stands_nothing λvs H Q E h=>?_;obtain⟨a,t,n,rfl,ha,hl,k⟩:=h;apply⟨rfl,λ_ _ _ _ hr=>?_⟩;apply⟨_,%[aw (PW.pt (hU (binrel% op_ne (unop% point_at %[pv 0,pv 1|a]) (g.c_LESS.pe rfl)) (fS (cD (op_eqD hr.units) (aO aW (pv 0) (aF (pv 1)) (aF (ay op_add (pv 1) (ag)))) (unop% points_of %[aB|a]) (dk _))))) %[ao (eu)|b] %[|b],leftact% stands_nothing 2 (unop% point_at %[pv 0,ay op_add (pv 1) (ag)|a]),aw (binrel% op_eq (pv 2) (g.c_SLASH.pe rfl)) %[ao (Ar (unop% is_letter %[unop% point_at %[pv 0,ay op_add (pv 1) (ag)|a]|a]))|b] %[|b],ao (lL op_in_seq (pv 2) (br %[g.c_EXCLAMATION.pe rfl,g.c_QUESTION.pe rfl|a]) (by with_unfolding_all rfl))|b],?_⟩;apply g7 λR hR=>?_;unfold nothing at k
 have rest:∀H1,aj H H1->pt (t.drop n)=60/\¬(t.drop n).take 4=[60,33,45,45]->R [some (.ref a),some (.int n),none] H1:=by
  intro H1 s1 hc;subst hR;rw[iP hc]at k;rw[A7,A7]at k;have e1:(n:Int)+1=((n+1:Nat):Int):=by nofun
  have e2:(n:Int)+2=((n+2:Nat):Int):=by nofun
  cbv;ext;rw[e1];apply⟨a,t,n+1,rfl,s1.seq ha,?_⟩;cbv;ext;apply bb (λh0=>?_) (λh0=>?_)
  .rw[iP h0]at k;rw[e2];exact⟨a,t,n+2,rfl,s1.seq ha,_,rfl,k H1 s1⟩
  .rw[iN h0]at k;ext;apply⟨by decide,λc hc=>?_⟩;apply⟨c,_,rfl,.inr (bC.of aa),rfl,rfl,?_⟩;rw[iN nofun,PD];exact k _ (s1.trans (aj.upd hc))
 clear hR;ext;apply⟨a,t,n,rfl,ha,?_⟩;ext;apply bb (λh0=>?_) (λh0=>?_)
 .rw[iN (λq=>h0 q.1)]at k;exact k H (aj.refl H)
 have h0:pt (t.drop n)=60:=HL.mp h0;apply⟨_,ha,λc hc=>?_⟩;rw[show(n:Int)+4=((n+4:Nat):Int) by nofun,mv];have s1:=aj.upd (o:= .lst (VL ((t.drop n).take 4))) hc;apply uO "<!--" nofun λq H2 hq s2 h2=>?_;apply jM (aL.of (s2 _ _ aa)) (aL.of h2) ?_;have e4:aG "<!--"=[60,33,45,45]:=rfl;rw[e4];apply bb (λh1=>?_) (λh1=>?_)
 .have h1:=of_decide_eq_true h1;rw[iN (λq=>q.2 h1)]at k;exact k _ (s1.trans s2)
 .exact rest _ (s1.trans s2) ⟨h0,λq=>h1 (decide_eq_true q)⟩
inductive sp_behind_nothing (_:G w K mg) (vs:List V) (H:Hp) (Q:VK) (_:XK):Prop
 |i (a:Addr) (t:List Nat) (n:Nat) (_:vs=[.ref a,.int n]) (_:aL K H a (VL t)) (_:∀H' (q:Nat),aj H H'->t.drop q=bL (t.drop n)->n<q->Q (.int q) H')
theorem ok_behind_nothing (g:G w K mg):aI P w K mg base bO 2 g.behind_nothing.f g.behind_nothing.fd ["points","place"] (sp_behind_nothing g):=by
 apply g.behind_nothing.fn.bW sc_behind_nothing λvs H Q E h=>?_;obtain⟨a,t,n,rfl,ha,k⟩:=h;apply⟨rfl,λ_ _ _ _ hr=>?_⟩;apply⟨_,%[ao (ay op_add (unop% place_of_any %[pv 0,pv 1,br %[g.c_GREATER.pe rfl|a]|a]) (ag))|b],?_⟩;ext;apply⟨by decide,λc hc=>?_⟩;apply⟨a,c,t, [62],n,rfl, (aj.upd hc).seq ha,bC.of aa,?_⟩;ext;have e:((n+((t.drop n).takeWhile λc=>![62].contains c).length:Nat):Int)+1=((n+((t.drop n).takeWhile λc=>![62].contains c).length+1:Nat):Int):=by nofun
 rw[e];apply k _ _ (aj.upd hc) ?_ (by lia);unfold bL;rw[A7];rfl
inductive sp_behind_first_line_feed (_:G w K mg) (vs:List V) (H:Hp) (Q:VK) (_:XK):Prop
 |i (a:Addr) (t:List Nat) (n:Nat) (_:vs=[.ref a,.int n]) (_:aL K H a (VL t)) (_:t.length<=1000000) (_:(∀c∈t,c<10000000)) (_:∀H' (q:Nat),aj H H'->t.drop q=lu (t.drop n)->n<=q->Q (.int q) H')
theorem ok_behind_first_line_feed (g:G w K mg):aI P w K mg base bO 5 g.behind_first_line_feed.f g.behind_first_line_feed.fd ["points","place"] (sp_behind_first_line_feed g):=by
 apply g.behind_first_line_feed.fn.bW sc_behind_first_line_feed λvs H Q E h=>?_;obtain⟨a,t,n,rfl,ha,hl,hb,k⟩:=h;apply⟨rfl,λ_ _ _ _ hr=>?_⟩;apply⟨_,%[bE PassesOwn.never (c7 (unop% stands_nothing %[pv 0,pv 1|a])) %[leftact% behind_first_line_feed 1 (unop% behind_nothing %[pv 0,pv 1|a])|b],aw (binrel% op_lt (pv 1) (unop% L.n (pv 0))) %[leftact% behind_first_line_feed 2 (unop% told_at %[pv 0,pv 1|a]),aw (binrel% op_eq (rightact% cQ (pv 2) (ag)) (g.c_LINE_FEED.pe rfl)) %[ao (rightact% cQ (pv 2) (ag))|b] %[|b]|b] %[|b],ao (pv 1)|b],?_⟩;apply g7 λR hR=>?_
 have rest:∀(q:Nat) (H1:Hp),aj H H1->t.drop q=dY (t.drop n).length (t.drop n)->n<=q->R [some (.ref a),some (.int q),none] H1:=by
  intro q H1 s1 hq yR;subst hR;have fin:∀H2,aj H H2->Ep (t.drop q)=t.drop q->Q (.int q) H2:=λH2 s2 e=>k H2 q s2 (by unfold lu;rw[<-hq,e]) yR;apply g7 λR2 Ee=>?_
  have last:∀v H2,aj H H2->Ep (t.drop q)=t.drop q->R2 [some (.ref a),some (.int q),v] H2:=by
   intro v H2 s2 e;subst Ee;exact fin H2 s2 e
  clear Ee;ext;apply⟨_,.inl (s1.seq ha),?_⟩;rw[ax];apply bb (λh0=>?_) (λh0=>?_)
  .obtain⟨c,hc⟩:∃c,t[q]? =some c:=⟨t[q]'(by lia),AN (by omega)⟩
   have hd:=aJ hc;cbv;ext;apply⟨a,t,q,c,rfl,s1.seq ha,hc,hl,hb,λp H2 hp s2 h2=>?_⟩;ext;apply⟨_,bC.of h2,_,rfl,?_⟩;ext;apply bb (λh1=>?_) (λh1=>?_)
   .have h1:(aR c (t.drop (q+1))).1=10:=by lia
    apply⟨_,bC.of h2,_,rfl,?_⟩;apply k H2 _ (s1.trans s2) ?_ (by nofun);unfold lu;rw[<-hq,<-A7,hd];unfold Ep;simp only;rw[iP h1]
   .have h1:¬(aR c (t.drop (q+1))).1=10:=by lia
    apply last _ H2 (s1.trans s2) ?_;rw[hd];unfold Ep;simp only;rw[iN h1]
  .refine last _ H1 s1 ?_;rw[AQ (by lia)];rfl
 clear hR;apply⟨λm σ H'=>∃q:Nat,SE σ [some (.ref a),some (.int q),none]/\aj H H'/\m=(t.drop q).length/\dY (t.drop q).length (t.drop q)=dY (t.drop n).length (t.drop n)/\n<=q, ⟨_,n,rfl,aj.refl H,rfl,rfl,AE _⟩,?_⟩;rintro m σ H' ⟨q,rfl,s1,rfl,he,yR⟩;ext;apply⟨a,t,q,rfl,s1.seq ha,hl,λH2 s2=>?_⟩;ext;apply bb (λh0=>⟨_,λ_ _ h=>h,?_⟩) (λh0=>?_)
 .refine⟨a,t,q,rfl,s2.seq (s1.seq ha),λH3 q3 s3 e3 yQ=>?_⟩;ext;apply⟨_,?_,q3,rfl, (s1.trans s2).trans s3,rfl,?_,by nofun⟩
  .rw[e3];exact dE (dB h0)
  .rw[e3,<-m6 h0,he]
 .exact rest q H2 (s1.trans s2) (by rw[<-he,m5 h0]) yR
def bQ (nm:Aa) (y:Aa):Aa:=if Ad.contains nm=true then y else if nm=aG "textarea"/\(ui 0 y).take 1=[10]then(ui 0 y).drop 1 else ui 0 y
def cA (u:Aa):Aa×Aa:=match Oi [45,45,62] u with|some x=>x|none=>(u, [])
theorem mO:∀(n:Nat) (t:List Nat),t.length<=n->(ui 0 t).length<=t.length
 |0,t,h=>by
  have:t=[]:=C4.mp (by lia);subst this;exact AE _
 |n+1, [],_=>AE _
 |n+1,c::r,h=>by
  rw[jS];have h1:=jQ c r;have h2:=mO n ((c::r).drop (aR c r).2) (by rw[AM];simp at h ⊢;lia);rw[AM]at h2;simp at h2 ⊢;omega
theorem oV (g:G w K mg) (H:Hp):bC K H g.c_RAW_WITHOUT_REFERENCES.a (WS Ad):=g.c_RAW_WITHOUT_REFERENCES.sq H
inductive sp_raw_end (_:G w K mg) (vs:List V) (H:Hp) (Q:VK) (_:XK):Prop
 |i (a b:Addr) (t nm:List Nat) (n:Nat) (_:vs=[.ref a,.int n,.ref b]) (_:aL K H a (VL t)) (_:aL K H b (VL nm)) (_:t.length<=1000000) (_:nm.length<=1000) (_:n<=t.length) (_:∀H' (q:Nat),aj H H'->t.drop q=(xE nm (t.drop n)).2->(t.drop n).take (q-n)=(xE nm (t.drop n)).1->n<=q->q<=t.length->Q (.int q) H')
theorem ok_raw_end (g:G w K mg):aI P w K mg base bO 2 g.raw_end.f g.raw_end.fd ["points","place","name"] (sp_raw_end g):=by
 apply g.raw_end.fn.bW sc_raw_end λvs H Q E h=>?_;obtain⟨a,b,t,nm,n,rfl,ha,hb,hl,xy,hn,k⟩:=h;apply⟨rfl,λ_ _ _ _ hr=>?_⟩;apply⟨_,%[bE PassesOwn.never (binrel% op_lt (pv 1) (unop% L.n (pv 0))) %[leftact% raw_end 3 (ay op_add (ay op_add (pv 1) (ag)) (unop% L.n (pv 2))),aw (PW.pt (bG (cD (op_eqD hr.units) (aO aW (pv 0) (aF (pv 1)) (aF (ay op_add (pv 1) (ag)))) (aM %[g.c_LESS.pe rfl,g.c_SLASH.pe rfl|a]) (dk _)) (a9 (cD (op_eqD hr.units) (unop% small %[aO aW (pv 0) (aF (ay op_add (pv 1) (ag))) (aF (pv 3))|a]) (pv 2) (dk _))))) %[aw (PW.pt (hU (binrel% op_eq (pv 3) (unop% L.n (pv 0))) (fS (binrel_no_prop% op_in_seq (rightact% aN (pv 0) (pv 3)) (g.c_NAME_ENDS.pe rfl))))) %[ao (pv 1)|b] %[|b]|b] %[|b],eD (i:=1) sc_raw_end.nd rfl (CM rfl) (ag) gw|b],ao (pv 1)|b],?_⟩;cbv;apply⟨λm σ H'=>∃(q:Nat) (v:Option V),SE σ [some (.ref a),some (.int q),some (.ref b),v]/\aj H H'/\m=t.length-q/\n<=q/\q<=t.length/\xE nm (t.drop n)=((t.drop n).take (q-n)++(xE nm (t.drop q)).1, (xE nm (t.drop q)).2), ⟨_,n,none,rfl,aj.refl H,rfl,AE _,hn,by rw[DP];rfl⟩,?_⟩;rintro m σ H1 ⟨q,v,rfl,s1,rfl,yR,KY,he⟩;ext;apply⟨_,.inl (s1.seq ha),?_⟩;rw[ax];apply bb (λh0=>⟨_,λ_ _ h=>h,?_⟩) (λh0=>?_)
 .obtain⟨c,hc⟩:∃c,t[q]? =some c:=⟨t[q]'(by lia),AN (by omega)⟩
  have hd:=aJ hc;have gk:=sC nm c (t.drop (q+1));rw[<-hd]at gk;have e2:(q:Int)+2=((q+2:Nat):Int):=by nofun
  cbv;ext;apply⟨_,.inl (s1.seq hb),?_⟩;rw[ax,e2,show((q+2:Nat):Int)+(nm.length:Int)=((q+2+nm.length:Nat):Int) by nofun];apply g7 λR hR=>?_
  have next:∀H2,aj H H2->cW nm (t.drop q)=false->R [some (.ref a),some (.int q),some (.ref b),some (.int ((q+2+nm.length:Nat):Int))] H2:=by
   intro H2 s2 f7;subst hR;rw[f7,iN nofun]at gk;ext;apply⟨_,by lia,q+1,_,rfl,s2,rfl,by nofun,by lia,?_⟩;rw[he,gk,show q+1-n=(q-n)+1 by lia];have g8:(t.drop n)[q-n]? =some c:=by rw[FD,show n+(q-n)=q by lia];exact hc
   rw[take_snoc g8,AZ];rfl
  have yes:∀H2,aj H H2->cW nm (t.drop q)=true->Q (.int q) H2:=by
   intro H2 s2 hy;rw[iP hy]at gk;rw[gk]at he;apply k H2 q s2 (by rw[he]) (by rw[he];simp) yR KY
  clear hR;apply kj λE1 rB=>?_
  have Vh:∀H2,aj H H2->cW nm (t.drop q)=false->E1 [some (.ref a),some (.int q),some (.ref b),some (.int ((q+2+nm.length:Nat):Int))] H2:=by
   intro H2 s2 f7;subst rB;exact next H2 s2 f7
  clear rB;ext;apply⟨_,s1.seq ha,λp1 nQ=>?_⟩;rw[e2,mv];have s2:=s1.trans (aj.upd (o:= .lst (VL ((t.drop q).take 2))) nQ);apply⟨by decide,λp2 eK=>?_⟩;have s3:=s2.trans (aj.upd (o:= .lst [V.int 60,V.int 47]) eK);apply jM (t:=[60,47]) (aL.of (aj.upd eK _ _ aa)) (aL.of aa) ?_;apply bb (λh1=>?_) (λh1=>?_)
  .have h1:=of_decide_eq_true h1;apply⟨_,s3.seq ha,λp3 ro=>?_⟩;rw[mv];have s4:=s3.trans (aj.upd (o:= .lst (VL ((t.drop (q+2)).take nm.length))) ro);apply⟨p3,_,rfl,aL.of aa,?_,λp4 H5 rn s5 h5=>?_⟩
   .rw[AX];exact cF (by lia)
   have s6:=s4.trans s5;apply jM (aL.of h5) (s6.seq hb) ?_;apply bb (λh2=>?_) (λh2=>?_)
   .have h2:=of_decide_eq_true h2
    have hlen:q+2+nm.length<=t.length:=by
     have:=congrArg BJ h2;rw[AF,AX,AM]at this
     by_cases hz:nm.length=0
     .have:=congrArg BJ h1;rw[AX,AM]at this;simp at this;lia
     .omega
    have oI:cW nm (t.drop q)=((t.drop (q+2+nm.length)).isEmpty||[9,10,12,32,47,62].contains ((t.drop (q+2+nm.length)).headD 0)):=by
     unfold cW;rw[A7,A7,show q+(2+nm.length)=q+2+nm.length by lia,decide_eq_true h1,decide_eq_true h2];rfl
    ext;apply⟨_,.inl (s6.seq ha),?_⟩;rw[ax];apply bb (λh3=>?_) (λh3=>?_)
    .refine yes H5 s6 ?_;rw[oI,AQ (by omega)];rfl
    .obtain⟨d,rq⟩:∃d,t[q+2+nm.length]? =some d:=⟨t[q+2+nm.length]'(by lia),AN (by omega)⟩
     apply⟨_,s6.seq ha,_,cR rq,?_⟩;apply Ke (t:=[9,10,12,32,47,62]) (g.c_NAME_ENDS.sq H5) ?_;rw[aJ rq]at oI;have oI:cW nm (t.drop q)=[9,10,12,32,47,62].contains d:=oI;apply bb (λh4=>?_) (λh4=>?_)
     .exact yes H5 s6 (by rw[oI];exact h4)
     .exact next H5 s6 (by rw[oI];simpa using h4)
   .refine Vh H5 s6 ?_;unfold cW;rw[A7];have:decide ((((t.drop (q+2)).take nm.length)).map Lh=nm)=false:=by simpa using h2
    rw[this,GU,E7]
  .refine Vh _ s3 ?_;unfold cW;have:decide ((t.drop q).take 2=[60,47])=false:=by simpa using h1
   rw[this,E7,E7]
 .have hq:q=t.length:=by lia
  subst hq;ext;rw[DJ]at he;have h0:xE nm []=([], []):=rfl;rw[h0]at he;exact k H1 _ s1 (by rw[he,DJ]) (by rw[he];simp) yR (AE _)
theorem xU {s:Aa} {c:Nat} {r:Aa}:Oi s (c::r)=if(c::r).take s.length=s then some ([], (c::r).drop s.length)else(Oi s r).map λx=>(c::x.1,x.2):=rfl
inductive sp_raw_text (_:G w K mg) (vs:List V) (H:Hp) (Q:VK) (_:XK):Prop
 |i (l:Addr) (nm y:List Nat) (_:vs=[.str (W nm),.ref l]) (_:H l=some (.lst (VL y))) (_:y.length<=1000000) (_:(∀c∈y,c<10000000)) (_:∀H' (l':Addr),aj H H'->H' l'=some (.lst (VL (bQ nm y)))->(l'=l\/H l'=none)->Q (.ref l') H')
theorem ok_raw_text (g:G w K mg):aI P w K mg base bO 6 g.raw_text.f g.raw_text.fd ["word","points"] (sp_raw_text g):=by
 apply g.raw_text.fn.bW sc_raw_text λvs H Q E h=>?_;obtain⟨l,nm,y,rfl,hy,hl,hb,k⟩:=h;apply⟨rfl,λ_ _ _ _ hr=>?_⟩;apply⟨_,%[aw (binrel_no_prop% op_in_seq (pv 0) (g.c_RAW_WITHOUT_REFERENCES.pe rfl)) %[ao (pv 1)|b] %[|b],leftact% raw_text 2 (unop% told %[pv 1|a]),aw (PW.pt (bG (binrel% op_eq (pv 0) (aB)) (a9 (cD (op_eqD hr.units) (aO aW (pv 2) cE (aF (ag))) (aM %[g.c_LINE_FEED.pe rfl|a]) (dk _))))) %[ao (aO aW (pv 2) (aF (ag)) cE)|b] %[|b],ao (pv 2)|b],?_⟩;unfold bQ at k;cbv;ext;apply cM (oV g H) ?_;apply bb (λh0=>?_) (λh0=>?_)
 .rw[iP h0]at k;exact k H l (aj.refl H) hy (.inl rfl)
 rw[iN h0]at k;cbv;ext;apply⟨l,y,rfl,aL.of hy,hl,hb,λp H1 hp s1 h1=>?_⟩;have hlen:=mO _ y (AE _);cbv;apply kj λE1 rB=>?_
 have no:∀H2,aj H1 H2->¬(nm=aG "textarea"/\(ui 0 y).take 1=[10])->E1 [some (.str (W nm)),some (.ref l),some (.ref p)] H2:=by
  intro H2 s2 f7;subst rB;rw[iN f7]at k;exact k H2 p (s1.trans s2) (s2 _ _ h1) (.inr hp)
 clear rB;ext;apply bb (λh2=>?_) (λh2=>?_)
 .have h2:=(fM nofun).mp h2;apply⟨_,aL.of h1,λp1 nQ=>?_⟩;have ec:cb (VL (ui 0 y)) none (some (1:Int))=VL ((ui 0 y).take 1):=lT _ 1;rw[ec];apply⟨by decide,λp2 eK=>?_⟩;have s2:=(aj.upd (o:= .lst (VL ((ui 0 y).take 1))) nQ).trans (aj.upd (o:= .lst [V.int 10]) eK);apply jM (t:=[10]) (aL.of (aj.upd eK _ _ aa)) (aL.of aa) ?_;apply bb (λh3=>?_) (λh3=>?_)
  .rw[iP ⟨h2,of_decide_eq_true h3⟩]at k;apply⟨_,aL.of (s2 _ _ h1),λp3 ro=>?_⟩;have N6:cb (VL (ui 0 y)) (some (1:Int)) none=VL ((ui 0 y).drop 1):=lV _ 1;rw[N6];exact k _ p3 ((s1.trans s2).trans (aj.upd ro)) aa (.inr ((s1.trans s2).free ro))
  .exact no _ s2 λq=>h3 (decide_eq_true q.2)
 .exact no H1 (aj.refl H1) λq=>h2 ((fM nofun).mpr q.1)
structure yZ (F:Addr->Prop) (H:Hp) (a:Addr) (t:List Nat):Prop where
 at_:H a=some (.lst (VL t))
 out:¬F a
 len:t.length<=900000
 low:∀c∈t,c<1200000
theorem yZ.keep {a:Addr} {t:List Nat} (h:yZ F H a t) (gr:aS F F' H) (kp:bc F H H'):yZ F' H' a t:=⟨kp _ _ h.at_ h.out,gr.not h.at_ h.out,h.len,h.low⟩
theorem yZ.same {a:Addr} {t:List Nat} (h:yZ F H a t) (s:aj H H'):yZ F H' a t:=⟨s _ _ h.at_,h.out,h.len,h.low⟩
def eC (g:G w K mg) (F:Addr->Prop) (H:Hp) (p:Addr) (t:List Nat) (r:a8×Aa) (Q:VK):Prop:=∀(F':Addr->Prop) (H':Hp) (q:Nat),cz g F' H' p r.1->aS F F' H->bc F H H'->t.drop q=r.2->Q (.int q) H'
theorem eC.after {F F1:Addr->Prop} {H H1:Hp} {s1:a8} {t:List Nat} {r:a8×Aa} (h:eC g F H p t r Q) (h1:cz g F1 H1 p s1) (gr:aS F F1 H) (kp:bc F H H1):eC g F1 H1 p t r Q:=λF' H' q hT zi Kv e=>
 h F' H' q hT (gr.trans (λ_ q=>gz h1 gr kp q) zi) (kp.trans gr Kv) e
theorem eC.same {H H1:Hp} {t:List Nat} {r:a8×Aa} (h:eC g F H p t r Q) (s1:aj H H1):eC g F H1 p t r Q:=λF' H' q hT zi Kv e=>
 h F' H' q hT ⟨zi.1,λb q=>(zi.2 b q).imp id λz=>s1.free z⟩ (λb o e n=>Kv b o (s1 b o e) n) e
theorem eC.now {t:List Nat} {r:a8×Aa} (h:eC g F H p t r Q) (hT:cz g F H p r.1) (q:Nat) (e:t.drop q=r.2):Q (.int q) H:=h F H q hT (aS.refl F H) (bc.refl F H) e
inductive sp_read_remark (g:G w K mg) (vs:List V) (H:Hp) (Q:VK) (_:XK):Prop
 |i (F:Addr->Prop) (p a:Addr) (t:List Nat) (n:Nat) (s:a8) (_:vs=[.ref p,.ref a,.int n]) (_:cz g F H p s) (_:yZ F H a t) (_:n<=t.length) (_:Sz s<=780000) (_:eC g F H p t (cp s (cA (t.drop n)).1, (cA (t.drop n)).2) Q)
theorem ok_read_remark (g:G w K mg):aI P w K mg base bO 5 g.read_remark.f g.read_remark.fd ["tree","points","place"] (sp_read_remark g):=by
 apply g.read_remark.fn.bW sc_read_remark λvs H Q E h=>?_;obtain⟨F,p,a,t,n,s,rfl,hT,hA,hn,hsz,k⟩:=h;apply⟨rfl,λ_ _ _ _ hr=>?_⟩;apply⟨_,%[leftact% read_remark 3 (unop% points_of %[aB|a]),leftact% read_remark 4 (pv 2),bE PassesOwn.never (PW.pt (bG (binrel% op_lt (pv 4) (unop% L.n (pv 1))) (a9 (cD (op_neD hr.units) (aO aW (pv 1) (aF (pv 4)) (aF (ay op_add (pv 4) (ag)))) (pv 3) (dk _))))) %[eD (i:=4) sc_read_remark.nd rfl (CM rfl) (ag) gw|b],au (unop% take_remark %[pv 0,aO aW (pv 1) (aF (pv 2)) (aF (pv 4))|a]),ao (ay op_add (pv 4) (ag))|b],?_⟩;have hl:=hA.len;cbv;ext;apply uO "-->" nofun λb H1 hb s1 h1=>?_;have e3:aG "-->"=[45,45,62]:=rfl;rw[e3]at h1;ext;cbv;ext;apply g7 λR hR=>?_
 have rest:∀(q:Nat) (H2:Hp),aj H H2->n<=q->q<=t.length->cA (t.drop n)=((t.drop n).take (q-n),t.drop (q+3))->R [some (.ref p),some (.ref a),some (.int n),some (.ref b),some (.int q)] H2:=by
  intro q H2 s2 yR KY he;subst hR;have c9:=hT.same s2;have zh:=hA.same s2;have k2:=k.same s2;cbv;ext;apply⟨_,aL.of zh.at_,λl oy=>?_⟩;rw[show(q:Int)=((n+(q-n):Nat):Int) by lia,mv];have s3:=aj.upd (o:= .lst (VL ((t.drop n).take (q-n)))) oy;apply⟨F,p,l,s, (t.drop n).take (q-n),rfl,c9.same s3,by nofun,aa,c9.out oy,λF4 H4 NY Q7 QB=>?_⟩;have k4:=(k2.same s3).after NY Q7 QB;ext;rw[show((n+(q-n):Nat):Int)+3=((q+3:Nat):Int) by lia];rw[he]at k4;exact k4.now NY _ rfl
 clear hR;apply⟨λm σ H'=>∃(q:Nat),SE σ [some (.ref p),some (.ref a),some (.int n),some (.ref b),some (.int q)]/\aj H H'/\H' b=some (.lst (VL [45,45,62]))/\m=t.length-q/\n<=q/\q<=t.length/\Oi [45,45,62] (t.drop n)=(Oi [45,45,62] (t.drop q)).map λx=>((t.drop n).take (q-n)++x.1,x.2), ⟨_,n,rfl,s1,h1,rfl,AE _,hn,?_⟩,?_⟩
 .rw[DP];simp
 rintro m σ H2 ⟨q,rfl,s2,Wi,rfl,yR,KY,he⟩;ext;apply⟨_,.inl (aL.of (s2 _ _ hA.at_)),?_⟩;rw[ax];apply bb (λh0=>?_) (λh0=>?_)
 .obtain⟨c,hc⟩:∃c,t[q]? =some c:=⟨t[q]'(by lia),AN (by omega)⟩
  have hd:=aJ hc;have gk:=xU (s:=[45,45,62]) (c:=c) (r:=t.drop (q+1));rw[<-hd]at gk;apply⟨_,aL.of (s2 _ _ hA.at_),λl oy=>?_⟩;rw[show(q:Int)+3=((q+3:Nat):Int) by nofun,mv];have s3:=aj.upd (o:= .lst (VL ((t.drop q).take 3))) oy;apply Mr (aL.of aa) (aL.of (s3 _ _ Wi)) ?_;apply bb (λh3=>⟨_,λ_ _ h=>h,?_⟩) (λh3=>?_)
  .have h3:¬(t.drop q).take 3=[45,45,62]:=by simpa using h3
   have Sv:¬(t.drop q).take [45,45,62].length=[45,45,62]:=h3;rw[iN Sv]at gk;ext;apply⟨_,by lia,q+1,rfl,s2.trans s3,s3 _ _ Wi,rfl,by nofun,by lia,?_⟩;rw[he,gk,Option.map_map,show q+1-n=(q-n)+1 by lia];have g8:(t.drop n)[q-n]? =some c:=by rw[FD,show n+(q-n)=q by lia];exact hc
   rw[take_snoc g8];congr 1;funext x;simp
  .have h3:(t.drop q).take 3=[45,45,62]:=by simpa using h3
   have Sv:(t.drop q).take [45,45,62].length=[45,45,62]:=h3;rw[iP Sv]at gk;apply rest q _ (s2.trans s3) yR KY ?_;unfold cA;rw[he,gk];simp only[EX,A6];rw[A7];rfl
 .have hq:q=t.length:=by lia
  apply rest q H2 s2 yR KY ?_;have e1:t.drop q=[]:=AQ (by nofun);unfold cA;rw[he,e1];show(t.drop n, [])=((t.drop n).take (q-n),t.drop (q+3))
  rw[AK (by rw[AM];lia),AQ (show t.length<=q+3 by lia)]
inductive sp_read_end (g:G w K mg) (vs:List V) (H:Hp) (Q:VK) (_:XK):Prop
 |i (F:Addr->Prop) (p a:Addr) (t:List Nat) (n:Nat) (s:a8) (_:vs=[.ref p,.ref a,.int n]) (_:cz g F H p s) (_:yZ F H a t) (_:Sz s<=780000) (_:(rf (aD s)=true->bj (aD s))) (_:eC g F H p t (match Lg (t.drop n)with|none=>(s, [])|some x=>(lp s x.1,x.2.2.2)) Q)
theorem ok_read_end (g:G w K mg):aI P w K mg base bO 11 g.read_end.f g.read_end.fd ["tree","points","place"] (sp_read_end g):=by
 apply g.read_end.fn.bW sc_read_end λvs H Q E h=>?_;obtain⟨F,p,a,t,n,s,rfl,hT,hA,hsz,kZ,k⟩:=h;apply⟨rfl,λ_ _ _ _ hr=>?_⟩;apply⟨_,%[leftact% read_end 3 (unop% read_tag %[pv 1,pv 2|a]),aw (cD op_notN (rightact% cQ (pv 3) (ag)) (fT) (dk _)) %[au (unop% take_end %[pv 0,rightact% cQ (pv 3) (ag)|a])|b] %[|b],ao (rightact% cQ (pv 3) (ag))|b],?_⟩;have hl:=hA.len;cbv;ext;apply⟨a,t,n,rfl,aL.of hA.at_,by nofun,hA.low,λh0 b H1 hb s1 h1=>?_,λx h0 b tg q H1 hb n8 s1 h1 cx ua Lw hq _ _ _=>?_⟩
 .rw[h0]at k;cbv;ext;apply⟨_,bC.of h1,_,rfl,?_⟩;ext;apply⟨_,bC.of h1,_,rfl,?_⟩;exact(k.same s1).now (hT.same s1) _ (DJ ..)
 .rw[h0]at k;cbv;ext;apply⟨_,bC.of h1,_,rfl,?_⟩;ext;apply⟨_,bC.of h1,_,rfl,?_⟩;have hP:=Lw.uC hT n8;apply⟨F,p,s,tg,x.2.1, [],rfl,hT.same s1,hsz,hP,kZ,λF2 H2 c9 ur lD=>?_⟩;have h2:=lD _ _ h1 (hT.out hb);apply⟨_,bC.of h2,_,rfl,?_⟩;rw[cx]at c9;exact((k.same s1).after c9 ur lD).now c9 _ hq
def NB (s:a8) (u:Aa):a8×Aa:=match Lg u with
 |none=>(s, [])
 |some x=>if lj.contains x.1=true/\x.2.2.1=false then
   ((bY s x.1 x.2.1 x.2.2.1 (bQ x.1 (xE x.1 x.2.2.2).1)).1,match Lg ((xE x.1 x.2.2.2).2.drop 2)with|some w=>w.2.2.2|none=>[])
  else((bY s x.1 x.2.1 x.2.2.1 []).1,if(bY s x.1 x.2.1 x.2.2.1 []).2=true/\x.1=aG "pre" then lu x.2.2.2 else x.2.2.2)
theorem kC:lj.contains (aG "pre")=false:=by decide
inductive sp_read_start (g:G w K mg) (vs:List V) (H:Hp) (Q:VK) (_:XK):Prop
 |i (F:Addr->Prop) (p a:Addr) (t:List Nat) (n:Nat) (s:a8) (_:vs=[.ref p,.ref a,.int n]) (_:cz g F H p s) (_:yZ F H a t) (_:Sz s<=780000) (_:(rf (aD s)=true->bj (aD s))) (_:eC g F H p t (NB s (t.drop n)) Q)
theorem ok_read_start (g:G w K mg):aI P w K mg base bO 10 g.read_start.f g.read_start.fd ["tree","points","place"] (sp_read_start g):=by
 apply g.read_start.fn.bW sc_read_start λvs H Q E h=>?_;obtain⟨F,p,a,t,n,s,rfl,hT,hA,hsz,kZ,k⟩:=h;apply⟨rfl,λ_ _ _ _ hr=>?_⟩;apply⟨_,%[leftact% read_start 3 (unop% read_tag %[pv 1,pv 2|a]),leftact% read_start 4 (rightact% cQ (pv 3) (ag)),leftact% read_start 5 (rightact% cQ (pv 3) (ag)),aw (cD op_isN (pv 4) (fT) (dk _)) %[ao (pv 5)|b] %[|b],aw (PW.pt (bG (binrel_no_prop% op_in_seq (ak (pv 4) rfl) (g.c_RAW.pe rfl)) (a9 (mz (c7 (ak (pv 4) rfl)))))) %[leftact% read_start 6 (unop% raw_end %[pv 1,pv 5,ak (pv 4) rfl|a]),aT (pv 4) (unop% raw_text %[ak (pv 4) rfl,aO aW (pv 1) (aF (pv 5)) (aF (pv 6))|a]) rfl,leftact% read_start 5 (rightact% cQ (unop% read_tag %[pv 1,ay op_add (pv 6) (ag)|a]) (ag))|b] %[|b],leftact% read_start 7 (unop% take_start %[pv 0,pv 4|a]),aw (PW.pt (bG (c7 (pv 7)) (a9 (binrel% op_eq (ak (pv 4) rfl) (aB))))) %[leftact% read_start 5 (unop% behind_first_line_feed %[pv 1,pv 5|a])|b] %[|b],ao (pv 5)|b],?_⟩;have hl:=hA.len;have rA:∀c∈t,c<10000000:=λc hc=>by have:=hA.low c hc;nofun
 unfold NB at k;cbv;ext;apply⟨a,t,n,rfl,aL.of hA.at_,by nofun,hA.low,λh0 b H1 hb s1 h1=>?_,λx h0 b tg q H1 hb n8 s1 h1 cx ua Lw hq yR KY yO=>?_⟩
 .rw[h0]at k;cbv;ext;apply⟨_,bC.of h1,_,rfl,?_⟩;cbv;ext;apply⟨_,bC.of h1,_,rfl,?_⟩;cbv;ext;exact(k.same s1).now (hT.same s1) _ (DJ ..)
 rw[h0]at k;simp only at k;cbv;ext;apply⟨_,bC.of h1,_,rfl,?_⟩;cbv;ext;apply⟨_,bC.of h1,_,rfl,?_⟩;cbv;ext;have hP:=Lw.uC hT n8;apply g7 λR hR=>?_
 have rest:∀(tx:Addr) (text:Aa) (q2:Nat) (r:Aa) (v6:Option V) (H2:Hp),aj H H2->d4 g F H2 {tg with tx:=tx} x.2.1 text->t.drop q2=r->eC g F H p t ((bY s x.1 x.2.1 x.2.2.1 text).1,if(bY s x.1 x.2.1 x.2.2.1 text).2=true/\x.1=aG "pre" then lu r else r) Q->R [some (.ref p),some (.ref a),some (.int n),some (.ref b),some (.ref tg.a),some (.int q2),v6,none] H2:=by
  intro tx text q2 r v6 H2 s2 lF hr k;subst hR;have zh:=hA.same s2;have k2:=k.same s2;cbv;ext;apply⟨F,p,s, {tg with tx:=tx},x.2.1,text,rfl,hT.same s2,hsz,lF,kZ,?_⟩;show cg g F H2 p (bY s tg.name x.2.1 tg.sh text).1 _ (.bl (bY s tg.name x.2.1 tg.sh text).2)
  rw[cx,ua];intro F3 H3 eJ il jF;have k3:=k2.after eJ il jF;have Ff:=zh.keep il jF;have nY:=jF _ _ lF.tb.ob lF.tb.fa;cbv;apply kj λE1 rB=>?_
  have no:¬((bY s x.1 x.2.1 x.2.2.1 text).2=true/\x.1=aG "pre")->E1 [some (.ref p),some (.ref a),some (.int n),some (.ref b),some (.ref tg.a),some (.int q2),v6,some (.bl (bY s x.1 x.2.1 x.2.2.1 text).2)] H3:=by
   intro f7;subst rB;rw[iN f7]at k3;exact k3.now eJ q2 hr
  clear rB;ext;apply bb (λh4=>?_) (λh4=>?_)
  .refine⟨_,_,_,nY,g.cl_Tag,g.na_Tag_word,_,rfl,?_⟩;ext;apply bb (λh5=>?_) (λh5=>?_)
   .have h5:tg.name=aG "pre":=(fM nofun).mp h5;rw[iP ⟨h4,by rw[<-cx];exact h5⟩]at k3;apply⟨a,t,q2,rfl,aL.of Ff.at_,by nofun,rA,λH4 q4 s4 e4 _=>?_⟩;apply(k3.same s4).now (eJ.same s4) q4 ?_;rw[e4,hr]
   .exact no λq=>h5 ((fM nofun).mpr (by rw[<-q.2];exact cx))
  .exact no λq=>h4 q.1
 clear hR;have rF:=hP.tb.ob;apply kj λE1 rB=>?_
 have plain:¬(lj.contains x.1=true/\x.2.2.1=false)->E1 [some (.ref p),some (.ref a),some (.int n),some (.ref b),some (.ref tg.a),some (.int q),none,none] H1:=by
  intro f7;subst rB;rw[iN f7]at k;exact rest tg.tx [] q _ none H1 s1 hP hq k
 clear rB;ext;apply⟨_,_,_,rF,g.cl_Tag,g.na_Tag_word,_,rfl,?_⟩;ext;apply cM (Aq g H1) ?_;ext;apply bb (λh4=>?_) (λh4=>?_)
 .rw[cx]at h4;apply⟨_,_,_,rF,g.cl_Tag,g.na_Tag_short,_,rfl,?_⟩;ext;apply bb (λh5=>?_) (λh5=>?_)
  .have h5:tg.sh=false:=by simpa using h5
   rw[ua]at h5;rw[iP ⟨h4,h5⟩]at k;cbv;ext;apply⟨_,_,_,rF,g.cl_Tag,g.na_Tag_name,_,rfl,?_⟩
   have xy:tg.name.length<=1000:=by
    rw[cx,yO];exact AY (ky _) nofun
   apply⟨a,tg.nm,t,tg.name,q,rfl,s1.seq (aL.of hA.at_),aL.of hP.tb.nm,by nofun,xy,KY,λH2 e s2 e1 e2 hqe Ez=>?_⟩;rw[cx,hq]at e1 e2;have uj:=s1.trans s2;cbv;ext;apply⟨_,_,_,s2 _ _ rF,g.cl_Tag,g.na_Tag_word,_,rfl,?_⟩;apply⟨_,uj.seq (aL.of hA.at_),λl oy=>?_⟩;rw[show(e:Int)=((q+(e-q):Nat):Int) by omega,mv,hq,e2];have s3:=aj.upd (o:= .lst (VL (xE x.1 x.2.2.2).1)) oy;apply⟨l,tg.name, (xE x.1 x.2.2.2).1,rfl,aa,?_,?_,λH4 l' s4 We T9=>?_⟩
   .rw[<-e2,AX,<-hq,AM];omega
   .rw[<-e2,<-hq];exact λc hc=>rA c (BH (CB hc))
   have RB:=s3.trans s4;have Kf:=RB _ _ (s2 _ _ rF);apply⟨_,_,_,Kf,g.cl_Tag,g.na_Tag_text,cq rfl,?_⟩;have WX:=uj.trans RB
   have PQ:H l'=none:=by
    rcases T9 with z|z
    .rw[z];exact uj.free oy
    .exact(uj.trans s3).free z
   have XB:l'≠tg.a:=aE We Kf (by intro z;cases z);have Qo:aj H (upd H4 tg.a (.ins g.k_Tag tg.dx (bU "text" (V.ref l') (dw tg.nm (W tg.name) tg.d tg.sh tg.tx .aY)))):=λb o z=>by rw[ae (af z n8.a)];exact WX b o z
   have QD:∀b o,H1 b=some o->b≠tg.a->upd H4 tg.a (.ins g.k_Tag tg.dx (bU "text" (V.ref l') (dw tg.nm (W tg.name) tg.d tg.sh tg.tx .aY))) b=some o:=λb o z nz=>by rw[ae nz];exact RB _ _ (s2 _ _ z)
   have Wc:upd H4 tg.a (.ins g.k_Tag tg.dx (bU "text" (V.ref l') (dw tg.nm (W tg.name) tg.d tg.sh tg.tx .aY))) tg.a=some (.ins g.k_Tag tg.dx (dw tg.nm (W tg.name) tg.d tg.sh l' .aY)):=by rw[aa];rfl
   have Q0:upd H4 tg.a (.ins g.k_Tag tg.dx (bU "text" (V.ref l') (dw tg.nm (W tg.name) tg.d tg.sh tg.tx .aY))) l'=some (.lst (VL (bQ tg.name (xE x.1 x.2.2.2).1))):=by rw[ae XB];exact We
   generalize upd H4 tg.a (.ins g.k_Tag tg.dx (bU "text" (V.ref l') (dw tg.nm (W tg.name) tg.d tg.sh tg.tx .aY)))=H5 at Qo QD Wc Q0 ⊢;obtain⟨ls,yY, ⟨Ji,hd2⟩,YL⟩:=hP.tb.at_
   have NZ:d4 g F H5 {tg with tx:=l'} x.2.1 (bQ tg.name (xE x.1 x.2.2.2).1):=by
    apply⟨⟨Wc,QD _ _ hP.tb.nm (aE hP.tb.nm rF (by intro z;cases z)), ⟨ls,yY, ⟨QD _ _ Ji (aE Ji rF (by intro z;cases z)),λy hy=>QD _ _ (hd2 y hy) (aE (hd2 y hy) rF (by intro z;cases z))⟩,YL⟩,hP.tb.fa,hP.tb.fn⟩,hP.fd,Q0,hT.out PQ,λ_=>?_⟩;show lj.contains tg.name=true
    rw[cx];exact h4
   ext;rw[show((q+(e-q):Nat):Int)+2=((e+2:Nat):Int) by lia];have Kk:t.drop (e+2)=(xE x.1 x.2.2.2).2.drop 2:=by rw[<-A7,e1]
   apply⟨a,t,e+2,rfl,Qo.seq (aL.of hA.at_),by nofun,hA.low,λhz b6 H6 YT s6 h6=>?_,λy hz b6 tg6 q6 H6 YT _ s6 h6 _ _ _ Yb _ _ _=>?_⟩
   .rw[Kk]at hz;rw[hz]at k;ext;apply⟨_,bC.of h6,_,rfl,?_⟩;apply rest l' _ t.length [] _ H6 (Qo.trans s6) (NZ.keep (aS.refl F H5) (aj.keep s6 F)) (DJ ..) ?_;rw[cx,iN (λz=>by rw[z.2,kC]at h4;cases h4)];exact k
   .rw[Kk]at hz;rw[hz]at k;ext;apply⟨_,bC.of h6,_,rfl,?_⟩;apply rest l' _ q6 y.2.2.2 _ H6 (Qo.trans s6) (NZ.keep (aS.refl F H5) (aj.keep s6 F)) Yb ?_;rw[cx,iN (λz=>by rw[z.2,kC]at h4;cases h4)];exact k
  .refine plain λq=>h5 ?_;rw[ua];exact q.2
 .exact plain λq=>h4 (by rw[cx];exact q.1)
def RN (s:a8) (u:Aa):a8×Aa:=match Lg u with|none=>(s, [])|some x=>(lp s x.1,x.2.2.2)
def iu (s:a8) (c:Nat) (r:Aa):a8×Aa:=
 if c=60/\isLet (pt r)=true then NB s r
 else if c=60/\pt r=47/\isLet (pt (r.drop 1))=true then RN s (r.drop 1)
 else if c=60/\(c::r).take 4=[60,33,45,45]then(cp s (cA (r.drop 3)).1, (cA (r.drop 3)).2)
 else if c=60/\nothing (c::r)=true then(s,bL (c::r))
 else(ez s (aR c r).1, (c::r).drop (aR c r).2)
inductive sp_read_piece (g:G w K mg) (vs:List V) (H:Hp) (Q:VK) (_:XK):Prop
 |i (F:Addr->Prop) (p a:Addr) (t:List Nat) (n c:Nat) (s:a8) (_:vs=[.ref p,.ref a,.int n]) (_:cz g F H p s) (_:yZ F H a t) (_:t[n]? =some c) (_:Sz s<=780000) (_:(rf (aD s)=true->bj (aD s))) (_:eC g F H p t (iu s c (t.drop (n+1))) Q)
theorem ok_read_piece (g:G w K mg):aI P w K mg base bO 12 g.read_piece.f g.read_piece.fd ["tree","points","place"] (sp_read_piece g):=by
 apply g.read_piece.fn.bW sc_read_piece λvs H Q E h=>?_;obtain⟨F,p,a,t,n,c,s,rfl,hT,hA,hc,hsz,kZ,k⟩:=h;apply⟨rfl,λ_ _ _ _ hr=>?_⟩;apply⟨_,%[aw (binrel% op_eq (rightact% aN (pv 1) (pv 2)) (g.c_LESS.pe rfl)) %[leftact% read_piece 3 (unop% point_at %[pv 1,ay op_add (pv 2) (ag)|a]),aw (c7 (unop% is_letter %[pv 3|a])) %[ao (unop% read_start %[pv 0,pv 1,ay op_add (pv 2) (ag)|a])|b] %[|b],aw (PW.pt (bG (binrel% op_eq (pv 3) (g.c_SLASH.pe rfl)) (a9 (c7 (unop% is_letter %[unop% point_at %[pv 1,ay op_add (pv 2) (ag)|a]|a]))))) %[ao (unop% read_end %[pv 0,pv 1,ay op_add (pv 2) (ag)|a])|b] %[|b],aw (cD (op_eqD hr.units) (aO aW (pv 1) (aF (pv 2)) (aF (ay op_add (pv 2) (ag)))) (unop% points_of %[aB|a]) (dk _)) %[ao (unop% read_remark %[pv 0,pv 1,ay op_add (pv 2) (ag)|a])|b] %[|b],aw (c7 (unop% stands_nothing %[pv 1,pv 2|a])) %[ao (unop% behind_nothing %[pv 1,pv 2|a])|b] %[|b]|b] %[|b],leftact% read_piece 4 (unop% told_at %[pv 1,pv 2|a]),au (unop% take_text %[pv 0,rightact% cQ (pv 4) (ag)|a]),ao (rightact% cQ (pv 4) (ag))|b],?_⟩;have hl:=hA.len;have rA:∀c∈t,c<10000000:=λc hc=>by have:=hA.low c hc;nofun
 have hd:=aJ hc;have e1:(n:Int)+1=((n+1:Nat):Int):=by nofun
 have e2:(n:Int)+2=((n+2:Nat):Int):=by nofun
 have e4:(n:Int)+4=((n+4:Nat):Int):=by nofun
 unfold iu at k;apply g7 λR hR=>?_
 have rest:∀(v:Option V) (H1:Hp),aj H H1->eC g F H1 p t (ez s (aR c (t.drop (n+1))).1, (c::t.drop (n+1)).drop (aR c (t.drop (n+1))).2) Q->R [some (.ref p),some (.ref a),some (.int n),v,none] H1:=by
  intro v H1 s1 k1;subst hR;have cZ:=hT.same s1;have K7:=hA.same s1;cbv;ext;apply⟨a,t,n,c,rfl,aL.of K7.at_,hc,by nofun,rA,λb H2 hb s2 h2=>?_⟩;cbv;ext;apply⟨_,bC.of h2,_,rfl,?_⟩;apply⟨F,p,s,_,rfl,cZ.same s2,hsz,λF3 H3 eJ il jF=>?_⟩;have h3:=jF _ _ h2 (cZ.out hb);ext;apply⟨_,bC.of h3,_,rfl,?_⟩;apply((k1.same s2).after eJ il jF).now eJ _ ?_;rw[<-A7,hd]
 clear hR;ext;apply⟨_,aL.of hA.at_,_,cR hc,?_⟩;ext;apply bb (λh0=>?_) (λh0=>?_)
 .have h0:c=60:=by lia
  cbv;ext;rw[e1];apply⟨a,t,n+1,rfl,aL.of hA.at_,?_⟩;cbv;ext;apply⟨_,rfl,?_⟩;ext;apply bb (λh1=>?_) (λh1=>?_)
  .rw[iP ⟨h0,h1⟩]at k;rw[e1];exact⟨F,p,a,t,n+1,s,rfl,hT,hA,hsz,kZ,k⟩
  rw[iN (λq=>h1 q.2)]at k;apply g7 λR1 V0=>?_
  have more:∀(H1:Hp),aj H H1->eC g F H1 p t (if c=60/\(c::t.drop (n+1)).take 4=[60,33,45,45]then(cp s (cA ((t.drop (n+1)).drop 3)).1, (cA ((t.drop (n+1)).drop 3)).2)
    else if c=60/\nothing (c::t.drop (n+1))=true then(s,bL (c::t.drop (n+1)))
    else(ez s (aR c (t.drop (n+1))).1, (c::t.drop (n+1)).drop (aR c (t.drop (n+1))).2)) Q->R1 [some (.ref p),some (.ref a),some (.int n),some (.int (pt (t.drop (n+1)))),none] H1:=by
   intro H1 s1 k;subst V0;have cZ:=hT.same s1;have K7:=hA.same s1;cbv;ext;apply⟨_,aL.of K7.at_,λl oy=>?_⟩;rw[e4,mv,hd];have s2:=aj.upd (o:= .lst (VL ((c::t.drop (n+1)).take 4))) oy;apply uO "<!--" nofun λl2 H3 nR s3 h3=>?_;have yM:=s1.trans (s2.trans s3);have ex:aG "<!--"=[60,33,45,45]:=rfl;rw[ex]at h3;apply jM (aL.of (s3 _ _ aa)) (aL.of h3) ?_;ext;have k3:=(k.same s2).same s3;have eJ:=hT.same yM;have Ff:=hA.same yM;apply bb (λh4=>?_) (λh4=>?_)
   .rw[iP ⟨h0,h4⟩]at k3
    have VM:n+4<=t.length:=by
     have:=congrArg BJ h4;rw[<-hd,AX,AM]at this;simp at this;lia
    rw[A7]at k3;exact⟨F,p,a,t,n+4,s,rfl,eJ,Ff,VM,hsz,k3⟩
   rw[iN (λq=>h4 q.2)]at k3;ext;apply⟨a,t,n,rfl,aL.of Ff.at_,by nofun,λH5 s5=>?_⟩;rw[hd];have k5:=k3.same s5;ext;apply bb (λh6=>?_) (λh6=>?_)
   .rw[iP ⟨h0,h6⟩]at k5;apply⟨a,t,n,rfl,aL.of (Ff.same s5).at_,λH7 q7 s7 e7 _=>?_⟩;apply(k5.same s7).now (eJ.same (s5.trans s7)) q7 ?_;rw[e7,hd]
   .rw[iN (λq=>h6 q.2)]at k5;exact rest _ H5 (yM.trans s5) k5
  clear V0;apply kj λE1 rB=>?_
  have no:¬(pt (t.drop (n+1))=47/\isLet (pt ((t.drop (n+1)).drop 1))=true)->E1 [some (.ref p),some (.ref a),some (.int n),some (.int (pt (t.drop (n+1)))),none] H:=by
   intro f7;subst rB;rw[iN (λq=>f7 q.2)]at k;exact more H (aj.refl H) k
  clear rB;rw[A7]at no;ext;apply bb (λh2=>?_) (λh2=>?_)
  .rw[e2];apply⟨a,t,n+2,rfl,aL.of hA.at_,_,rfl,?_⟩;ext;apply bb (λh3=>?_) (λh3=>?_)
   .rw[iP ⟨h0,h2,by rw[A7];exact h3⟩,A7]at k;exact⟨F,p,a,t,n+2,s,rfl,hT,hA,hsz,kZ,k⟩
   .exact no λq=>h3 q.2
  .exact no λq=>h2 q.1
 .have h0:¬c=60:=by lia
  rw[iN (λq=>h0 q.1),iN (λq=>h0 q.1),iN (λq=>h0 q.1),iN (λq=>h0 q.1)]at k;exact rest _ H (aj.refl H) k
structure SV (J:a8->Aa->Prop):Prop where
 sz:∀{s c r},J s (c::r)->Sz s<=780000
 tb:∀{s c r},J s (c::r)->rf (aD s)=true->bj (aD s)
 go:∀{s c r},J s (c::r)->J (iu s c r).1 (iu s c r).2
 lt:∀{s c r},J s (c::r)->(iu s c r).2.length<r.length+1
inductive sp_read_text (g:G w K mg) (vs:List V) (H:Hp) (Q:VK) (_:XK):Prop
 |i (a:Addr) (t:List Nat) (J:a8->Aa->Prop) (_:vs=[.ref a]) (_:H a=some (.lst (VL t))) (_:t.length<=900000) (_:(∀c∈t,c<1200000)) (_:SV J) (_:J {} t) (_:∀(F':Addr->Prop) (H':Hp) (z:aV) (s:a8),aA g F' H' z->Rel z s->J s []->aj H H'->(∀b,F' b->H b=none)->Q (.ref z.eh.a) H')
theorem ok_read_text (g:G w K mg):aI P w K mg base bO 13 g.read_text.f g.read_text.fd ["points"] (sp_read_text g):=by
 apply g.read_text.fn.bW sc_read_text λvs H Q E h=>?_;obtain⟨a,t,J,rfl,ha,hl,hb,hJ,So,k⟩:=h;apply⟨rfl,λ_ _ _ _ hr=>?_⟩;apply⟨_,%[leftact% read_text 1 (unop% O.Tree_init ()),leftact% read_text 2 (ag),bE PassesOwn.never (binrel% op_lt (pv 2) (unop% L.n (pv 0))) %[leftact% read_text 2 (unop% read_piece %[pv 1,pv 0,pv 2|a])|b],ao (ak (pv 1) rfl)|b],?_⟩;cbv;ext;intro x dx hx oz dF;have nx:∀{b o},H b=some o->b≠x:=λq=>af q hx;have nd:∀{b o},H b=some o->b≠dx:=λq=>af q oz;apply⟨x,dx,rfl,aa,λF1 H1 cZ Y6 s1=>⟨rfl,?_⟩⟩;have pG:aj H H1:=λb o q=>s1 b o (by rw[ae (nx q),ae (nd q)];exact q) (nx q)
 have O5:∀b,F1 b->H b=none:=λb hb=>by
  rcases Y6 b hb with q|q
  .rw[q];exact hx
  .cases hz:H b with
   |none=>rfl
   |some o=>
    rw[ae (nx hz),ae (nd hz),hz]at q;cases q
 have K7:yZ F1 H1 a t:=⟨pG _ _ ha, (λq=>by have:=O5 _ q;rw[ha]at this;cases this),hl,hb⟩
 cbv;ext;cbv;apply⟨λm σ H'=>∃(q:Nat) (F2:Addr->Prop) (s:a8),SE σ [some (.ref a),some (.ref x),some (.int q)]/\cz g F2 H' x s/\yZ F2 H' a t/\J s (t.drop q)/\m=(t.drop q).length/\aj H H'/\(∀b,F2 b->H b=none), ⟨_,0,F1, {},rfl,cZ,K7,So,rfl,pG,O5⟩,?_⟩;rintro m σ H2 ⟨q,F2,s,rfl,c9,zh,K6,rfl,s2,QX⟩;ext;apply⟨_,.inl (aL.of zh.at_),?_⟩;rw[ax];apply bb (λh0=>⟨_,λ_ _ h=>h,?_⟩) (λh0=>?_)
 .obtain⟨c,hc⟩:∃c,t[q]? =some c:=⟨t[q]'(by lia),AN (by omega)⟩
  have hd:=aJ hc;rw[hd]at K6;apply⟨F2,x,a,t,q,c,s,rfl,c9,zh,hc,hJ.sz K6,hJ.tb K6,λF3 H3 q3 eJ il jF e3=>?_⟩;apply⟨_,?_,q3,rfl,F3,_,eJ,zh.keep il jF,?_,rfl,?_,λb hb=>?_⟩
  .rw[e3,hd];exact hJ.lt K6
  .rw[e3];exact hJ.go K6
  .intro b o e;apply jF b o (s2 b o e) λq=>?_;have:=QX b q;rw[e]at this;cases this
  .rcases il.2 b hb with q|q
   .exact QX b q
   .exact s2.free q
 .rw[AQ (by lia)]at K6;obtain⟨z,hz,T,R,NW⟩:=c9;have a6:=T.ob;rw[hz]at a6;ext;apply⟨_,_,_,a6,g.cl_Tree,g.na_Tree_html,_,rfl,?_⟩;exact k F2 H2 z s T R K6 s2 QX
def jD (d:Nat):List ND->List Addr
 |[]=>[]
 |n::r=>if n.depth<=d then n.a::jD n.depth r else jD d r
theorem mN (d:Nat):∀r:List ND,jD (d+1) r=aq d r++jD d r
 |[]=>rfl
 |n::r=>by
  rw[jD,jD,aq]
  by_cases h1:n.depth<=d
  .rw[iP h1,iP h1,iP (by nofun)];rfl
  .rw[iN h1,iN h1]
   by_cases h2:n.depth=d+1
   .rw[iP h2,iP (by nofun),h2,mN d r];rfl
   .rw[iN h2,iN (by lia),mN d r]
theorem sA {d:Nat}:∀{r:List ND}, (∀n∈r,d<n.depth)->jD d r=[]
 |[],_=>rfl
 |n::r,h=>by rw[jD,iN (by have:=h n (by simp);nofun)];exact sA λm hm=>h m (by simp[hm])
theorem qo (d:Nat):∀r:List ND, (jD d r).length<=r.length
 |[]=>AE _
 |n::r=>by
  rw[jD]
  split
  .have:=qo n.depth r;simp;nofun
  .have:=qo d r;simp;nofun
theorem lG:∀{pre:List ND} {n x:ND} {y:List ND},wf (pre++n::x::y)->x.depth<=n.depth+1/\(n.kind≠1->x.depth<=n.depth)
 |[],_,_,_,h=>⟨h.1,h.2.1⟩
 |[_],_,_,_,h=>lG (pre:=[]) h.2.2
 |_::b::pre,_,_,_,h=>lG (pre:=b::pre) h.2.2
structure pT (g:G w K mg) (H:Hp) (n:ND):Prop where
 ob:∃wr,H n.tg.a=some (.ins g.k_Tag n.tg.dx (dw n.tg.nm (W n.tg.name) n.tg.d n.tg.sh n.tg.tx wr))/\(wr= .aY\/∃l,wr= .ref l/\H l=some (.lst (VL (d9 (pN n.node)))))
 nm:H n.tg.nm=some (.lst (VL n.tg.name))
 at_:∃ls,gd ls=n.at_/\Oh H n.tg.d ls
structure fC (g:G w K mg) (H:Hp) (n:ND) (kids:List Addr):Prop where
 el:n.kind=1->H n.a=some (.ins g.k_Element n.dx (hG n.depth n.tg.a (W n.tg.name) n.li))/\H n.li=some (.lst (kids.map V.ref))/\pT g H n
 lf:n.kind≠1->H n.a=some (.ins g.k_Leaf n.dx (Dt n.kind n.depth n.li))/\H n.li=some (.lst (VL n.bF))/\kids=[]
def bP (g:G w K mg) (H:Hp):List ND->Prop
 |[]=>True
 |n::r=>fC g H n (aq n.depth r)/\bP g H r
theorem bP.at_:∀{pre:List ND} {n:ND} {post:List ND},bP g H (pre++n::post)->fC g H n (aq n.depth post)
 |[],_,_,h=>h.1
 |_::pre,_,_,h=>bP.at_ (pre:=pre) h.2
theorem bP.of:∀{L:List ND},az g F H L->bP g H L
 |[],_=>trivial
 |n::r,h=>by
  apply⟨⟨λhk=>?_,λhk=>h.1.lf hk⟩,bP.of h.2⟩;obtain⟨h1,h2,h3⟩:=h.1.el hk;obtain⟨ls,e,h4,_⟩:=h3.at_;exact⟨h1,h2, ⟨⟨_,h3.ob,.inl rfl⟩,h3.nm, ⟨ls,e,h4⟩⟩⟩
structure de (g:G w K mg) (H:Hp) (L:List ND):Prop where
 nodes:bP g H L
 wf:An.wf L
 top:∃n r,L=n::r/\n.kind=1/\n.depth=1/\∀m∈r,1<m.depth
 len:L.length<=900000
inductive sp_in_order (g:G w K mg) (vs:List V) (H:Hp) (Q:VK) (_:XK):Prop
 |i (L:List ND) (n:ND) (r:List ND) (_:vs=[.ref n.a]) (_:de g H L) (_:L=n::r) (_:∀(p:Addr) (H':Hp),H p=none->aj H H'->H' p=some (.lst (L.map λm=>V.ref m.a))->Q (.ref p) H')
theorem ok_in_order (g:G w K mg):aI P w K mg base bO 1 g.in_order.f g.in_order.fd ["html"] (sp_in_order g):=by
 apply g.in_order.fn.bW sc_in_order λvs H Q E h=>?_;obtain⟨L,n0,r0,rfl,hR,eL,k⟩:=h;apply⟨rfl,λ_ _ _ _ hr=>?_⟩;apply⟨_,%[leftact% in_order 1 (aM %[|a]),leftact% in_order 2 (aM %[pv 0|a]),bE PassesOwn.never (dP (pv 2) (λ_=>rfl)) %[leftact% in_order 3 (uT EC EM EN uV (pv 2)),au (binop% B.append.aU (pv 1) %[pv 3|a]),aw (binrel% op_eq (ak (pv 3) rfl) (g.c_ELEMENT.pe rfl)) %[au (binop% B.extend.bp (pv 2) %[Mo (ak (pv 3) rfl) (Mn)|a])|b] %[|b]|b],ao (pv 1)|b],?_⟩;obtain⟨n1,r1,Nj,gf,Ji,mn⟩:=hR.top;have Rf:n0=n1/\r0=r1:=by rw[Nj]at eL;injection eL with a b;exact⟨a.symm,b.symm⟩
 have rr:n0.depth=1:=by rw[Rf.1];exact Ji
 have MH:∀m∈r0,1<m.depth:=by rw[Rf.2];exact mn
 cbv;ext;apply⟨A0 _,λf hf=>?_⟩;have s1:=aj.upd (o:= .lst []) hf;cbv;ext;apply⟨by decide,λwt RX=>?_⟩;have s2:=aj.upd (o:= .lst [V.ref n0.a]) RX;have Qw:f≠wt:=af aa RX;have Zp:upd (upd H f (.lst [])) wt (.lst [V.ref n0.a]) f=some (.lst []):=by rw[ae Qw,aa]
 have TH:H wt=none:=s1.free RX;cbv
 apply⟨λm σ H'=>∃(pre rest:List ND) (d:Nat) (v:Option V),SE σ [some (.ref n0.a),some (.ref f),some (.ref wt),v]/\L=pre++rest/\m=rest.length/\(∀b o,H b=some o->H' b=some o)/\H' f=some (.lst (pre.map λm=>V.ref m.a))/\H' wt=some (.lst ((jD d rest).reverse.map V.ref))/\(∀x y,rest=x::y->x.depth<=d),
  ⟨_, [],L,1,none,rfl,rfl,rfl,s1.trans s2,Zp,?_,?_⟩,?_⟩
 .rw[aa,eL,jD,iP (by nofun),rr,sA MH];rfl
 .intro x y e;rw[eL]at e;injection e with e _;rw[<-e];omega
 rintro m σ H2 ⟨pre,rest,d,v,rfl,eP,rfl,s3,QR,y9,oz⟩;ext;apply⟨_,.inl ⟨_,aL.of y9,rfl⟩,?_⟩;cases rest with
 |nil=>
  apply nN (show¬(!([]:List V).isEmpty)=true by decide) ?_;rw[A6]at eP;rw[<-eP]at QR;exact k f H2 hf s3 QR
 |cons n rest=>
  have lg:=oz n rest rfl;have er:jD d (n::rest)=n.a::jD n.depth rest:=by rw[jD,iP lg]
  rw[er]at y9;have ew:((n.a::jD n.depth rest).reverse.map V.ref)=(jD n.depth rest).reverse.map V.ref++[V.ref n.a]:=by simp
  rw[ew]at y9;rw[er,ew];apply rj (by simp) ⟨_,λ_ _ h=>h,?_⟩
  have cw:fC g H n (aq n.depth rest):=by
   have:=hR.nodes;rw[eP]at this;exact this.at_
  have Iz:(∀x y,rest=x::y->x.depth<=n.depth+1/\(n.kind≠1->x.depth<=n.depth)):=by
   intro x y e;have:=hR.wf;rw[eP,e]at this;exact lG this
  have Vd:∀{b o},H b=some o->b≠wt:=λq=>af q TH;have XC:∀{b o},H b=some o->b≠f:=λq=>af q hf
  have WM:pre.length<=900000/\rest.length<=900000:=by
   have h1:=hR.len;rw[eP,AB,AA]at h1;lia
  cbv;ext;apply⟨fq y9,?_⟩;ext;apply⟨_,y9,V.ref n.a,by simp,?_⟩;rw[EU];ext;cbv;ext;have VU:upd H2 wt (.lst ((jD n.depth rest).reverse.map V.ref)) f=some (.lst (pre.map λm=>V.ref m.a)):=by rw[ae Qw];exact QR
  apply⟨fq VU,_,VU,by rw[AF];exact cY (by lia),?_⟩;have UD:(pre.map λm=>V.ref m.a)++[V.ref n.a]=(pre++[n]).map λm=>V.ref m.a:=by simp
  rw[UD];have s4:∀b o,H b=some o->upd (upd H2 wt (.lst ((jD n.depth rest).reverse.map V.ref))) f (.lst ((pre++[n]).map λm=>V.ref m.a)) b=some o:=λb o q=>by rw[ae (XC q),ae (Vd q)];exact s3 b o q
  have NJ:upd (upd H2 wt (.lst ((jD n.depth rest).reverse.map V.ref))) f (.lst ((pre++[n]).map λm=>V.ref m.a)) wt=some (.lst ((jD n.depth rest).reverse.map V.ref)):=by rw[ae Qw.symm,aa]
  have Nc:upd (upd H2 wt (.lst ((jD n.depth rest).reverse.map V.ref))) f (.lst ((pre++[n]).map λm=>V.ref m.a)) f=some (.lst ((pre++[n]).map λm=>V.ref m.a)):=aa;generalize upd (upd H2 wt (.lst ((jD n.depth rest).reverse.map V.ref))) f (.lst ((pre++[n]).map λm=>V.ref m.a))=H4 at s4 NJ Nc ⊢;have Wu:L=(pre++[n])++rest:=by rw[eP];simp
  ext
  by_cases hk:n.kind=1
  .obtain⟨h1,h2,_⟩:=cw.el hk;apply⟨_,_,_,s4 _ _ h1,g.cl_Element,g.na_Element_kind,_,rfl,?_⟩;ext;apply⟨fq NJ,_,n.dx,_,s4 _ _ h1,g.cl_Element,g.na_Element_inside,_,rfl,n.li,_,rfl,aL.of (s4 _ _ h2),λrv R4=>?_⟩;have XY:upd H4 rv (.lst ((aq n.depth rest).map V.ref).reverse) wt=some (.lst ((jD n.depth rest).reverse.map V.ref)):=by rw[ae (af NJ R4)];exact NJ
   have NM:(aq n.depth rest).length<=900000:=AY (eI _ _) (by lia);have VO:(jD n.depth rest).length<=900000:=AY (qo _ _) (by omega);apply⟨_,_,XY,aa,?_,?_⟩
   .simp only[AF,DG];exact AY (Nat.add_le_add VO NM) nofun
   have ek:(jD n.depth rest).reverse.map V.ref++((aq n.depth rest).map V.ref).reverse=(jD (n.depth+1) rest).reverse.map V.ref:=by rw[mN];simp
   rw[ek];apply⟨_,CO _,pre++[n],rest,n.depth+1,_,rfl,Wu,rfl,λb o q=>?_,?_,aa,λx y e=>(Iz x y e).1⟩
   .rw[ae (Vd q),ae (af (s4 b o q) R4)];exact s4 b o q
   .rw[ae Qw,ae (af Nc R4)];exact Nc
  .obtain⟨h1,_,pK⟩:=cw.lf hk;apply⟨_,_,_,s4 _ _ h1,g.cl_Leaf,g.na_Leaf_kind,_,rfl,?_⟩;ext;apply nN (by lia) ?_;exact⟨_,CO _,pre++[n],rest,n.depth,_,rfl,Wu,rfl,s4,Nc,NJ,λx y e=>(Iz x y e).2 hk⟩
theorem sJ {P:(List Key×V)->(List Key×Addr×Value)->Prop} (hP:∀p q,P p q->p.1=q.1):∀{l₁:List (List Key×V)} {l₂:List (List Key×Addr×Value)},Paired P l₁ l₂->l₁.map (·.1)=l₂.map (·.1)
 |_,_,.nil=>rfl
 |_,_,.cons h1 h2=>by rw[AI,AI,hP _ _ h1,sJ hP h2]
def MB (td:TE):TI:=λσ H R=>td σ H λx H1=>∃d o aC,x= .ref d/\H1 d=some (.eM o (.dT aC))/\((aC.map (·.1)).Nodup->R (zJ d o aC) H1)
theorem sF {X:Cx} {tg e:Expr} {td:TE} (he:PE X e td):PI X tg e (MB td):=by
 intro pins s σ H R I h;apply bM (he pins s σ H _ I h) λu s1 ⟨x,H1,I1,rx,d,o,aC,ex,hd,q⟩=>?_;subst ex;obtain rfl:u=Value.ref d:=rx
 have lg:(aC.map (·.1)).Nodup:=by
  obtain⟨_,_,_,xs,hp,_,_,_,_,_,_,_,nd⟩:=I1.b8 d _ hd;rw[sJ (λp q z=>z.1) hp];exact nd
 obtain⟨hs,NS,hx,es,ep,Eb,hsz,ent⟩:=I1.LK hd;apply o7 hs NS hx Eb (uR (tk:=s1.toks) I1 _ (vp _ Eb) ⟨_,Heap.get?_push_size _ rfl,rfl,?_⟩ (q lg));rw[hsz]<;>rfl
theorem sZ {d:Addr} {o:Obj} {aC:List (List Key×V)} {g:L2.TG} {tb:TS} {D:Ends} {σ:St} (Pv:Nat->St->Hp->Prop) (h0:Pv 0 σ H) (hl:∀i σ H,Pv i σ H->H d=some (.eM o (.dT aC)))
  (hs:∀i k v q σ H,aC[i]? =some (k,v)->H q=some (.tup (k.map kV))->Pv i σ H->g (.ref q) σ H λσ2 H2=>tb {D with nx:=Pv (i+1),ct:=Pv (i+1),bk:=D.nx} σ2 H2) (hd:∀σ H,Pv aC.length σ H->D.nx σ H):
  ∃W:Nat->Nat->St->Hp->Prop, (∃m,W 0 m σ H)/\∀i m σ H,W i m σ H->
   ((zJ d o aC).stop i H/\D.nx σ H)\/((zJ d o aC).go i H/\∃N:St->Hp->Prop, (∀σ' H',N σ' H'->∃m',m'<m/\W (i+1) m' σ' H')/\∀x H', (zJ d o aC).Io i H x H'->g x σ H' λσ2 H2=>tb {D with nx:=N,ct:=N,bk:=D.nx} σ2 H2):=by
 apply⟨λi m σ H=>m=aC.length-i/\i<=aC.length/\Pv i σ H, ⟨aC.length,by simp,A0 _,h0⟩,?_⟩;rintro i m σ H ⟨rfl,hi,p⟩
 by_cases gc:i<aC.length
 .refine .inr ⟨⟨hl i σ H p,gc⟩,Pv (i+1),λσ' H' p'=>⟨aC.length-(i+1),by omega,rfl,gc,p'⟩,λx H' y=>?_⟩;obtain⟨e,k,v,q,hk,ex,hq⟩:=y;subst e;subst ex;exact hs i k v q σ _ hk hq p
 .have e:i=aC.length:=by lia
  subst e;exact .inl ⟨⟨hl _ σ H p,AE _⟩,hd σ H p⟩
theorem bf {n:Nat} (h:n<=16000000):n<=sizeLine:=AY h nofun
theorem mH {n:Nat} (h:n<=16000000):n<sizeLine:=CL h nofun
def ra (l:Addr) (H H':Hp):Prop:=∀b,b≠l->H' b=H b
theorem ra.refl (l:Addr) (H:Hp):ra l H H:=λ_ _=>rfl
theorem ra.trans {l:Addr} {H H1 H2:Hp} (a:ra l H H1) (b:ra l H1 H2):ra l H H2:=λc n=>(b c n).trans (a c n)
theorem ra.upd {l:Addr} {o:HO}:ra l H (upd H l o):=λ_ n=>ae n
inductive sp_add_counted (g:G w K mg) (vs:List V) (H:Hp) (Q:VK) (_:XK):Prop
 |i (l b:Addr) (xs:List V) (ys:List Nat) (_:vs=[.ref l,.ref b]) (_:H l=some (.lst xs)) (_:(H b=some (.lst (VL ys))\/H b=some (.tup (VL ys)))) (_:b≠l) (_:xs.length+ys.length<=15000000) (_:∀H',ra l H H'->H' l=some (.lst (xs++VL (Ab ys)))->Q .aY H')
theorem ok_add_counted (g:G w K mg):aI P w K mg base bO 1 g.add_counted.f g.add_counted.fd ["numbers","points"] (sp_add_counted g):=by
 apply g.add_counted.fn.bW sc_add_counted λvs H Q E h=>?_;obtain⟨l,b,xs,ys,rfl,hl,hb,dF,hz,k⟩:=h;apply⟨rfl,λ_ _ _ _ hr=>?_⟩;apply⟨_,%[au (binop% B.append.aU (pv 0) %[unop% L.n (pv 1)|a]),au (binop% B.extend.tT (pv 0) %[pv 1|a])|b],?_⟩;cbv;ext
 have hlen:aL K H b (VL ys)\/bC K H b (VL ys):=by
  rcases hb with q|q
  .exact .inl (aL.of q)
  .exact .inr (.inl (.inl q))
 apply⟨fq hl,_,hlen,?_⟩;rw[ax];apply⟨_,hl,mH (by lia),?_⟩
 have Fd:upd H l (.lst (xs++[V.int ys.length])) b=some (.lst (VL ys))\/upd H l (.lst (xs++[V.int ys.length])) b=some (.tup (VL ys)):=by
  rw[ae dF];exact hb
 apply⟨fq aa,l,b,_,_,rfl,rfl,aa,Fd,?_,?_⟩
 .rw[AB,ax];exact bf (by simp;lia)
 apply k _ (ra.upd.trans ra.upd) ?_;rw[aa,AZ];rfl
def gO (n:ND):List Nat:=Ab n.tg.name++(n.at_.length::n.at_.flatMap λa=>Ab a.1++Ab a.2)
theorem Il (a:Nat) (t:List Nat):VL (a::t)=V.int (a:Int)::VL t:=rfl
theorem eY (t:List Nat):(Ab t).length=t.length+1:=rfl
theorem sX:∀{ls:List (Aa×Aa×Addr)}, ((eO ls).map (·.1)).Nodup->∀{i:Nat} {x:Aa×Aa×Addr},ls[i]? =some x->∀y∈ls.take i,y.1≠x.1
 |[],_,i,x,h,y,hy=>by cases h
 |z::ls,hn,0,x,h,y,hy=>by cases hy
 |z::ls,hn,i+1,x,h,y,hy=>by
  have xA:(z.1.map kI)∉((eO ls).map (·.1))/\((eO ls).map (·.1)).Nodup:=BD.mp hn;rw[BK]at hy;rcases AG.mp hy with e|e
  .intro q;apply xA.1 ?_;rw[<-e,q];have hx:x∈ls:=AO (by simpa using h);exact BC.mpr ⟨(x.1.map kI,V.ref x.2.2),BC.mpr ⟨x,hx,rfl⟩,rfl⟩
  .exact sX xA.2 (by simpa using h) y e
theorem xp {ls:List (Aa×Aa×Addr)} (hn:((eO ls).map (·.1)).Nodup) {i:Nat} {x:Aa×Aa×Addr} (h:ls[i]? =some x):cS (eO ls) (x.1.map kI)=some (V.ref x.2.2):=by
 have rl:ls=ls.take i++x::ls.drop (i+1):=by
  have:=BV i ls;rw[aJ h]at this;exact this.symm
 rw[rl];exact j4 _ _ _ (sX hn h)
theorem xq {ls:List (Aa×Aa×Addr)} {i:Nat} {k:List Key} {v:V} (h:(eO ls)[i]? =some (k,v)):∃x,ls[i]? =some x/\k=x.1.map kI/\v=V.ref x.2.2:=by
 unfold eO at h;rw[AV]at h;cases hx:ls[i]? with
 |none=>rw[hx]at h;cases h
 |some x=>rw[hx]at h;cases h;exact⟨x,rfl,rfl,rfl⟩
theorem js {ls:List (Aa×Aa×Addr)} {i:Nat} {x:Aa×Aa×Addr} (h:ls[i]? =some x):gd (ls.take (i+1))=gd (ls.take i)++[(x.1,x.2.1)]:=by
 rw[take_snoc h];unfold gd;rw[AL];rfl
theorem jn {α:Type} (f:α->List Nat) (l:List α) (i:Nat):((l.take i).flatMap f).length<=(l.flatMap f).length:=by
 have:l.flatMap f=(l.take i).flatMap f++(l.drop i).flatMap f:=by rw[<-C7,BV]
 rw[this,AB];lia
theorem ph {α:Type} (f:α->List Nat) {l:List α} {i:Nat} {x:α} (h:l[i]? =some x):(l.take (i+1)).flatMap f=(l.take i).flatMap f++f x:=by
 rw[take_snoc h,C7];simp
inductive sp_add_tag (g:G w K mg) (vs:List V) (H:Hp) (Q:VK) (_:XK):Prop
 |i (l:Addr) (xs:List V) (n:ND) (H0:Hp) (_:vs=[.ref l,.ref n.tg.a]) (_:H l=some (.lst xs)) (_:H0 l=none) (_:aj H0 H) (_:pT g H0 n) (_:xs.length+(gO n).length<=15000000) (_:∀H',ra l H H'->H' l=some (.lst (xs++VL (gO n)))->Q .aY H')
theorem ok_add_tag (g:G w K mg):aI P w K mg base bO 2 g.add_tag.f g.add_tag.fd ["numbers","tag"] (sp_add_tag g):=by
 apply g.add_tag.fn.bW sc_add_tag λvs H Q E h=>?_;obtain⟨l,xs,n,H0,rfl,hl,KZ,s0,hT,hz,k⟩:=h;apply⟨rfl,λ_ _ _ _ hr=>?_⟩;apply⟨_,%[au (unop% add_counted %[pv 0,ak (pv 1) rfl|a]),au (binop% B.append.aU (pv 0) %[fE j3 (by rfl) g.n_len qg %[ak (pv 1) rfl|a]|a]),wM (dy PassesOwn.never rfl (sF (ak (pv 1) rfl)) (bI (i:=2) sc_add_tag.nd rfl (CM rfl)) %[au (unop% add_counted %[pv 0,pv 2|a]),au (unop% add_counted %[pv 0,qu (mi hr) (ak (pv 1) rfl) (pv 2) (λ_ _=>rfl)|a])|b])|b],?_⟩;obtain⟨⟨wr,a6,_⟩,pJ,ls,yY,hd,hv⟩:=hT;have K5:n.at_.length=ls.length:=by rw[<-yY,lR]
 have qW:∀{b o},H0 b=some o->b≠l:=λq=>af q KZ;have hzz:(gO n).length=n.tg.name.length+2+(n.at_.flatMap λa=>Ab a.1++Ab a.2).length:=by unfold gO;rw[AB,eY,AA];lia
 cbv;ext;apply⟨_,_,_,s0 _ _ a6,g.cl_Tag,g.na_Tag_name,_,rfl,?_⟩;apply⟨l,_,xs,n.tg.name,rfl,hl,.inl (s0 _ _ pJ),qW pJ,by lia,λH1 b1 e1=>?_⟩;have s1:aj H0 H1:=λb o q=>by rw[b1 b (qW q)];exact s0 b o q
 cbv;ext;apply⟨fq e1,_,_,_,s1 _ _ a6,g.cl_Tag,g.na_Tag_attributes,_,rfl,?_⟩;ext;apply⟨_,s1 _ _ hd,?_⟩;rw[fb];apply⟨_,e1,?_,?_⟩
 .rw[AB,ax,eY];exact mH (by lia)
 have b2:ra l H (upd H1 l (.lst (xs++VL (Ab n.tg.name)++[V.int ls.length]))):=b1.trans ra.upd;have s2:aj H0 (upd H1 l (.lst (xs++VL (Ab n.tg.name)++[V.int ls.length]))):=λb o q=>by rw[b2 b (qW q)];exact s0 b o q
 have e2:upd H1 l (.lst (xs++VL (Ab n.tg.name)++[V.int ls.length])) l=some (.lst (xs++VL (Ab n.tg.name++(ls.length::[])))):=by
  rw[aa,AZ,bh];rfl
 generalize upd H1 l (.lst (xs++VL (Ab n.tg.name)++[V.int ls.length]))=H2 at b2 s2 e2 ⊢;apply⟨n.tg.d,_,s2 _ _ hd,trivial,λod=>?_⟩;have M1:n.tg.d≠l:=qW hd;have keep:∀b o,H0 b=some o->b≠n.tg.d->upd H2 n.tg.d (.eM od (.dT (eO ls))) b=some o:=λb o q z=>by rw[ae z];exact s2 b o q
 apply⟨_,n.tg.dx,_,keep _ _ a6 (aE a6 hd (by intro z;cases z)),g.cl_Tag,g.na_Tag_attributes,_,rfl,n.tg.d,od,eO ls,rfl,aa,λlg=>?_⟩
 apply sZ (λi σ H'=>∃v,SE σ [some (V.ref l),some (V.ref n.tg.a),v]/\ra l (upd H2 n.tg.d (.eM od (.dT (eO ls)))) H'/\H' l=some (.lst (xs++VL (Ab n.tg.name++(ls.length::(gd (ls.take i)).flatMap λa=>Ab a.1++Ab a.2)))))
  ⟨none,rfl,ra.refl _ _,by rw[ae M1.symm,e2];rfl⟩ (λi σ H' h=>?_) (λi kk v q σ H3 hi hq h=>?_) (λσ H' h=>?_)
 .obtain⟨v,_,b,_⟩:=h;rw[b _ M1,aa]
 .obtain⟨v0,rfl,b3,e3⟩:=h;obtain⟨x,hx,rfl,rfl⟩:=xq hi;rw[rR]at hq;have Iw:=hv x (AO hx);have lW:=jn (λa:cO=>Ab a.1++Ab a.2) (gd ls) (i+1);have SH:(gd ls).take (i+1)=gd (ls.take (i+1)):=by unfold gd;rw[CJ]
  rw[SH,js hx,C7,AB,yY]at lW;have N7:([(x.1,x.2.1)]:List cO).flatMap (λa=>Ab a.1++Ab a.2)=Ab x.1++Ab x.2.1:=by simp
  rw[N7,AB,eY,eY]at lW;have Iu:q≠l:=aE hq e3 (by intro z;cases z);ext;cbv;ext;apply⟨l,q,_,x.1,rfl,e3,.inr hq,Iu,?_,λH4 b4 e4=>?_⟩
  .rw[AB,ax,AB,eY,AA];lia
  have Dv:H4 q=some (.tup (VL x.1)):=by rw[b4 q Iu];exact hq
  have k4:∀b o,H0 b=some o->b≠n.tg.d->H4 b=some o:=λb o z nz=>by rw[b4 b (qW z),b3 b (qW z)];exact keep b o z nz
  have YK:H4 n.tg.d=some (.eM od (.dT (eO ls))):=by rw[b4 _ M1,b3 _ M1,aa]
  have hg:lx H4 n.tg.d (V.ref q) (some (V.ref x.2.2)):= .inr ⟨eO ls,x.1.map kI,q,.inr ⟨_,YK⟩,rfl,by rw[rR];exact Dv, (xp lg hx).symm⟩;apply⟨_,n.tg.dx,_,k4 _ _ a6 (aE a6 hd (by intro z;cases z)),g.cl_Tag,g.na_Tag_attributes,_,rfl,n.tg.d,_,rfl,hg,?_⟩;apply⟨l,x.2.2,_,x.2.1,rfl,e4,.inl (k4 _ _ Iw (aE Iw hd (by intro z;cases z))),qW Iw,?_,λH5 b5 e5=>?_⟩
  .rw[AB,ax,AB,ax,AB,eY,eY,AA];lia
  apply⟨_,rfl,b3.trans (b4.trans b5),?_⟩;rw[e5,js hx,C7,N7];simp only[bh,AZ,Il];rfl
 .obtain⟨v,rfl,b,e⟩:=h;apply⟨by rw[b _ M1,aa],?_⟩;rw[fb,AK (AE _),yY,<-K5]at e;apply k _ (λc hc=>?_) (by rw[ae M1.symm];exact e)
  by_cases nJ:c=n.tg.d
  .rw[nJ,aa,s0 _ _ hd]
  .rw[ae nJ,b c hc,ae nJ];exact b2 c hc
theorem mM {α:Type} {l:List α} {i:Nat} {x:α} (h:l[i]? =some x):l=l.take i++x::l.drop (i+1):=by
 have:=BV i l;rw[aJ h]at this;exact this.symm
def dg (L:List ND):List Nat:=L.flatMap λm=>Ej m.node
theorem Gp {n:ND} (h:n.kind=1):Ej n.node=[1,n.depth]++gO n:=by
 unfold Ej ND.node gO;rw[iP h,iP rfl]
theorem Gn {n:ND} (h:n.kind≠1):Ej n.node=[n.kind,n.depth]++Ab n.bF:=by
 unfold Ej ND.node;rw[iN h,iN h]
inductive sp_told_tree (g:G w K mg) (vs:List V) (H:Hp) (Q:VK) (_:XK):Prop
 |i (L:List ND) (n:ND) (r:List ND) (_:vs=[.ref n.a]) (_:de g H L) (_:L=n::r) (_:(dg L).length<=10000000) (_:iW H (L.length::dg L) Q)
theorem ok_told_tree (g:G w K mg):aI P w K mg base bO 3 g.told_tree.f g.told_tree.fd ["html"] (sp_told_tree g):=by
 apply g.told_tree.fn.bW sc_told_tree λvs H Q E h=>?_;obtain⟨L,n0,r0,rfl,hR,eL,hz,k⟩:=h;apply⟨rfl,λ_ _ _ _ hr=>?_⟩;apply⟨_,%[leftact% told_tree 1 (unop% in_order %[pv 0|a]),leftact% told_tree 2 (aM %[unop% L.n (pv 1)|a]),dy PassesOwn.never rfl (bV (pv 1)) (bI (i:=3) sc_told_tree.nd rfl (CM rfl)) %[au (binop% B.extend.bp (pv 2) %[aM %[ak (pv 3) rfl,ak (pv 3) rfl|a]|a]),aw (binrel% op_eq (ak (pv 3) rfl) (g.c_ELEMENT.pe rfl)) %[au (unop% add_tag %[pv 2,ak (pv 3) rfl|a])|b] %[au (unop% add_counted %[pv 2,ak (pv 3) rfl|a])|b]|b],ao (pv 2)|b],?_⟩;cbv;ext;apply⟨L,n0,r0,rfl,hR,eL,λq H1 hq s1 Dw=>?_⟩;cbv;ext;apply⟨_,.inl (aL.of Dw),by decide,λl hl=>?_⟩;rw[AF];have s2:=s1.trans (aj.upd (o:= .lst [V.int L.length]) hl);have KZ:H l=none:=s1.free hl;have qW:∀{b o},H b=some o->b≠l:=λq=>af q KZ;have Iu:q≠l:=af Dw hl;have pI:upd H1 l (.lst [V.int L.length]) q=some (.lst (L.map λm=>V.ref m.a)):=by rw[ae Iu];exact Dw
 have nR:upd H1 l (.lst [V.int L.length]) l=some (.lst (VL (L.length::dg (L.take 0)))):=by rw[aa];rfl
 generalize upd H1 l (.lst [V.int L.length])=H2 at s2 pI nR ⊢;cbv
 apply iy (xs:=L.map λm=>V.ref m.a) (a:=q) (H1:=H2) (λR h=>h) (λi σ H'=>∃v,SE σ [some (V.ref n0.a),some (V.ref q),some (V.ref l),v]/\aj H H'/\H' q=some (.lst (L.map λm=>V.ref m.a))/\H' l=some (.lst (VL (L.length::dg (L.take i)))))
  ⟨none,rfl,s2,pI,nR⟩ (λi σ H' _ h=>?_) (λi x σ H3 hi h=>?_) (λσ H' h=>?_)
 .obtain⟨v,_,_,h,_⟩:=h;exact aL.of h
 .obtain⟨v0,rfl,s3,yQ,iO⟩:=h;rw[AV]at hi;cases hn:L[i]? with
  |none=>rw[hn]at hi;cases hi
  |some n=>
   rw[hn]at hi;have:V.ref n.a=x:=AH hi;subst this
   have cw:fC g H n (aq n.depth (L.drop (i+1))):=by
    have:=hR.nodes;rw[mM hn]at this;exact this.at_
   have Fh:dg (L.take (i+1))=dg (L.take i)++Ej n.node:=ph _ hn;have lW:=jn (λm:ND=>Ej m.node) L (i+1);have lW:(dg (L.take (i+1))).length<=(dg L).length:=lW;rw[Fh,AB]at lW;have Tv:=hR.len;ext;cbv
   by_cases hk:n.kind=1
   .obtain⟨h1,h2,h3⟩:=cw.el hk;rw[Gp hk]at lW Fh;rw[AB]at lW;have a6:=s3 _ _ h1;ext;apply⟨fq iO,_,_,_,a6,g.cl_Element,g.na_Element_kind,_,rfl,_,_,_,a6,g.cl_Element,g.na_Element_depth,_,rfl,by decide,λp hp=>⟨_,_,by rw[ae (af iO hp)];exact iO,aa,?_,?_⟩⟩
    .show _+2<=_;rw[ax,AA];exact bf (by lia)
    have Xz:l≠p:=af iO hp;have s4:aj H (upd (upd H3 p (.lst [V.int 1,V.int n.depth])) l (.lst (VL (L.length::dg (L.take i))++[V.int 1,V.int n.depth]))):=λb o z=>by rw[ae (qW z),ae (af (s3 b o z) hp)];exact s3 b o z
    have Dv:upd (upd H3 p (.lst [V.int 1,V.int n.depth])) l (.lst (VL (L.length::dg (L.take i))++[V.int 1,V.int n.depth])) q=some (.lst (L.map λm=>V.ref m.a)):=by rw[ae Iu,ae (af yQ hp)];exact yQ
    have zc:upd (upd H3 p (.lst [V.int 1,V.int n.depth])) l (.lst (VL (L.length::dg (L.take i))++[V.int 1,V.int n.depth])) l=some (.lst (VL (L.length::dg (L.take i)++[1,n.depth]))):=by rw[aa,bh];rfl
    generalize upd (upd H3 p (.lst [V.int 1,V.int n.depth])) l (.lst (VL (L.length::dg (L.take i))++[V.int 1,V.int n.depth]))=H4 at s4 Dv zc ⊢;apply⟨_,_,_,s4 _ _ h1,g.cl_Element,g.na_Element_kind,_,rfl,?_⟩;ext;apply⟨_,_,_,s4 _ _ h1,g.cl_Element,g.na_Element_tag,_,rfl,?_⟩;apply⟨l,_,n,H,rfl,zc,KZ,s4,h3,?_,λH5 b5 e5=>?_⟩
    .rw[ax,AB,AA];simp only[AA,BI]at lW ⊢;lia
    apply⟨_,rfl,λb o z=>by rw[b5 b (qW z)];exact s4 b o z,by rw[b5 q Iu];exact Dv,?_⟩;rw[e5,Fh,<-bh];simp
   .obtain⟨h1,h2,_⟩:=cw.lf hk;rw[Gn hk]at lW Fh;rw[AB]at lW;have a6:=s3 _ _ h1;ext;apply⟨fq iO,_,_,_,a6,g.cl_Leaf,g.na_Leaf_kind,_,rfl,_,_,_,a6,g.cl_Leaf,g.na_Leaf_depth,_,rfl,by decide,λp hp=>⟨_,_,by rw[ae (af iO hp)];exact iO,aa,?_,?_⟩⟩
    .show _+2<=_;rw[ax,AA];exact bf (by lia)
    have Xz:l≠p:=af iO hp;have s4:aj H (upd (upd H3 p (.lst [V.int n.kind,V.int n.depth])) l (.lst (VL (L.length::dg (L.take i))++[V.int n.kind,V.int n.depth]))):=λb o z=>by rw[ae (qW z),ae (af (s3 b o z) hp)];exact s3 b o z
    have Dv:upd (upd H3 p (.lst [V.int n.kind,V.int n.depth])) l (.lst (VL (L.length::dg (L.take i))++[V.int n.kind,V.int n.depth])) q=some (.lst (L.map λm=>V.ref m.a)):=by rw[ae Iu,ae (af yQ hp)];exact yQ
    have zc:upd (upd H3 p (.lst [V.int n.kind,V.int n.depth])) l (.lst (VL (L.length::dg (L.take i))++[V.int n.kind,V.int n.depth])) l=some (.lst (VL (L.length::dg (L.take i)++[n.kind,n.depth]))):=by rw[aa,bh];rfl
    generalize upd (upd H3 p (.lst [V.int n.kind,V.int n.depth])) l (.lst (VL (L.length::dg (L.take i))++[V.int n.kind,V.int n.depth]))=H4 at s4 Dv zc ⊢;apply⟨_,_,_,s4 _ _ h1,g.cl_Leaf,g.na_Leaf_kind,_,rfl,?_⟩;ext;apply nN (by lia) ?_;ext;apply⟨_,_,_,s4 _ _ h1,g.cl_Leaf,g.na_Leaf_points,_,rfl,?_⟩;apply⟨l,n.li,_,n.bF,rfl,zc,.inl (s4 _ _ h2),qW h2,?_,λH5 b5 e5=>?_⟩
    .rw[ax,AB,AA];simp only[AA,BI,eY]at lW ⊢;lia
    apply⟨_,rfl,λb o z=>by rw[b5 b (qW z)];exact s4 b o z,by rw[b5 q Iu];exact Dv,?_⟩;rw[e5,Fh,<-bh];simp
 .obtain⟨v,rfl,s3,_,iO⟩:=h;rw[AF,AK (AE _)]at iO;ext;exact k l H' KZ s3 iO
def r8:List (Key×V):=[(CU 38,.str "&amp;"), (CU 60,.str "&lt;"), (CU 34,.str "&quot;"), (CU 13,.str "&#13;")]
def oF (c:Nat):Aa:=if c=38 then aG "&amp;" else if c=60 then aG "&lt;" else if c=34 then aG "&quot;" else if c=13 then aG "&#13;" else [c]
theorem yD (c:Nat):(∃x:String,cS r8 (CU (c:Int))=some (.str (Str.ofString x))/\(Str.ofString x).cps.toList=oF c/\(Str.ofString x).cps.size<=sizeLine)\/(cS r8 (CU (c:Int))=none/\oF c=[c]):=by
 by_cases h1:c=38
 .subst h1;exact .inl ⟨"&amp;",rfl,by decide+kernel,by decide+kernel⟩
 by_cases h2:c=60
 .subst h2;exact .inl ⟨"&lt;",rfl,by decide+kernel,by decide+kernel⟩
 by_cases h3:c=34
 .subst h3;exact .inl ⟨"&quot;",rfl,by decide+kernel,by decide+kernel⟩
 by_cases h4:c=13
 .subst h4;exact .inl ⟨"&#13;",rfl,by decide+kernel,by decide+kernel⟩
 apply .inr ⟨?_,by unfold oF;rw[iN h1,iN h2,iN h3,iN h4]⟩;unfold r8;rw[cT (by intro q;injection q with q;lia),cT (by intro q;injection q with q;lia),cT (by intro q;injection q with q;lia),cT (by intro q;injection q with q;lia)];rfl
inductive sp_escaped (g:G w K mg) (vs:List V) (H:Hp) (Q:VK) (_:XK):Prop
 |i (a:Addr) (t:List Nat) (_:vs=[.ref a]) (_:aL K H a (VL t)) (_:(uf t).length<=15000000) (_:iW H (uf t) Q)
theorem ok_escaped (g:G w K mg):aI P w K mg base bO 2 g.escaped.f g.escaped.fd ["points"] (sp_escaped g):=by
 apply g.escaped.fn.bW sc_escaped λvs H Q E h=>?_;obtain⟨a,t,rfl,ha,hz,k⟩:=h;apply⟨rfl,λ_ _ _ _ hr=>?_⟩;apply⟨_,%[leftact% escaped 1 (aM %[|a]),dy PassesOwn.never rfl (bV (pv 0)) (bI (i:=2) sc_escaped.nd rfl (CM rfl)) %[aw (uP (Mp g.c_ESCAPES.d (pv 2) (g.c_ESCAPES.pe rfl))) %[au (binop% B.extend.bp (pv 1) %[unop% points_of %[Hk g.c_ESCAPES.d (g.c_ESCAPES.pe rfl) (pv 2) (λ_ _=>rfl)|a]|a])|b] %[au (binop% B.append.aU (pv 1) %[pv 2|a])|b]|b],ao (pv 1)|b],?_⟩;cbv;ext;apply⟨A0 _,λl hl=>?_⟩;cbv
 apply iy (xs:=VL t) (a:=a) (H1:=upd H l (.lst [])) (λR h=>h) (λi σ H'=>∃v,SE σ [some (V.ref a),some (V.ref l),v]/\aj H H'/\H' l=some (.lst (VL (uf (t.take i)))))
  ⟨none,rfl,aj.upd hl,aa⟩ (λi σ H' _ h=>?_) (λi x σ H3 hi h=>?_) (λσ H' h=>?_)
 .obtain⟨v,_,h,_⟩:=h;exact h.seq ha
 .obtain⟨v0,rfl,s3,iO⟩:=h;obtain⟨c,hc,rfl⟩:=iz hi;have Fh:uf (t.take (i+1))=uf (t.take i)++oF c:=ph oF hc;have lW:(uf (t.take (i+1))).length<=(uf t).length:=jn oF t (i+1);rw[Fh,AB]at lW;have qW:∀{b o},H b=some o->b≠l:=λq=>af q hl;ext;apply⟨rfl,CU (c:Int),rfl,?_⟩;rcases yD c with⟨x,e1,e2,e3⟩|⟨e1,e2⟩
  .refine rj (by show(cS r8 _).isSome=true;rw[e1];rfl) ?_;apply⟨fq iO,rfl,CU (c:Int),_,rfl,e1,Str.ofString x,rfl,e3,λp H4 hp s4 rn=>?_⟩;rw[e2]at rn;have zc:=s4 _ _ iO;apply⟨_,_,zc,rn,?_,?_⟩
   .rw[ax,ax];exact bf (by lia)
   apply⟨_,rfl,aj.Ol (s3.trans s4) hl,?_⟩;rw[aa,Fh,bh]
  .refine nN (by show¬(cS r8 _).isSome=true;rw[e1];decide) ?_;ext;apply⟨fq iO,_,iO,?_,?_⟩
   .rw[ax];exact mH (by lia)
   apply⟨_,rfl,aj.Ol s3 hl,?_⟩;rw[aa,Fh,e2,bh];rfl
 .obtain⟨v,rfl,s3,iO⟩:=h;rw[ax,AK (AE _)]at iO;ext;exact k l H' hl s3 iO
theorem L4 {a b:Nat} (h:vi a=vi b):a=b:=by unfold vi at h;injection h with h;lia
theorem uZ:∀{a b:List Nat},VL a=VL b->a=b
 |[], [],_=>rfl
 |[],_::_,h=>by cases h
 |_::_, [],h=>by cases h
 |x::a,y::b,h=>by
  have h:vi x::VL a=vi y::VL b:=h;injection h with h1 h2;rw[L4 h1,uZ h2]
theorem xo {d:Addr}:∀{ls Qz:List (Aa×Aa×Addr)},eO ls=eO Qz->(∀x∈ls,H x.2.2=some (.lst (VL x.2.1)))->(∀x∈Qz,H x.2.2=some (.lst (VL x.2.1)))->gd ls=gd Qz
 |[], [],_,_,_=>rfl
 |[],_::_,h,_,_=>by cases h
 |_::_, [],h,_,_=>by cases h
 |x::l,y::l',h,h1,h2=>by
  have h:(x.1.map kI,V.ref x.2.2)::eO l=(y.1.map kI,V.ref y.2.2)::eO l':=h;injection h with h3 h4;injection h3 with h5 h6;injection h6 with h6;have e1:=qc h5;have e2:=h1 x (by simp);rw[h6,h2 y (by simp)]at e2;injection e2 with e2;injection e2 with e2;have e2:=uZ e2;show(x.1,x.2.1)::gd l=(y.1,y.2.1)::gd l'
  rw[e1,e2,xo (d:=d) h4 (λz hz=>h1 z (by simp[hz])) λz hz=>h2 z (by simp[hz])]
def vZ (name:Aa) (at_:List cO):Aa:=[60]++name++(at_.flatMap λa=>[32]++a.1++[61,34]++uf a.2++[34])++[62]
theorem gT {n:ND} (h:n.kind=1):pN n.node=vZ n.tg.name n.at_:=by
 unfold pN ND.node vZ;rw[iP h]
def gs (o:HO):Prop:=∃C dx nm wd d sh tx wr,o= .ins C dx (dw nm wd d sh tx wr)
theorem vw {C dx:Addr} {d:Nat} {t:Addr} {wd:Str} {i:Addr}:¬gs (.ins C dx (hG d t wd i)):=by
 rintro⟨C',Fi,nm,Nt,d',sh,tx,wr,e⟩;injection e with _ _ e;unfold hG dw at e;injection e with e _;injection e with e _;exact absurd e nofun
theorem vv {C dx:Addr} {k d:Nat} {i:Addr}:¬gs (.ins C dx (Dt k d i)):=by
 rintro⟨C',Fi,nm,Nt,d',sh,tx,wr,e⟩;injection e with _ _ e;unfold Dt dw at e;injection e with e _;injection e with e _;exact absurd e nofun
theorem bR {xs:List V}:¬gs (.lst xs):=by
 rintro⟨C',Fi,nm,Nt,d',sh,tx,wr,e⟩;cases e
theorem vx {xs:List (List Key×V)}:¬gs (.dT xs):=by
 rintro⟨C',Fi,nm,Nt,d',sh,tx,wr,e⟩;cases e
theorem pT.same {n m:ND} (hn:pT g H n) (hm:pT g H m) (e:n.tg.a=m.tg.a):n.tg.name=m.tg.name/\n.at_=m.at_/\n.tg.nm=m.tg.nm/\n.tg.d=m.tg.d/\n.tg.sh=m.tg.sh/\n.tg.tx=m.tg.tx/\n.tg.dx=m.tg.dx:=by
 obtain⟨⟨wr,h1,_⟩,h2,ls,e1,hd,hv⟩:=hn;obtain⟨⟨wr',SA,_⟩,yX,Qz,ZI,qY,M6⟩:=hm;rw[e,SA]at h1;injection h1 with h1;injection h1 with _ q h1;unfold dw at h1;injection h1 with a1 h1;injection h1 with a2 h1;injection h1 with a3 h1;injection h1 with a4 h1;injection h1 with a5 h1;injection a1 with _ a1;injection a1 with a1;injection a3 with _ a3;injection a3 with a3;injection a4 with _ a4;injection a4 with a4;injection a5 with _ a5;injection a5 with a5;rw[a1,h2]at yX;injection yX with yX;injection yX with yX;rw[a3,hd]at qY;injection qY with qY;injection qY with qY;apply⟨uZ yX,?_,a1.symm,a3.symm,a4.symm,a5.symm,q.symm⟩;rw[<-e1,<-ZI];exact xo (d:=n.tg.d) qY hv M6
theorem pT.mono {n:ND} (h:pT g H n) (s:aj H H'):pT g H' n:=by
 obtain⟨⟨wr,h1,hw⟩,h2,ls,e1,hd,hv⟩:=h;apply⟨⟨wr,s _ _ h1,?_⟩,s _ _ h2,ls,e1,s _ _ hd,λx hx=>s _ _ (hv x hx)⟩;rcases hw with q|⟨l,q,r⟩
 .exact .inl q
 .exact .inr ⟨l,q,s _ _ r⟩
theorem fC.mono {n:ND} {k:List Addr} (h:fC g H n k) (s:aj H H'):fC g H' n k:=
 ⟨λhk=>let⟨a,b,c⟩:=h.el hk; ⟨s _ _ a,s _ _ b,c.mono s⟩,λhk=>let⟨a,b,c⟩:=h.lf hk; ⟨s _ _ a,s _ _ b,c⟩⟩
theorem bP.mono (s:aj H H'):∀{L:List ND},bP g H L->bP g H' L
 |[],_=>trivial
 |_::_,h=>⟨h.1.mono s,bP.mono s h.2⟩
theorem de.mono {L:List ND} (h:de g H L) (s:aj H H'):de g H' L:=⟨h.nodes.mono s,h.wf,h.top,h.len⟩
theorem bP.mem:∀{L:List ND} {n:ND},bP g H L->n∈L->∃k,fC g H n k
 |m::L,n,h,hn=>by
  rcases AG.mp hn with e|e
  .rw[e];exact⟨_,h.1⟩
  .exact bP.mem h.2 e
theorem bP.map:∀{L:List ND}, (∀n∈L,∀k,fC g H n k->fC g H' n k)->bP g H L->bP g H' L
 |[],_,_=>trivial
 |n::r,f,h=>⟨f n (by simp) _ h.1,bP.map (λm hm=>f m (by simp[hm])) h.2⟩
theorem de.cached {H0:Hp} {L:List ND} (hR:de g H0 L) {n:ND} (hn:n∈L) (hk:n.kind=1) (hp:H0 p=none):
  de g (upd (upd H0 p (.lst (VL (d9 (pN n.node))))) n.tg.a (.ins g.k_Tag n.tg.dx (dw n.tg.nm (W n.tg.name) n.tg.d n.tg.sh n.tg.tx (.ref p)))) L:=by
 obtain⟨kk,cw⟩:=hR.nodes.mem hn;obtain⟨_,_,hT⟩:=cw.el hk;obtain⟨wr0,OT,_⟩:=hT.ob;have RK:p≠n.tg.a:=λq=>by rw[q,OT]at hp;cases hp
 have kp:∀b o,H0 b=some o->¬gs o->upd (upd H0 p (.lst (VL (d9 (pN n.node))))) n.tg.a (.ins g.k_Tag n.tg.dx (dw n.tg.nm (W n.tg.name) n.tg.d n.tg.sh n.tg.tx (.ref p))) b=some o:=λb o e nt=>by
  rw[ae (λq=>nt (by rw[q,OT]at e;cases e;exact⟨_,_,_,_,_,_,_,_,rfl⟩)),ae (af e hp)];exact e
 have kn:∀b o,H0 b=some o->b≠n.tg.a->upd (upd H0 p (.lst (VL (d9 (pN n.node))))) n.tg.a (.ins g.k_Tag n.tg.dx (dw n.tg.nm (W n.tg.name) n.tg.d n.tg.sh n.tg.tx (.ref p))) b=some o:=λb o e nt=>by
  rw[ae nt,ae (af e hp)];exact e
 apply⟨bP.map (λm hm k hM=>⟨λJf=>?_,λJf=>?_⟩) hR.nodes,hR.wf,hR.top,hR.len⟩
 .obtain⟨a,b,c⟩:=hM.el Jf;apply⟨kp _ _ a vw,kp _ _ b bR,?_⟩;have c0:=c;obtain⟨⟨wr,h1,hw⟩,h2,ls,e1,hd,hv⟩:=c;apply⟨?_,kp _ _ h2 bR,ls,e1,kp _ _ hd vx,λx hx=>kp _ _ (hv x hx) bR⟩
  by_cases he:m.tg.a=n.tg.a
  .obtain⟨q1,q2,q3,q4,q5,q6,q7⟩:=hT.same c0 he.symm;rw[gT Jf,gT hk,he,aa,<-q1,<-q2,<-q3,<-q4,<-q5,<-q6,<-q7];exact⟨_,rfl,.inr ⟨p,rfl,by rw[ae RK,aa]⟩⟩
  .refine⟨wr,kn _ _ h1 he,?_⟩;rcases hw with q|⟨l,q,r⟩
   .exact .inl q
   .exact .inr ⟨l,q,kp _ _ r bR⟩
 .obtain⟨a,b,c⟩:=hM.lf Jf;exact⟨kp _ _ a vv,kp _ _ b bR,c⟩
structure eX (g:G w K mg) (L:List ND) (H0 H H1 H':Hp):Prop where
 tree:de g H1 L
 sub:aj H1 H'
 new:∀b,H0 b=none->H b≠none->H1 b=none
 keep:∀b o,H b=some o->¬gs o->H' b=some o
 uu:∀b,H b≠none->H' b≠none
theorem eX.trans {L:List ND} {H0 H H1 H' H2 Jr:Hp} (a:eX g L H0 H H1 H') (b:eX g L H1 H' H2 Jr):eX g L H0 H H2 Jr:=
 ⟨b.tree,b.sub,λc h1 h2=>b.new c (a.new c h1 h2) (a.uu c h2),λc o e n=>b.keep c o (a.keep c o e n) n,λc h=>b.uu c (a.uu c h)⟩
theorem eX.same {L:List ND} {H0 H H':Hp} (h:de g H0 L) (s0:aj H0 H) (s:aj H H'):eX g L H0 H H0 H':=
 ⟨h,s0.trans s,λ_ q _=>q,λb o e _=>s b o e,λb h q=>h (s.free q)⟩
def ck (a:cO):Aa:=[32]++a.1++[61,34]++uf a.2++[34]
theorem sv (name:Aa) (at_:List cO):vZ name at_=([60]++name++at_.flatMap ck)++[62]:=rfl
theorem i9:∀t:List Nat,t.length<=(d9 t).length
 |[]=>AE _
 |c::t=>by
  have:=i9 t;have e:d9 (c::t)=Js c++d9 t:=rfl;rw[e,AB,AA];have:1<=(Js c).length:=by unfold Js;split;simp;split;simp;split<;>simp
  lia
theorem d6 {x:String} (t:Aa) (e:aG x=t) (hx:(Str.ofString x).cps.size<=sizeLine) (k:iW H t Q):sp_points_of g [.str (Str.ofString x)] H Q E:=
 ⟨_,rfl,hx,by rw[show(Str.ofString x).cps.toList=aG x from TL.fc x,e];exact k⟩
inductive sp_written_tag (g:G w K mg) (vs:List V) (H:Hp) (Q:VK) (_:XK):Prop
 |i (L:List ND) (n:ND) (H0:Hp) (_:vs=[.ref n.tg.a]) (_:de g H0 L) (_:aj H0 H) (_:n∈L) (_:n.kind=1) (_:(d9 (pN n.node)).length<=15000000) (_:∀p H1 H',eX g L H0 H H1 H'->H1 p=some (.lst (VL (d9 (pN n.node))))->Q (.ref p) H')
theorem ok_written_tag (g:G w K mg):aI P w K mg base bO 3 g.written_tag.f g.written_tag.fd ["tag"] (sp_written_tag g):=by
 apply g.written_tag.fn.bW sc_written_tag λvs H Q E h=>?_;obtain⟨L,n,H0,rfl,hR,s0,hn,hk,hz,k⟩:=h;apply⟨rfl,λ_ _ _ _ hr=>?_⟩;apply⟨_,%[aw (cD op_isN (ak (pv 0) rfl) (fT) (dk _)) %[leftact% written_tag 1 (ay op_cat (unop% points_of %[aB|a]) (ak (pv 0) rfl)),wM (dy PassesOwn.never rfl (sF (ak (pv 0) rfl)) (bI (i:=2) sc_written_tag.nd rfl (CM rfl)) %[au (binop% B.extend.bp (pv 1) %[ay op_cat (ay op_cat (unop% points_of %[aB|a]) (gU qT (by rfl) g.n_list xl %[pv 2|a])) (unop% points_of %[aB|a])|a]),au (binop% B.extend.bp (pv 1) %[ay op_cat (unop% escaped %[qu (mi hr) (ak (pv 0) rfl) (pv 2) (λ_ _=>rfl)|a]) (unop% points_of %[aB|a])|a])|b]),aT (pv 0) (unop% encoded %[ay op_cat (pv 1) (unop% points_of %[aB|a])|a]) rfl|b] %[|b],ao (ak (pv 0) rfl)|b],?_⟩;obtain⟨kk,cw⟩:=hR.nodes.mem hn;obtain⟨_,_,hT⟩:=cw.el hk;obtain⟨⟨wr,a6,QG⟩,pJ,ls,yY,hd,hv⟩:=hT;apply g7 λR Jm=>?_
 have rest:∀(p:Addr) (H1 H':Hp) (σ:St),σ[0]? =some (some (V.ref n.tg.a))->eX g L H0 H H1 H'->H1 p=some (.lst (VL (d9 (pN n.node))))->H' n.tg.a=some (.ins g.k_Tag n.tg.dx (dw n.tg.nm (W n.tg.name) n.tg.d n.tg.sh n.tg.tx (.ref p)))->R σ H':=by
  intro p H1 H' σ hσ hw hp ho;subst Jm;exact Bg hσ ⟨_,_,_,ho,g.cl_Tag,g.na_Tag_written,_,rfl,k p H1 H' hw hp⟩
 clear Jm;ext;apply⟨_,_,_,s0 _ _ a6,g.cl_Tag,g.na_Tag_written,_,rfl,?_⟩;rcases QG with rfl|⟨l0,rfl,KZ⟩
 .ext;have Vx:(vZ n.tg.name n.at_).length<=15000000:=by rw[<-gT hk];exact AY (i9 _) hz
  rw[sv,AB,AB,AB]at Vx;simp only[AA,BI]at Vx;cbv;ext;apply d6 [60] nofun (by decide+kernel) λp1 H1 nQ s1 e1=>?_;have pG:=s0.trans s1;apply⟨_,_,_,pG _ _ a6,g.cl_Tag,g.na_Tag_name,_,rfl,?_⟩;apply⟨p1,n.tg.nm,_,_,rfl,rfl,e1,pG _ _ pJ,?_,λpp M9=>?_⟩
  .rw[ax,ax];exact bf (by simp;lia)
  have s2:=s1.trans (aj.upd (o:= .lst (VL [60]++VL n.tg.name)) M9);have TU:H pp=none:=s1.free M9;have e2:upd H1 pp (.lst (VL [60]++VL n.tg.name)) pp=some (.lst (VL ([60]++n.tg.name++(gd (ls.take 0)).flatMap ck))):=by rw[aa,<-bh];simp[gd]
  generalize upd H1 pp (.lst (VL [60]++VL n.tg.name))=H2 at s2 e2 ⊢;clear pG e1 s1 nQ M9;have WY:=s0.trans s2;have qW:∀{b o},H b=some o->b≠pp:=λq=>af q TU;have rq:=s0 _ _ hd;have Qy:n.tg.d≠pp:=qW rq;cbv;apply⟨n.tg.d,_,WY _ _ hd,trivial,λod=>?_⟩;have keep:∀b o,H b=some o->b≠n.tg.d->upd H2 n.tg.d (.eM od (.dT (eO ls))) b=some o:=λb o q z=>by rw[ae z];exact s2 b o q
  have Vq:n.tg.a≠n.tg.d:=aE a6 hd (by intro z;cases z);apply⟨_,n.tg.dx,_,keep _ _ (s0 _ _ a6) Vq,g.cl_Tag,g.na_Tag_attributes,_,rfl,n.tg.d,od,eO ls,rfl,aa,λlg=>?_⟩
  apply sZ (λi σ H'=>∃v,SE σ [some (V.ref n.tg.a),some (V.ref pp),v]/\(∀b o,H b=some o->b≠n.tg.d->H' b=some o)/\H' n.tg.d=some (.eM od (.dT (eO ls)))/\H' pp=some (.lst (VL ([60]++n.tg.name++(gd (ls.take i)).flatMap ck))))
   ⟨none,rfl,keep,aa,by rw[ae Qy.symm,e2]⟩ (λi σ H' h=>?_) (λi kk v q σ H3 hi hq h=>?_) (λσ H' h=>?_)
  .obtain⟨v,_,_,b,_⟩:=h;exact b
  .obtain⟨v0,rfl,b3,d3,e3⟩:=h;obtain⟨x,hx,rfl,rfl⟩:=xq hi;rw[rR]at hq;have Iw:=hv x (AO hx);have lW:=jn ck (gd ls) (i+1);have SH:(gd ls).take (i+1)=gd (ls.take (i+1)):=by unfold gd;rw[CJ]
   rw[SH,js hx,C7,AB,yY]at lW;have N7:([(x.1,x.2.1)]:List cO).flatMap ck=ck (x.1,x.2.1):=by simp
   rw[N7]at lW;have hax:(ck (x.1,x.2.1)).length=4+x.1.length+(uf x.2.1).length:=by unfold ck;simp;lia
   ext;cbv;ext;apply⟨fq e3,d6 [32] nofun (by decide+kernel) λp1 H4 nQ s4 e4=>?_⟩;apply⟨_,.inr (.inl (.inl (s4 _ _ hq))),λp2 eK=>?_⟩;have s5:=s4.trans (aj.upd (o:= .lst (VL x.1)) eK);apply⟨p1,p2,_,_,rfl,rfl,by rw[ae (af e4 eK)];exact e4,aa,?_,λp3 ro=>?_⟩
   .rw[ax,ax];exact bf (by simp;lia)
   have s6:=s5.trans (aj.upd (o:= .lst (VL [32]++VL x.1)) ro);have e6:upd (upd H4 p2 (.lst (VL x.1))) p3 (.lst (VL [32]++VL x.1)) p3=some (.lst (VL ([32]++x.1))):=by rw[aa,bh]
   generalize upd (upd H4 p2 (.lst (VL x.1))) p3 (.lst (VL [32]++VL x.1))=H6 at s6 e6 ⊢;clear s5 ro eK e4 s4 nQ;apply d6 [61,34] nofun (by decide+kernel) λp4 H7 rn s7 e7=>?_;apply⟨p3,p4,_,_,rfl,rfl,s7 _ _ e6,e7,?_,λp5 Jd=>?_⟩
   .rw[ax,ax];exact bf (by simp;lia)
   have s8:=(s6.trans s7).trans (aj.upd (o:= .lst (VL ([32]++x.1)++VL [61,34])) Jd);have e8:upd H7 p5 (.lst (VL ([32]++x.1)++VL [61,34])) p5=some (.lst (VL ([32]++x.1++[61,34]))):=by rw[aa,bh ([32]++x.1)]
   have np5:pp≠p5:=af ((s6.trans s7) _ _ e3) Jd;generalize upd H7 p5 (.lst (VL ([32]++x.1)++VL [61,34]))=H8 at s8 e8 ⊢;clear s7 e7 rn s6 e6;apply⟨_,_,s8 _ _ e3,e8,?_,fq aa,?_⟩
   .rw[ax,ax];apply bf ?_;simp only[AB,AA,BI];lia
   have b9:ra pp H8 (upd H8 pp (.lst (VL ([60]++n.tg.name++(gd (ls.take i)).flatMap ck)++VL ([32]++x.1++[61,34])))):=ra.upd;have e9:upd H8 pp (.lst (VL ([60]++n.tg.name++(gd (ls.take i)).flatMap ck)++VL ([32]++x.1++[61,34]))) pp=some (.lst (VL ([60]++n.tg.name++(gd (ls.take i)).flatMap ck++([32]++x.1++[61,34])))):=by rw[aa,bh ([60]++n.tg.name++(gd (ls.take i)).flatMap ck)]
   generalize upd H8 pp (.lst (VL ([60]++n.tg.name++(gd (ls.take i)).flatMap ck)++VL ([32]++x.1++[61,34])))=H9 at b9 e9 ⊢;have k9:∀b o,H3 b=some o->b≠pp->H9 b=some o:=λb o z nz=>by rw[b9 b nz];exact s8 b o z
   have RT:∀b o,H b=some o->b≠n.tg.d->H9 b=some o:=λb o z nz=>k9 b o (b3 b o z nz) (qW z);have Ya:H9 q=some (.tup (VL x.1)):=k9 _ _ hq (aE hq e3 (by intro z;cases z));have VZ:H9 n.tg.d=some (.eM od (.dT (eO ls))):=k9 _ _ d3 Qy;have hg:lx H9 n.tg.d (V.ref q) (some (V.ref x.2.2)):= .inr ⟨eO ls,x.1.map kI,q,.inr ⟨_,VZ⟩,rfl,by rw[rR];exact Ya, (xp lg hx).symm⟩;have Iy:x.2.2≠n.tg.d:=aE Iw hd (by intro z;cases z);apply⟨_,n.tg.dx,_,RT _ _ (s0 _ _ a6) Vq,g.cl_Tag,g.na_Tag_attributes,_,rfl,n.tg.d,_,rfl,hg,?_⟩;apply⟨x.2.2,x.2.1,rfl,aL.of (RT _ _ (s0 _ _ Iw) Iy),by lia,λp6 WJ Yj Dq Rc=>?_⟩;apply d6 [34] nofun (by decide+kernel) λp7 WI Yi Qp Ww=>?_;apply⟨p6,p7,_,_,rfl,rfl,Qp _ _ Rc,Ww,?_,λp8 Yh=>?_⟩
   .rw[ax,ax];exact bf (by simp;lia)
   have uj:=(Dq.trans Qp).trans (aj.upd (o:= .lst (VL (uf x.2.1)++VL [34])) Yh);have Wv:upd WI p8 (.lst (VL (uf x.2.1)++VL [34])) p8=some (.lst (VL (uf x.2.1++[34]))):=by rw[aa,bh]
   generalize upd WI p8 (.lst (VL (uf x.2.1)++VL [34]))=H12 at uj Wv ⊢;clear Qp Ww Yi Dq Rc Yj;apply⟨_,_,uj _ _ e9,Wv,?_,?_⟩
   .rw[ax,ax];apply bf ?_;simp only[AB,AA,BI];lia
   apply⟨_,rfl,λb o z nz=>by rw[ae (qW z)];exact uj _ _ (RT b o z nz),by rw[ae Qy];exact uj _ _ VZ,?_⟩;rw[aa,js hx,C7,N7,<-bh];unfold ck;simp
  .obtain⟨v,rfl,b3,d3,e3⟩:=h;apply⟨d3,?_⟩;rw[fb,AK (AE _),yY]at e3
   have s4:aj H (upd H' n.tg.d (.dT (eO ls))):=λb o z=>by
    by_cases hb:b=n.tg.d
    .rw[hb]at z ⊢;rw[aa,<-rq,z]
    .rw[ae hb];exact b3 b o z hb
   have e4:upd H' n.tg.d (.dT (eO ls)) pp=some (.lst (VL ([60]++n.tg.name++n.at_.flatMap ck))):=by rw[ae Qy.symm];exact e3
   generalize upd H' n.tg.d (.dT (eO ls))=H4 at s4 e4 ⊢;ext;apply d6 [62] nofun (by decide+kernel) λp4 H7 rn s7 e7=>?_;apply⟨pp,p4,_,_,rfl,rfl,s7 _ _ e4,e7,?_,λp5 Jd=>?_⟩
   .rw[ax,ax];apply bf ?_;simp only[AB,AA,BI];nofun
   have s8:=(s4.trans s7).trans (aj.upd (o:= .lst (VL ([60]++n.tg.name++n.at_.flatMap ck)++VL [62])) Jd);have e8:upd H7 p5 (.lst (VL ([60]++n.tg.name++n.at_.flatMap ck)++VL [62])) p5=some (.lst (VL (pN n.node))):=by rw[aa,gT hk,sv,bh ([60]++n.tg.name++n.at_.flatMap ck)]
   generalize upd H7 p5 (.lst (VL ([60]++n.tg.name++n.at_.flatMap ck)++VL [62]))=H8 at s8 e8 ⊢;apply⟨p5,_,rfl,aL.of e8,bf (by nofun),λp9 H9 Yg s9 e9=>?_⟩;have Dq:=s8.trans s9;apply⟨_,_,_,Dq _ _ (s0 _ _ a6),g.cl_Tag,g.na_Tag_written,cq rfl,?_⟩;have Ga:H p9=none:=s8.free Yg;have PN:H0 p9=none:=s0.free Ga;have RK:p9≠n.tg.a:=λq=>by rw[q,s0 _ _ a6]at Ga;cases Ga
   apply rest p9 _ _ _ rfl ⟨hR.cached hn hk PN,?_,λb h1 h2=>?_,λb o z nt=>?_,λb hb=>?_⟩ (by rw[ae RK,aa]) aa
   .intro b o z
    by_cases hb:b=n.tg.a
    .rw[hb,aa]at z;rw[hb,aa];exact z
    .rw[ae hb]at z;rw[ae hb]
     by_cases K4:b=p9
     .rw[K4,aa]at z;rw[K4,e9];exact z
     .rw[ae K4]at z;exact Dq _ _ (s0 _ _ z)
   .rw[ae (λq=>by rw[q,a6]at h1;cases h1),ae (λq=>h2 (by rw[q];exact Ga))];exact h1
   .rw[ae (λq=>nt (by rw[q,s0 _ _ a6]at z;cases z;exact⟨_,_,_,_,_,_,_,_,rfl⟩))];exact Dq b o z
   .intro q
    by_cases K4:b=n.tg.a
    .rw[K4,aa]at q;cases q
    .rw[ae K4]at q;exact hb (Dq.free q)
 .ext;exact rest l0 H0 H _ rfl (eX.same hR s0 (aj.refl H)) KZ (s0 _ _ a6)
def cv (n:ND) (rest:List ND):List Nat:=if(["pre","textarea"].map aG).contains n.tg.name=true then(match rest with|[]=>[]|x::_=>if x.depth=n.depth+1/\x.kind=2/\x.bF.headD 0=10 then [10]else [])else []
inductive sp_written_start (g:G w K mg) (vs:List V) (H:Hp) (Q:VK) (_:XK):Prop
 |i (L:List ND) (pre:List ND) (n:ND) (rest:List ND) (H0:Hp) (_:vs=[.ref n.a]) (_:de g H0 L) (_:L=pre++n::rest) (_:aj H0 H) (_:n.kind=1) (_:(∀m∈L,m.kind=2->m.bF≠[])) (_:(d9 (pN n.node)).length<=14000000) (_:∀p H1 H',eX g L H0 H H1 H'->H' p=some (.lst (VL (d9 (pN n.node)++cv n rest)))->Q (.ref p) H')
theorem ok_written_start (g:G w K mg):aI P w K mg base bO 4 g.written_start.f g.written_start.fd ["element"] (sp_written_start g):=by
 apply g.written_start.fn.bW sc_written_start λvs H Q E h=>?_;obtain⟨L,pre,n,rest,H0,rfl,hR,eL,s0,hk,dF,hz,k⟩:=h;apply⟨rfl,λ_ _ _ _ hr=>?_⟩;apply⟨_,%[aw (PW.pt (bG (binrel_no_prop% op_in_seq (ak (pv 0) rfl) (br %[aB,aB|a])) (a9 (dP (ak (pv 0) rfl) (λ_=>rfl))))) %[leftact% written_start 1 (rightact% aN (ak (pv 0) rfl) (ag)),aw (PW.pt (bG (binrel% op_eq (ak (pv 1) rfl) (g.c_TEXT.pe rfl)) (a9 (binrel% op_eq (rightact% aN (ak (pv 1) rfl) (ag)) (g.c_LINE_FEED.pe rfl))))) %[ao (ay op_cat (unop% written_tag %[ak (pv 0) rfl|a]) (aM %[g.c_LINE_FEED.pe rfl|a]))|b] %[|b]|b] %[|b],ao (unop% written_tag %[ak (pv 0) rfl|a])|b],?_⟩;have hn:n∈L:=by rw[eL];simp
 have cw:fC g H0 n (aq n.depth rest):=by
  have:=hR.nodes;rw[eL]at this;exact this.at_
 obtain⟨h1,h2,hT⟩:=cw.el hk;apply g7 λR Jm=>?_
 have oG:∀(H2:Hp) (σ:St),aj H H2->σ[0]? =some (some (V.ref n.a))->cv n rest=[]->R σ H2:=by
  intro H2 σ s2 hσ nP;subst Jm;apply Bg hσ ⟨_,n.dx,_,s2 _ _ (s0 _ _ h1),g.cl_Element,g.na_Element_tag,_,rfl,L,n,H0,rfl,hR,s0.trans s2,hn,hk,by nofun,λp H3 H' hw hp=>?_⟩;apply k p H3 H' ((eX.same hR s0 s2).trans hw) ?_;rw[nP,A6];exact hw.sub _ _ hp
 clear Jm;have a6:=s0 _ _ h1;ext;apply⟨_,_,_,a6,g.cl_Element,g.na_Element_word,_,rfl,by decide,λc hc=>?_⟩;have s1:=aj.upd (o:= .tup [V.str (Str.ofString "pre"),V.str (Str.ofString "textarea")]) hc;have g9:bC K (upd H c (.tup [V.str (Str.ofString "pre"),V.str (Str.ofString "textarea")])) c (WS (["pre","textarea"].map aG)):=bC.of aa;generalize upd H c (.tup [V.str (Str.ofString "pre"),V.str (Str.ofString "textarea")])=H1 at g9 s1 ⊢;have pG:=s0.trans s1;apply cM g9 ?_;apply bb (λfi=>?_) (λfi=>?_)
 .refine⟨_,_,_,pG _ _ h1,g.cl_Element,g.na_Element_inside,_,rfl,_,.inl ⟨_,aL.of (pG _ _ h2),rfl⟩,?_⟩;cases rest with
  |nil=>
   apply nN (by simp[aq]) ?_;exact oG H1 _ s1 rfl (by unfold cv;rw[iP fi])
  |cons x rest=>
   have Iz:=hR.wf;rw[eL]at Iz;have Kz:=lG Iz
   by_cases oz:x.depth=n.depth+1
   .have iZ:aq n.depth (x::rest)=x.a::aq n.depth rest:=by rw[aq,iN (by lia),iP oz]
    rw[iZ]at h2 ⊢;have VC:x∈L:=by rw[eL];simp
    obtain⟨kx,VJ⟩:=hR.nodes.mem VC;apply rj (by simp) ?_;cbv;ext;apply⟨_,_,_,pG _ _ h1,g.cl_Element,g.na_Element_inside,_,rfl,_,aL.of (pG _ _ h2),V.ref x.a,dG (j:=0) rfl,?_⟩
    by_cases Ky:x.kind=1
    .obtain⟨x1,x2,_⟩:=VJ.el Ky;apply⟨_,_,_,pG _ _ x1,g.cl_Element,g.na_Element_kind,_,rfl,?_⟩;ext;apply nN nofun ?_;exact oG H1 _ s1 rfl (by unfold cv;rw[iP fi];simp only;rw[iN (λq=>by lia)])
    .obtain⟨x1,x2,_⟩:=VJ.lf Ky;apply⟨_,_,_,pG _ _ x1,g.cl_Leaf,g.na_Leaf_kind,_,rfl,?_⟩;ext
     by_cases y8:x.kind=2
     .refine rj (by lia) ?_
      obtain⟨c,r,ec⟩:∃c r,x.bF=c::r:=by
       cases hp:x.bF with
       |nil=>exact absurd hp (dF x VC y8)
       |cons c r=>exact⟨c,r,rfl⟩
      rw[ec]at x2;apply⟨_,_,_,pG _ _ x1,g.cl_Leaf,g.na_Leaf_points,_,rfl,_,aL.of (pG _ _ x2),V.int c,dG (j:=0) rfl,?_⟩;ext;apply bb (λO2=>?_) (λO2=>?_)
      .have SJ:cv n (x::rest)=[10]:=by unfold cv;rw[iP fi];simp only;rw[iP ⟨oz,y8,by rw[ec];show c=10;lia⟩]
       rw[SJ]at k;apply⟨_,_,_,pG _ _ h1,g.cl_Element,g.na_Element_tag,_,rfl,?_⟩;apply⟨L,n,H0,rfl,hR,pG,hn,hk,by nofun,λp H3 H' hw hp=>?_⟩;apply⟨by decide,λp2 eK=>?_⟩;have M9:=hw.sub _ _ hp;apply⟨p,p2,_,_,rfl,rfl,by rw[ae (af M9 eK)];exact M9,aa,?_,λp3 ro=>?_⟩
       .rw[ax];exact bf (by simp;nofun)
       apply k p3 H3 _ (((eX.same hR s0 s1).trans hw).trans (eX.same hw.tree hw.sub ((aj.upd eK).trans (aj.upd ro)))) ?_;rw[aa,bh];rfl
      .exact oG H1 _ s1 rfl (by unfold cv;rw[iP fi];simp only;rw[iN (λq=>O2 (by have:=q.2.2;rw[ec]at this;have:c=10:=this;lia))])
     .refine nN (by lia) ?_;exact oG H1 _ s1 rfl (by unfold cv;rw[iP fi];simp only;rw[iN (λq=>y8 q.2.1)])
   .have iZ:aq n.depth (x::rest)=[]:=by rw[aq,iP (by lia)]
    rw[iZ];apply nN (by simp) ?_;exact oG H1 _ s1 rfl (by unfold cv;rw[iP fi];simp only;rw[iN (λq=>oz q.1)])
 .exact oG H1 _ s1 rfl (by unfold cv;rw[iN fi])
def textOf (name:Aa) (t:Aa):Aa:=if Ad.contains name=true then t else uf t
def eV (name:Aa):Aa:=if y3.contains name=true then []else IQ name
inductive sp_written_text (g:G w K mg) (vs:List V) (H:Hp) (Q:VK) (_:XK):Prop
 |i (x m:ND) (_:vs=[.ref x.a,.ref m.a]) (_:H x.a=some (.ins g.k_Leaf x.dx (Dt x.kind x.depth x.li))) (_:H x.li=some (.lst (VL x.bF))) (_:H m.a=some (.ins g.k_Element m.dx (hG m.depth m.tg.a (W m.tg.name) m.li))) (_:(d9 (textOf m.tg.name x.bF)).length<=15000000) (_:iW H (d9 (textOf m.tg.name x.bF)) Q)
theorem ok_written_text (g:G w K mg):aI P w K mg base bO 3 g.written_text.f g.written_text.fd ["leaf","parent"] (sp_written_text g):=by
 apply g.written_text.fn.bW sc_written_text λvs H Q E h=>?_;obtain⟨x,m,rfl,hx,hl,hm,hz,k⟩:=h;apply⟨rfl,λ_ _ _ _ hr=>?_⟩;apply⟨_,%[aw (binrel_no_prop% op_in_seq (ak (pv 1) rfl) (g.c_RAW_WITHOUT_REFERENCES.pe rfl)) %[ao (unop% encoded %[ak (pv 0) rfl|a])|b] %[|b],ao (unop% encoded %[unop% escaped %[ak (pv 0) rfl|a]|a])|b],?_⟩;apply g7 λR hR=>?_
 have rest:Ad.contains m.tg.name=false->R [some (.ref x.a),some (.ref m.a)] H:=by
  intro hs;subst hR;have e:textOf m.tg.name x.bF=uf x.bF:=by unfold textOf;rw[hs];rfl
  rw[e]at k hz;ext;apply⟨_,_,_,hx,g.cl_Leaf,g.na_Leaf_points,_,rfl,?_⟩;apply⟨x.li,x.bF,rfl,aL.of hl,AY (i9 _) hz,λp H1 hp s1 e1=>?_⟩;apply⟨p,_,rfl,aL.of e1,bf (by nofun),λp2 H2 eK s2 e2=>?_⟩;exact k p2 H2 (s1.free eK) (s1.trans s2) e2
 clear hR;ext;apply⟨_,_,_,hm,g.cl_Element,g.na_Element_word,_,rfl,?_⟩;apply cM (oV g _) ?_;apply bb (λh1=>?_) (λh1=>?_)
 .have e:textOf m.tg.name x.bF=x.bF:=by unfold textOf;rw[iP h1]
  rw[e]at k hz;apply⟨_,_,_,hx,g.cl_Leaf,g.na_Leaf_points,_,rfl,?_⟩;exact⟨x.li,x.bF,rfl,aL.of hl,bf (by nofun),k⟩
 .exact rest (by simpa using h1)
inductive sp_written_end (g:G w K mg) (vs:List V) (H:Hp) (Q:VK) (_:XK):Prop
 |i (m:ND) (_:vs=[.ref m.a]) (_:H m.a=some (.ins g.k_Element m.dx (hG m.depth m.tg.a (W m.tg.name) m.li))) (_:pT g H m) (_:(d9 (eV m.tg.name)).length<=15000000) (_:iW H (d9 (eV m.tg.name)) Q)
theorem ok_written_end (g:G w K mg):aI P w K mg base bO 2 g.written_end.f g.written_end.fd ["element"] (sp_written_end g):=by
 apply g.written_end.fn.bW sc_written_end λvs H Q E h=>?_;obtain⟨m,rfl,hm,hT,hz,k⟩:=h;apply⟨rfl,λ_ _ _ _ hr=>?_⟩;apply⟨_,%[aw (binrel_no_prop% op_in_seq (ak (pv 0) rfl) (g.c_VOID.pe rfl)) %[ao (aM %[|a])|b] %[|b],ao (unop% encoded %[ay op_cat (ay op_cat (unop% points_of %[aB|a]) (ak (ak (pv 0) rfl) rfl)) (unop% points_of %[aB|a])|a])|b],?_⟩;obtain⟨wr,ho,_⟩:=hT.ob;apply g7 λR hR=>?_
 have rest:y3.contains m.tg.name=false->R [some (.ref m.a)] H:=by
  intro hs;subst hR;have e:eV m.tg.name=[60,47]++m.tg.name++[62]:=by unfold eV;rw[hs];rfl
  rw[e]at k hz;have QE:=AY (i9 _) hz;simp only[AB,AA,BI]at QE;ext;apply d6 [60,47] nofun (by decide+kernel) λp1 H1 nQ s1 e1=>?_;apply⟨_,_,_,s1 _ _ hm,g.cl_Element,g.na_Element_tag,_,rfl,_,_,_,s1 _ _ ho,g.cl_Tag,g.na_Tag_name,_,rfl,?_⟩;apply⟨p1,m.tg.nm,_,_,rfl,rfl,e1,s1 _ _ hT.nm,?_,λp2 eK=>?_⟩
  .rw[ax,ax];exact bf (by simp;nofun)
  have s2:=s1.trans (aj.upd (o:= .lst (VL [60,47]++VL m.tg.name)) eK);have e2:upd H1 p2 (.lst (VL [60,47]++VL m.tg.name)) p2=some (.lst (VL ([60,47]++m.tg.name))):=by rw[aa,bh [60,47]]
  generalize upd H1 p2 (.lst (VL [60,47]++VL m.tg.name))=H2 at s2 e2 ⊢;apply d6 [62] nofun (by decide+kernel) λp3 H3 ro s3 e3=>?_;apply⟨p2,p3,_,_,rfl,rfl,s3 _ _ e2,e3,?_,λp4 rn=>?_⟩
  .rw[ax,ax];exact bf (by simp;lia)
  have s4:=(s2.trans s3).trans (aj.upd (o:= .lst (VL ([60,47]++m.tg.name)++VL [62])) rn);have e4:upd H3 p4 (.lst (VL ([60,47]++m.tg.name)++VL [62])) p4=some (.lst (VL ([60,47]++m.tg.name++[62]))):=by rw[aa,bh ([60,47]++m.tg.name)]
  generalize upd H3 p4 (.lst (VL ([60,47]++m.tg.name)++VL [62]))=H4 at s4 e4 ⊢;apply⟨p4,_,rfl,aL.of e4,bf (by nofun),λp5 H5 Jd s5 e5=>?_⟩;exact k p5 H5 (s4.free Jd) (s4.trans s5) e5
 clear hR;ext;apply⟨_,_,_,hm,g.cl_Element,g.na_Element_word,_,rfl,?_⟩;apply cM (wj g _) ?_;ext;apply bb (λh1=>?_) (λh1=>?_)
 .have e:eV m.tg.name=[]:=by unfold eV;rw[iP h1]
  rw[e]at k;apply⟨by decide,λp hp=>?_⟩;exact k p _ hp (aj.upd hp) aa
 .exact rest (by simpa using h1)
def cN (d:Nat):List ND->Aa×List ND
 |[]=>([], [])
 |m::o=>if d<=m.depth then(eV m.tg.name++(cN d o).1, (cN d o).2)else([],m::o)
def Lj (o:List ND):Aa:=match o with|[]=>[]|m::_=>m.tg.name
def pw:List ND->List ND->Aa
 |o, []=>(cN 0 o).1
 |o,n::r=>(cN n.depth o).1++(if n.kind=1 then pN n.node++(cv n r++pw (n::(cN n.depth o).2) r)
   else if n.kind=2 then textOf (Lj (cN n.depth o).2) n.bF++pw (cN n.depth o).2 r
   else([60,33,45,45]++n.bF++[45,45,62])++pw (cN n.depth o).2 r)
theorem Mh {m n:ND} {o r:List ND} (h:n.depth<=m.depth):pw (m::o) (n::r)=eV m.tg.name++pw o (n::r):=by
 rw[pw,pw,cN,iP h];simp
theorem Mi {m:ND} {o:List ND}:pw (m::o) []=eV m.tg.name++pw o []:=by
 rw[pw,pw,cN,iP (A0 _)]
theorem yE {d:Nat} {o:List ND} (h:∀m o',o=m::o'->m.depth<d):cN d o=([],o):=by
 cases o with
 |nil=>rfl
 |cons m o=>rw[cN,iN (by have:=h m o rfl;nofun)]
theorem gB (a t u:List Nat) {T:List Nat} (h:a++t++u=T):(d9 a).length+(d9 t).length<=(d9 T).length:=by
 rw[<-h,cV,cV,AB,AB];lia
theorem ye (n:ND) (r:List ND):d9 (cv n r)=cv n r:=by
 unfold cv
 split
 .split
  .rfl
  .split<;>rfl
 .rfl
theorem lO (a b:List Nat):d9 (a++b)=d9 a++d9 b:=cV a b
theorem vy {n:ND} {k:List Addr} (h:fC g H n k):∃C dx fs,H n.a=some (.ins C dx fs)/\oB K C/\aH K C "depth"/\C2 (Str.ofString "depth") fs=some (V.int n.depth):=by
 by_cases hk:n.kind=1
 .exact⟨_,_,_, (h.el hk).1,g.cl_Element,g.na_Element_depth,rfl⟩
 .exact⟨_,_,_, (h.lf hk).1,g.cl_Leaf,g.na_Leaf_depth,rfl⟩
structure g5 (g:G w K mg) (L:List ND) (q sent around:Addr) (H H1 H':Hp) (o:List ND) (acc:Aa):Prop where
 tree:de g H1 L
 sub:aj H1 H'
 ns:H1 sent=none
 na:H1 around=none
 kp:∀b o,H b=some o->¬gs o->H' b=some o
 hq:H' q=some (.lst (L.map λm=>V.ref m.a))
 hs:H' sent=some (.lst (VL (d9 acc)))
 ha:H' around=some (.lst ((o.map λm=>V.ref m.a).reverse))
 ol:∀m∈o,m∈L/\m.kind=1
theorem g5.same {L:List ND} {q sent around:Addr} {H H1 H' Jr:Hp} {o:List ND} {acc:Aa} (h:g5 g L q sent around H H1 H' o acc) (s:aj H' Jr):g5 g L q sent around H H1 Jr o acc:=
 ⟨h.tree,h.sub.trans s,h.ns,h.na,λb o e n=>s _ _ (h.kp b o e n),s _ _ h.hq,s _ _ h.hs,s _ _ h.ha,h.ol⟩
theorem g5.post {L:List ND} {q sent around:Addr} {H H1 H' H2 Jr:Hp} {o:List ND} {acc:Aa} (h:g5 g L q sent around H H1 H' o acc) (p:eX g L H1 H' H2 Jr):g5 g L q sent around H H2 Jr o acc:=
 ⟨p.tree,p.sub,p.new _ h.ns (by rw[h.hs];simp),p.new _ h.na (by rw[h.ha];simp),λb o e n=>p.keep _ _ (h.kp b o e n) n,p.keep _ _ h.hq bR,p.keep _ _ h.hs bR,p.keep _ _ h.ha bR,h.ol⟩
theorem g5.send {L:List ND} {q sent around:Addr} {H H1 H':Hp} {o:List ND} {acc:Aa} (h:g5 g L q sent around H H1 H' o acc) (n1:q≠sent) (n2:around≠sent) (n3:H sent=none) (t:Aa):g5 g L q sent around H H1 (upd H' sent (.lst (VL (d9 acc)++VL (d9 t)))) o (acc++t):=
 ⟨h.tree,λb o e=>by rw[ae (af e h.ns)];exact h.sub b o e,h.ns,h.na,λb o e n=>by rw[ae (af e n3)];exact h.kp b o e n,by rw[ae n1];exact h.hq,by rw[aa,lO,bh],by rw[ae n2];exact h.ha,h.ol⟩
theorem g5.stack {L:List ND} {q sent around:Addr} {H H1 H':Hp} {o:List ND} {acc:Aa} (h:g5 g L q sent around H H1 H' o acc) (n1:q≠around) (n2:around≠sent) (n3:H around=none) (o':List ND) (ho:∀m∈o',m∈L/\m.kind=1) (xs:List V) (hx:xs=(o'.map λm=>V.ref m.a).reverse):g5 g L q sent around H H1 (upd H' around (.lst xs)) o' acc:=
 ⟨h.tree,λb o e=>by rw[ae (af e h.na)];exact h.sub b o e,h.ns,h.na,λb o e n=>by rw[ae (af e n3)];exact h.kp b o e n,by rw[ae n1];exact h.hq,by rw[ae n2.symm];exact h.hs,by rw[aa,hx],ho⟩
inductive sp_written_tree (g:G w K mg) (vs:List V) (H:Hp) (Q:VK) (_:XK):Prop
 |i (L:List ND) (n:ND) (r:List ND) (_:vs=[.ref n.a]) (_:de g H L) (_:L=n::r) (_:(∀m∈L,m.kind=2->m.bF≠[])) (_:(d9 (pw [] L)).length<=10000000) (_:∀p H',H p=none->de g H' L->(∀b o,H b=some o->¬gs o->H' b=some o)->H' p=some (.lst (VL (d9 (pw [] L))))->Q (.ref p) H')
theorem ok_written_tree (g:G w K mg):aI P w K mg base bO 5 g.written_tree.f g.written_tree.fd ["html"] (sp_written_tree g):=by
 apply g.written_tree.fn.bW sc_written_tree λvs H Q E h=>?_;obtain⟨L,n0,r0,rfl,hR,eL,dF,hz,k⟩:=h;apply⟨rfl,λ_ _ _ _ hr=>?_⟩;apply⟨_,%[leftact% written_tree 1 (aM %[|a]),leftact% written_tree 2 (aM %[|a]),dy PassesOwn.never rfl (bV (unop% in_order %[pv 0|a])) (bI (i:=3) sc_written_tree.nd rfl (CM rfl)) %[bE PassesOwn.never (PW.pt (bG (dP (pv 2) (λ_=>rfl)) (a9 (binrel% op_ge (ak (rightact% aN (pv 2) (dM cG (ag))) rfl) (ak (pv 3) rfl))))) %[au (binop% B.extend.bp (pv 1) %[unop% written_end %[uT EC EM EN uV (pv 2)|a]|a])|b],aw (binrel% op_eq (ak (pv 3) rfl) (g.c_ELEMENT.pe rfl)) %[au (binop% B.extend.bp (pv 1) %[unop% written_start %[pv 3|a]|a]),au (binop% B.append.aU (pv 2) %[pv 3|a])|b] %[aw (binrel% op_eq (ak (pv 3) rfl) (g.c_TEXT.pe rfl)) %[au (binop% B.extend.bp (pv 1) %[unop% written_text %[pv 3,rightact% aN (pv 2) (dM cG (ag))|a]|a])|b] %[au (binop% B.extend.bp (pv 1) %[unop% encoded %[ay op_cat (ay op_cat (unop% points_of %[aB|a]) (ak (pv 3) rfl)) (unop% points_of %[aB|a])|a]|a])|b]|b]|b],bE PassesOwn.never (dP (pv 2) (λ_=>rfl)) %[au (binop% B.extend.bp (pv 1) %[unop% written_end %[uT EC EM EN uV (pv 2)|a]|a])|b],ao (pv 1)|b],?_⟩;cbv;ext;apply⟨A0 _,λsent iY=>?_⟩;cbv;ext;apply⟨A0 _,λaround Sl=>?_⟩;have s2:=(aj.upd (o:= .lst []) iY).trans (aj.upd (o:= .lst []) Sl);have Em:around≠sent:=(af aa Sl).symm;have Lz:upd (upd H sent (.lst [])) around (.lst []) sent=some (.lst []):=by rw[ae Em.symm,aa]
 have LJ:upd (upd H sent (.lst [])) around (.lst []) around=some (.lst []):=aa;have Gh:H around=none:=(aj.upd (o:= .lst []) iY).free Sl;generalize upd (upd H sent (.lst [])) around (.lst [])=H2 at s2 Lz LJ ⊢;cbv;apply wZ (xs:=L.map λm=>V.ref m.a) (H0:=H2) (λR h=>?_) (λq H3 hq s3 yQ=>?_)
 .ext;exact⟨L,n0,r0,rfl,hR.mono s2,eL,h⟩
 have Nw:q≠sent:=λz=>by rw[z,Lz]at hq;cases hq
 have RI:q≠around:=λz=>by rw[z,LJ]at hq;cases hq
 have Tv:=hR.len
 apply⟨λi σ H'=>∃(v:Option V) (o:List ND) (acc:Aa) (H1:Hp),SE σ [some (V.ref n0.a),some (V.ref sent),some (V.ref around),v]/\g5 g L q sent around H H1 H' o acc/\acc++pw o (L.drop i)=pw [] L/\o.length<=i/\(0<i->∃o',o=o'++[n0]),
  ⟨none, [], [],H,rfl, ⟨hR,s2.trans s3,iY,Gh,λb o e _=>s3 _ _ (s2 _ _ e),yQ,s3 _ _ Lz,s3 _ _ LJ,by simp⟩,rfl,AE _,λh=>absurd h nofun⟩,λi σ H' _ h=>?_,λi x σ H4 hi h=>?_,λσ H' h=>?_⟩
 .obtain⟨_,_,_,_,_,h,_⟩:=h;exact aL.of h.hq
 .obtain⟨v0,o,acc,H1,rfl,hI,cu,Dx,l6⟩:=h;rw[AV]at hi;cases hn:L[i]? with
  |none=>rw[hn]at hi;cases hi
  |some n=>
   rw[hn]at hi;have:V.ref n.a=x:=AH hi;subst this;have Yo:=AO hn;rw[aJ hn]at cu;ext
   have cw:∀{H1:Hp},de g H1 L->fC g H1 n (aq n.depth (L.drop (i+1))):=λhR=>by
    have:=hR.nodes;rw[mM hn]at this;exact this.at_
   apply g7 λR Jm=>?_
   have rest:∀(o:List ND) (acc:Aa) (H1 H5:Hp),g5 g L q sent around H H1 H5 o acc->acc++pw o (n::L.drop (i+1))=pw [] L->o.length<=i->(0<i->∃o',o=o'++[n0])->(∀m o',o=m::o'->m.depth<n.depth)->R [some (V.ref n0.a),some (V.ref sent),some (V.ref around),some (V.ref n.a)] H5:=by
    intro o acc H1 H5 hI cu Dx l6 Lv;subst Jm;have PU:=yE Lv;rw[pw,PU,BA]at cu;ext
    by_cases hk:n.kind=1
    .rw[iP hk]at cu;obtain⟨h1,h2,h3⟩:=(cw hI.tree).el hk;apply⟨_,_,_,hI.sub _ _ h1,g.cl_Element,g.na_Element_kind,_,rfl,?_⟩;ext;apply rj rfl ?_;cbv;ext;rw[<-AZ (pN n.node),<-AZ acc]at cu;have Kw:=gB acc _ _ cu;rw[lO (pN n.node),AB]at Kw;apply⟨fq hI.hs,L,L.take i,n,L.drop (i+1),H1,rfl,hI.tree,mM hn,hI.sub,hk,dF,by lia,λp H6 H7 hw hp=>?_⟩;have zf:=hI.post hw;have SJ:d9 (pN n.node)++cv n (L.drop (i+1))=d9 (pN n.node++cv n (L.drop (i+1))):=by rw[lO,ye]
     rw[SJ]at hp;apply⟨_,_,zf.hs,hp,?_,?_⟩
     .rw[ax,ax,lO,AB];exact bf (by lia)
     have QW:=zf.send Nw Em iY (pN n.node++cv n (L.drop (i+1)));generalize upd H7 sent (.lst (VL (d9 acc)++VL (d9 (pN n.node++cv n (L.drop (i+1))))))=H8 at QW ⊢;apply⟨fq QW.ha,_,QW.ha,?_,?_⟩
     .rw[DG,AF]
      have:i<L.length:=by
       by_cases VQ:i<L.length
       .exact VQ
       .rw[DC (by nofun)]at hn;cases hn
      exact mH (by lia)
     ext;apply⟨_,rfl,n::o,_,H6,QW.stack RI Em Gh (n::o) (λm hm=>?_) _ (by simp),?_,by simp;nofun,λ_=>?_⟩
     .rcases AG.mp hm with e|e
      .rw[e];exact⟨Yo,hk⟩
      .exact hI.ol m e
     .exact cu
     .by_cases Ey:0<i
      .obtain⟨o',e⟩:=l6 Ey;exact⟨n::o',by rw[e];rfl⟩
      .have Ey:i=0:=by lia
       rw[Ey]at hn Dx;rw[eL]at hn;have:n0=n:=AH hn;have:o=[]:=C4.mp (by lia);subst this;subst n0;exact⟨[],rfl⟩
    .rw[iN hk]at cu
     have Ey:0<i:=by
      by_cases Ey:0<i
      .exact Ey
      .have Ey:i=0:=by lia
       rw[Ey]at hn;rw[eL]at hn;have e:n0=n:=AH hn;obtain⟨n1,r1,Nj,gf,_⟩:=hR.top;rw[Nj]at eL;injection eL with a b;rw[<-e,<-a]at hk;exact absurd gf hk
     obtain⟨o',eo⟩:=l6 Ey;obtain⟨h1,h2,h3⟩:=(cw hI.tree).lf hk;apply⟨_,_,_,hI.sub _ _ h1,g.cl_Leaf,g.na_Leaf_kind,_,rfl,?_⟩;ext;apply nN (by lia) ?_;apply⟨_,_,_,hI.sub _ _ h1,g.cl_Leaf,g.na_Leaf_kind,_,rfl,?_⟩;ext
     by_cases QO:n.kind=2
     .refine rj (by lia) ?_;rw[iP QO,<-AZ]at cu
      obtain⟨m,o2,SM⟩:∃m o2,o=m::o2:=by
       cases o with
       |nil=>exact absurd eo (by simp)
       |cons m o2=>exact⟨m,o2,rfl⟩
      have etop:Lj o=m.tg.name:=by rw[SM];rfl
      rw[etop]at cu;have Kw:=gB acc _ _ cu;have hm:=hI.ol m (by rw[SM];simp);obtain⟨km,pJ⟩:=hI.tree.nodes.mem hm.1;obtain⟨m1,m2,m3⟩:=pJ.el hm.2;have zd:=hI.ha;rw[SM,AI,BQ]at zd;apply⟨fq hI.hs,_,aL.of zd,_,jr _ _,n,m,rfl,hI.sub _ _ h1,hI.sub _ _ h2,hI.sub _ _ m1,by lia,λp H7 hp s7 e7=>?_⟩;have zf:=hI.same s7;apply⟨_,_,zf.hs,e7,?_,?_⟩
      .rw[ax,ax];exact bf (by lia)
      ext;exact⟨_,rfl,o,_,H1,zf.send Nw Em iY _,cu,by nofun,λ_=>⟨o',eo⟩⟩
     .refine nN (by lia) ?_;rw[iN QO,<-AZ]at cu;have Kw:=gB acc _ _ cu;have QE:=i9 ([60,33,45,45]++n.bF++[45,45,62]);have XN:([60,33,45,45]++n.bF++[45,45,62]).length=7+n.bF.length:=by simp;lia
      apply⟨fq hI.hs,?_⟩;apply d6 [60,33,45,45] nofun (by decide+kernel) λp1 H6 nQ s6 e6=>?_;have yV:=hI.same s6;apply⟨_,_,_,yV.sub _ _ h1,g.cl_Leaf,g.na_Leaf_points,_,rfl,?_⟩;apply⟨p1,n.li,_,_,rfl,rfl,e6,yV.sub _ _ h2,?_,λp2 eK=>?_⟩
      .rw[ax,ax];exact bf (by simp;lia)
      have s7:=s6.trans (aj.upd (o:= .lst (VL [60,33,45,45]++VL n.bF)) eK);have e7:upd H6 p2 (.lst (VL [60,33,45,45]++VL n.bF)) p2=some (.lst (VL ([60,33,45,45]++n.bF))):=by rw[aa,bh [60,33,45,45]]
      generalize upd H6 p2 (.lst (VL [60,33,45,45]++VL n.bF))=H7 at s7 e7 ⊢;apply d6 [45,45,62] nofun (by decide+kernel) λp3 H8 ro s8 e8=>?_;apply⟨p2,p3,_,_,rfl,rfl,s8 _ _ e7,e8,?_,λp4 rn=>?_⟩
      .rw[ax,ax];exact bf (by simp;lia)
      have s9:=(s7.trans s8).trans (aj.upd (o:= .lst (VL ([60,33,45,45]++n.bF)++VL [45,45,62])) rn);have e9:upd H8 p4 (.lst (VL ([60,33,45,45]++n.bF)++VL [45,45,62])) p4=some (.lst (VL ([60,33,45,45]++n.bF++[45,45,62]))):=by rw[aa,bh ([60,33,45,45]++n.bF)]
      generalize upd H8 p4 (.lst (VL ([60,33,45,45]++n.bF)++VL [45,45,62]))=H9 at s9 e9 ⊢;apply⟨p4,_,rfl,aL.of e9,bf (by lia),λp5 WJ Jd Dq Rc=>?_⟩;have O4:=hI.same (s9.trans Dq);apply⟨_,_,O4.hs,Rc,?_,?_⟩
      .rw[ax,ax];exact bf (by lia)
      ext;exact⟨_,rfl,o,_,H1,O4.send Nw Em iY _,cu,by nofun,λ_=>⟨o',eo⟩⟩
   clear Jm;apply⟨λm σ H'=>∃o acc H1,SE σ [some (V.ref n0.a),some (V.ref sent),some (V.ref around),some (V.ref n.a)]/\g5 g L q sent around H H1 H' o acc/\acc++pw o (n::L.drop (i+1))=pw [] L/\m=o.length/\o.length<=i/\(0<i->∃o',o=o'++[n0]), ⟨_,o,acc,H1,rfl,hI,cu,rfl,Dx,l6⟩,?_⟩;clear hI cu Dx l6;rintro m σ H5 ⟨o,acc,H1,rfl,hI,cu,rfl,Dx,l6⟩;ext;apply⟨_,.inl ⟨_,aL.of hI.ha,rfl⟩,?_⟩;cases o with
   |nil=>
    apply nN (by simp) ?_;exact rest [] acc H1 H5 hI cu Dx l6 (λm o' e=>by cases e)
   |cons m o=>
    apply rj (by simp) ?_;have hm:=hI.ol m (by simp);obtain⟨km,pJ⟩:=hI.tree.nodes.mem hm.1;obtain⟨m1,m2,m3⟩:=pJ.el hm.2;have zd:=hI.ha;rw[AI,BQ]at zd;obtain⟨Cn,dn,fn,T6,Ud,T7,T8⟩:=vy (cw hI.tree);apply⟨_,aL.of zd,_,jr _ _,_,_,_,hI.sub _ _ m1,g.cl_Element,g.na_Element_depth,_,rfl,_,_,_,hI.sub _ _ T6,Ud,T7,_,T8,?_⟩;ext
    by_cases NR:n.depth<=m.depth
    .refine rj (by lia) ⟨_,λ_ _ h=>h,?_⟩;rw[Mh NR,<-AZ]at cu;have Kw:=gB acc _ _ cu;apply⟨fq hI.hs,fq zd,_,zd,V.ref m.a,by simp,?_⟩;rw[EU];have yV:=hI.stack RI Em Gh o (λm hm=>hI.ol m (by simp[hm])) ((o.map λm=>V.ref m.a).reverse) rfl;generalize upd H5 around (.lst ((o.map λm=>V.ref m.a).reverse))=H6 at yV ⊢;apply⟨m,rfl,yV.sub _ _ m1,m3.mono yV.sub,by lia,λp H7 hp s7 e7=>?_⟩;have zf:=yV.same s7;ext;apply⟨_,zf.hs,_,e7,?_,?_⟩
     .rw[ax,ax];exact bf (by lia)
     apply⟨_,CO _,rfl,o,acc++eV m.tg.name,H1,zf.send Nw Em iY (eV m.tg.name),cu,rfl,by simp at Dx;nofun,λh=>?_⟩;obtain⟨o',eo⟩:=l6 h;cases o' with
     |nil=>
      exfalso;injection eo with e1 _;obtain⟨n1,r1,Nj,gf,Ji,mn⟩:=hR.top;have Rf:n0=n1/\r0=r1:=by rw[Nj]at eL;injection eL with a b;exact⟨a.symm,b.symm⟩
      have:n∈r1:=by
       have h2:L[i]? =some n:=hn;rw[Nj]at h2;obtain⟨j,rfl⟩:∃j,i=j+1:=⟨i-1,by lia⟩
       exact AO (by simpa using h2)
      have:=mn n this;rw[e1,Rf.1,Ji]at NR;lia
     |cons y o'=>
      injection eo with _ e2;exact⟨o',e2⟩
    .refine nN (by lia) ?_;exact rest (m::o) acc H1 H5 hI cu Dx l6 (λm' o' e=>by injection e with a b;rw[<-a];nofun)
 .obtain⟨v,o,acc,H1,rfl,hI,cu,Dx,l6⟩:=h;rw[AF,AQ (AE _)]at cu;cbv;apply⟨λm σ H'=>∃o acc H1,SE σ [some (V.ref n0.a),some (V.ref sent),some (V.ref around),v]/\g5 g L q sent around H H1 H' o acc/\acc++pw o []=pw [] L/\m=o.length, ⟨_,o,acc,H1,rfl,hI,cu,rfl⟩,?_⟩;clear hI cu Dx l6;rintro m σ H5 ⟨o,acc,H1,rfl,hI,cu,rfl⟩;ext;apply⟨_,.inl ⟨_,aL.of hI.ha,rfl⟩,?_⟩;cases o with
  |nil=>
   apply nN (by simp) ?_;have cu:acc++[]=pw [] L:=cu;rw[A6]at cu;exact k sent H5 iY (hI.tree.mono hI.sub) hI.kp (by rw[<-cu];exact hI.hs)
  |cons m o=>
   apply rj (by simp) ⟨_,λ_ _ h=>h,?_⟩;have hm:=hI.ol m (by simp);obtain⟨km,pJ⟩:=hI.tree.nodes.mem hm.1;obtain⟨m1,m2,m3⟩:=pJ.el hm.2;have zd:=hI.ha;rw[AI,BQ]at zd;rw[Mi,<-AZ]at cu;have Kw:=gB acc _ _ cu;apply⟨fq hI.hs,fq zd,_,zd,V.ref m.a,by simp,?_⟩;rw[EU];have yV:=hI.stack RI Em Gh o (λm hm=>hI.ol m (by simp[hm])) ((o.map λm=>V.ref m.a).reverse) rfl;generalize upd H5 around (.lst ((o.map λm=>V.ref m.a).reverse))=H6 at yV ⊢;apply⟨m,rfl,yV.sub _ _ m1,m3.mono yV.sub,by lia,λp H7 hp s7 e7=>?_⟩;have zf:=yV.same s7;ext;apply⟨_,zf.hs,_,e7,?_,?_⟩
   .rw[ax,ax];exact bf (by lia)
   exact⟨_,CO _,rfl,o,acc++eV m.tg.name,H1,zf.send Nw Em iY (eV m.tg.name),cu,rfl⟩
def eR (c:Addr) (h:V):List (Str×V):=[("came",.ref c), ("html",h)]
theorem jw {C dx c:Addr} {h:V}:¬gs (.ins C dx (eR c h)):=by
 rintro⟨C',Fi,nm,Nt,d',sh,tx,wr,e⟩;injection e with _ _ e;unfold eR dw at e;injection e with e _;injection e with e _;exact absurd e nofun
theorem kE {o:Obj} {u:HO}:¬gs (.eM o u):=by
 rintro⟨C',Fi,nm,Nt,d',sh,tx,wr,e⟩;cases e
def we (o:HO):Prop:=(∃C dx d t wd i,o= .ins C dx (hG d t wd i))\/(∃C dx k d i,o= .ins C dx (Dt k d i))\/gs o\/(∃xs,o= .lst xs)\/∃aC,o= .dT aC
theorem Cd {C dx c:Addr} {h:V}:¬we (.ins C dx (eR c h)):=by
 rintro(⟨C',Fi,d,t,wd,i,e⟩|⟨C',Fi,k,d,i,e⟩|e|⟨xs,e⟩|⟨aC,e⟩)
 .injection e with _ _ e;unfold eR hG at e;injection e with e _;injection e with e _;exact absurd e nofun
 .injection e with _ _ e;unfold eR Dt at e;injection e with e _;injection e with e _;exact absurd e nofun
 .exact jw e
 .cases e
 .cases e
theorem Ic {ob:Obj} {u:HO}:¬we (.eM ob u):=by
 rintro(⟨C',Fi,d,t,wd,i,e⟩|⟨C',Fi,k,d,i,e⟩|e|⟨xs,e⟩|⟨aC,e⟩)
 .cases e
 .cases e
 .exact kE e
 .cases e
 .cases e
theorem de.PB {L:List ND} (k:∀b o,H b=some o->we o->H' b=some o) (h:de g H L):de g H' L:=by
 apply⟨bP.map (λm hm kk hM=>⟨λJf=>?_,λJf=>?_⟩) h.nodes,h.wf,h.top,h.len⟩
 .obtain⟨a,b,c⟩:=hM.el Jf;apply⟨k _ _ a (.inl ⟨_,_,_,_,_,_,rfl⟩),k _ _ b (.inr (.inr (.inr (.inl ⟨_,rfl⟩)))),?_⟩;obtain⟨⟨wr,h1,hw⟩,h2,ls,e1,hd,hv⟩:=c;apply⟨⟨wr,k _ _ h1 (.inr (.inr (.inl ⟨_,_,_,_,_,_,_,_,rfl⟩))),?_⟩,k _ _ h2 (.inr (.inr (.inr (.inl ⟨_,rfl⟩)))),ls,e1,k _ _ hd (.inr (.inr (.inr (.inr ⟨_,rfl⟩)))),λx hx=>k _ _ (hv x hx) (.inr (.inr (.inr (.inl ⟨_,rfl⟩))))⟩;rcases hw with q|⟨l,q,r⟩
  .exact .inl q
  .exact .inr ⟨l,q,k _ _ r (.inr (.inr (.inr (.inl ⟨_,rfl⟩))))⟩
 .obtain⟨a,b,c⟩:=hM.lf Jf;exact⟨k _ _ a (.inr (.inl ⟨_,_,_,_,_,rfl⟩)),k _ _ b (.inr (.inr (.inr (.inl ⟨_,rfl⟩)))),c⟩
structure Kept (g:G w K mg) (H:Hp) (h:V) (b:List Nat) (L:List ND):Prop where
 at_:∃n r,L=n::r/\h= .ref n.a
 tree:de g H L
 txt:∀m∈L,m.kind=2->m.bF≠[]
 nodes:L.map ND.node=rb b
 wr:pw [] L=SX [] false (rb b)
structure bz (g:G w K mg) (H:Hp) (p dx c:Addr) (h:V) (b:List Nat):Prop where
 ob:H p=some (.ins g.k_Page dx (eR c h))
 came:H c=some (.lst (VL b))
 low:∀x∈b,x<256
 len:b.length<=70000
 tree:h= .aY\/∃L,Kept g H h b L
def Reads:Prop:=∀b:List Nat,b.length<=70000->(∀x∈b,x<256)->∃J:a8->Aa->Prop,SV J/\J {} (Rp b)/\(Rp b).length<=900000/\(∀c∈Rp b,c<1200000)/\
 ∀(g:G w K mg) (F:Addr->Prop) (H:Hp) (z:aV) (s:a8),J s []->aA g F H z->Rel z s->z.all.length<=900000/\z.all.map ND.node=rb b/\pw [] z.all=SX [] false (rb b)
theorem Kept.of {z:aV} {b:List Nat} (T:aA g F H z) (h1:z.all.length<=900000) (h2:z.all.map ND.node=rb b) (h3:pw [] z.all=SX [] false (rb b)):Kept g H (.ref z.eh.a) b z.all:=by
 apply⟨⟨_,_,rfl,rfl⟩, ⟨bP.of T.nodes,T.wf, ⟨_,_,rfl,T.kh.1,T.kh.2.1,λm hm=>?_⟩,h1⟩,λm hm hk=>?_,h2,h3⟩
 .have h:=T.low;rcases AG.mp hm with e|e
  .rw[e,T.kd.2.1];decide
  .rcases AU.mp e with e|e
   .have:=h m (by simp[e]);nofun
   .rcases AG.mp e with e|e
    .rw[e,T.kb.2.1];decide
    .have:=h m (by simp[e]);omega
 .have h:=T.txt;rcases AG.mp hm with e|hm
  .rw[e,T.kh.1]at hk;cases hk
  .rcases AG.mp hm with e|e
   .rw[e,T.kd.1]at hk;cases hk
   .rcases AU.mp e with e|e
    .exact h m (by simp[e]) hk
    .rcases AG.mp e with e|e
     .rw[e,T.kb.1]at hk;cases hk
     .exact h m (by simp[e]) hk
inductive sp_Page_init (g:G w K mg) (vs:List V) (H:Hp) (Q:VK) (_:XK):Prop
 |i (x dx:Addr) (_:vs=[.ref x]) (_:H x=some (.ins g.k_Page dx [])) (_:∀(c:Addr) (H':Hp),H c=none->H' x=some (.ins g.k_Page dx (eR c .aY))->H' c=some (.lst [])->(∀b o,H b=some o->b≠x->H' b=some o)->Q .aY H')
theorem ok_Page_init (g:G w K mg):aI P w K mg base bO 1 g.Page_init.f g.Page_init.fd ["self"] (sp_Page_init g):=by
 apply g.Page_init.fn.bW sc_Page_init λvs H Q E h=>?_;obtain⟨x,dx,rfl,hx,k⟩:=h;apply⟨rfl,λ_ _ _ _ hr=>?_⟩;apply⟨_,%[aT (pv 0) (aM %[|a]) rfl,aT (pv 0) (fT) rfl|b],?_⟩;cbv;ext;apply⟨A0 _,λc hc=>?_⟩;have En:x≠c:=af hx hc;apply⟨_,_,_, (by rw[ae En];exact hx),g.cl_Page,g.na_Page_came,cq rfl,?_⟩;ext;apply⟨_,_,_,aa,g.cl_Page,g.na_Page_html,cq rfl,?_⟩;apply k c _ hc aa (by rw[ae En.symm,ae En.symm,aa]) λb o e n=>?_;rw[ae n,ae n,ae (af e hc)];exact e
def oA (H H':Hp):Prop:=∀b o u,H b=some (.eM o u)->H' b=some (.eM o u)
inductive sp_Page_begin (g:G w K mg) (vs:List V) (H:Hp) (Q:VK) (_:XK):Prop
 |i (p dx c:Addr) (h:V) (b:List Nat) (_:vs=[.ref p]) (_:bz g H p dx c h b) (_:∀(q c':Addr) (H':Hp),H q=none->bz g H' p dx c' .aY []->oA H H'->H' q=some (.lst [V.int 0])->q≠c'->Q (.ref q) H')
theorem ok_Page_begin (g:G w K mg):aI P w K mg base bO 1 g.Page_begin.f g.Page_begin.fd ["self"] (sp_Page_begin g):=by
 apply g.Page_begin.fn.bW sc_Page_begin λvs H Q E h=>?_;obtain⟨p,dx,c,h',b,rfl,hP,k⟩:=h;apply⟨rfl,λ_ _ _ _ hr=>?_⟩;apply⟨_,%[aT (pv 0) (aM %[|a]) rfl,aT (pv 0) (fT) rfl,ao (aM %[ag|a])|b],?_⟩;cbv;ext;apply⟨A0 _,λc' hc=>?_⟩;have hx:=hP.ob;have En:p≠c':=af hx hc;apply⟨_,_,_, (by rw[ae En];exact hx),g.cl_Page,g.na_Page_came,cq rfl,?_⟩;cbv;ext;apply⟨_,_,_,aa,g.cl_Page,g.na_Page_html,cq rfl,?_⟩;apply⟨by decide,λq hq=>?_⟩;have ep:bU (Str.ofString "html") V.aY (bU (Str.ofString "came") (V.ref c') (eR c h'))=eR c' .aY:=rfl;rw[ep]at hq ⊢;have MZ:p≠q:=af aa hq;have Ku:c'≠q:=λz=>by rw[<-z,ae En.symm,ae En.symm,aa]at hq;cases hq
 have M8:H q=none:=by
  cases z:H q with
  |none=>rfl
  |some o=>rw[ae MZ.symm,ae MZ.symm,ae Ku.symm,z]at hq;cases hq
 apply k q c' _ M8 ⟨by rw[ae MZ,aa],by rw[ae Ku,ae En.symm,ae En.symm,aa];rfl,by simp,A0 _,.inl rfl⟩ (λb o u e=>?_) aa Ku.symm;have nb:=aE e hx (by intro z;cases z);rw[ae (af e M8),ae nb,ae nb,ae (af e hc)];exact e
theorem Kept.mono {h:V} {b:List Nat} {L:List ND} (k:Kept g H h b L) (s:∀b o,H b=some o->we o->H' b=some o):Kept g H' h b L:=
 ⟨k.at_,k.tree.PB s,k.txt,k.nodes,k.wr⟩
theorem bz.same {p dx c:Addr} {h:V} {b:List Nat} (k:bz g H p dx c h b) (s:aj H H'):bz g H' p dx c h b:=
 ⟨s _ _ k.ob,s _ _ k.came,k.low,k.len,k.tree.imp id λ⟨L,hL⟩=>⟨L,hL.mono λb o e _=>s b o e⟩⟩
theorem oA.of (s:aj H H'):oA H H':=λ_ _ _ e=>s _ _ e
theorem oA.trans {H H1 H':Hp} (a:oA H H1) (b:oA H1 H'):oA H H':=λc o u e=>b c o u (a c o u e)
inductive sp_Page_feed (g:G w K mg) (vs:List V) (H:Hp) (Q:VK) (_:XK):Prop
 |i (p dx c:Addr) (h:V) (b:List Nat) (m:Addr) (t:List Nat) (_:vs=[.ref p,.ref m]) (_:bz g H p dx c h b) (_:H m=some (.lst (VL t))) (_:(∀x∈t,x<256)) (_:∀(q:Addr) (H':Hp),H q=none->oA H H'->(65536<b.length+t.length->bz g H' p dx c h b->H' q=some (.lst [V.int (-1)])->Q (.ref q) H')/\(b.length+t.length<=65536->bz g H' p dx c .aY (b++t)->H' q=some (.lst [V.int 0])->q≠c->Q (.ref q) H'))
theorem ok_Page_feed (g:G w K mg):aI P w K mg base bO 1 g.Page_feed.f g.Page_feed.fd ["self","more"] (sp_Page_feed g):=by
 apply g.Page_feed.fn.bW sc_Page_feed λvs H Q E h=>?_;obtain⟨p,dx,c,h',b,m,t,rfl,hP,hm,zE,k⟩:=h;apply⟨rfl,λ_ _ _ _ hr=>?_⟩;apply⟨_,%[aw (binrel% op_gt (ay op_add (unop% L.n (ak (pv 0) rfl)) (unop% L.n (pv 1))) (g.c_MOST_BYTES.pe rfl)) %[ao (aM %[dM cG (ag)|a])|b] %[|b],au (binop% B.extend.bp (ak (pv 0) rfl) %[pv 1|a]),aT (pv 0) (fT) rfl,ao (aM %[ag|a])|b],?_⟩;have hx:=hP.ob;have hc:=hP.came;apply g7 λR hR=>?_
 have rest:b.length+t.length<=65536->R [some (.ref p),some (.ref m)] H:=by
  intro hle;subst hR;cbv;ext;apply⟨_,_,_,hx,g.cl_Page,g.na_Page_came,_,rfl,?_⟩;apply⟨fq hc,_,_,hc,hm,?_,?_⟩
  .rw[ax,ax];exact bf (by nofun)
  have Ny:p≠c:=aE hx hc (by intro z;cases z);cbv;ext;apply⟨_,_,_, (by rw[ae Ny];exact hx),g.cl_Page,g.na_Page_html,cq rfl,by decide,λq hq=>?_⟩;have ep:bU (Str.ofString "html") V.aY (eR c h')=eR c .aY:=rfl;rw[ep]at hq ⊢;have MZ:p≠q:=af aa hq;have Ku:c≠q:=λz=>by rw[<-z,ae Ny.symm,aa]at hq;cases hq
  have M8:H q=none:=by
   cases z:H q with
   |none=>rfl
   |some o=>rw[ae MZ.symm,ae Ku.symm,z]at hq;cases hq
  apply(k q _ M8 (λb o u e=>?_)).2 hle ⟨by rw[ae MZ,aa],by rw[ae Ku,ae Ny.symm,aa,bh],λx hx=>?_,by rw[AB];nofun,.inl rfl⟩ aa Ku.symm
  .rw[ae (af e M8),ae (aE e hx (by intro z;cases z)),ae (aE e hc (by intro z;cases z))];exact e
  .rcases AU.mp hx with z|z
   .exact hP.low x z
   .exact zE x z
 clear hR;ext;apply⟨_,_,_,hx,g.cl_Page,g.na_Page_came,_,rfl,?_⟩;apply⟨_,.inl (aL.of hc),_,.inl (aL.of hm),?_⟩;rw[ax,ax];ext;apply bb (λh1=>?_) (λh1=>?_)
 .refine⟨by decide,λq hq=>?_⟩;exact(k q _ hq (oA.of (aj.upd hq))).1 (by lia) (hP.same (aj.upd hq)) aa
 .exact rest (by lia)
inductive sp_Page_root (g:G w K mg) (vs:List V) (H:Hp) (Q:VK) (_:XK):Prop
 |i (p dx c:Addr) (h:V) (b:List Nat) (_:vs=[.ref p]) (_:bz g H p dx c h b) (_:Reads (w:=w) (K:=K) (mg:=mg)) (_:∀(H':Hp) (h':V) (L:List ND),bz g H' p dx c h' b->Kept g H' h' b L->oA H H'->(∀z,H' z=none->H z=none)->Q h' H')
theorem ok_Page_root (g:G w K mg):aI P w K mg base bO 14 g.Page_root.f g.Page_root.fd ["self"] (sp_Page_root g):=by
 apply g.Page_root.fn.bW sc_Page_root λvs H Q E h=>?_;obtain⟨p,dx,c,h',b,rfl,hP,Ed,k⟩:=h;apply⟨rfl,λ_ _ _ _ hr=>?_⟩;apply⟨_,%[aw (cD op_isN (ak (pv 0) rfl) (fT) (dk _)) %[aT (pv 0) (unop% read_text %[unop% decoded %[ak (pv 0) rfl|a]|a]) rfl|b] %[|b],ao (ak (pv 0) rfl)|b],?_⟩;have hx:=hP.ob;have hc:=hP.came;apply g7 λR hR=>?_
 have rest:∀(H':Hp) (h':V) (L:List ND),bz g H' p dx c h' b->Kept g H' h' b L->oA H H'->(∀z,H' z=none->H z=none)->R [some (.ref p)] H':=by
  intro H' h' L h1 h2 h3 h4;subst hR;exact⟨_,dx,_,h1.ob,g.cl_Page,g.na_Page_html,_,rfl,k H' h' L h1 h2 h3 h4⟩
 clear hR;ext;apply⟨_,_,_,hx,g.cl_Page,g.na_Page_html,_,rfl,?_⟩;rcases hP.tree with e|⟨L,hL⟩
 .subst e;ext;apply⟨_,_,_,hx,g.cl_Page,g.na_Page_came,_,rfl,?_⟩;apply⟨c,b,rfl,aL.of hc,by have:=hP.len;nofun,λx hx=>BB (hP.low x hx) nofun,λa H1 ha s1 YX=>?_⟩;obtain⟨J,hJ,So,hl,zE,Gf⟩:=Ed b hP.len hP.low;apply⟨a,_,J,rfl,YX,hl,zE,hJ,So,λF2 H2 z s hT Uy Y4 s2 QX=>?_⟩;obtain⟨e1,e2,e3⟩:=Gf g F2 H2 z s Y4 hT Uy;have hK:=Kept.of hT e1 e2 e3;have uj:=s1.trans s2;apply⟨_,_,_,uj _ _ hx,g.cl_Page,g.na_Page_html,cq rfl,?_⟩;have ep:bU (Str.ofString "html") (V.ref z.eh.a) (eR c .aY)=eR c (.ref z.eh.a):=rfl;rw[ep];have V3:=hK.mono (H':=upd H2 p (.ins g.k_Page dx (eR c (.ref z.eh.a)))) λb o e ho=>by rw[ae (λq=>by rw[q,uj _ _ hx]at e;cases e;exact Cd ho)];exact e
  have Ny:c≠p:=aE hc hx (by intro z;cases z);apply rest _ _ _ ⟨aa,by rw[ae Ny];exact uj _ _ hc,hP.low,hP.len,.inr ⟨_,V3⟩⟩ V3 (λb o u e=>?_) (λy hy=>?_)
  .rw[ae (aE e hx (by intro z;cases z))];exact uj _ _ e
  .refine uj.free ?_
   by_cases q:y=p
   .rw[q,aa]at hy;cases hy
   .rw[ae q]at hy;exact hy
 .obtain⟨n,r,_,e⟩:=hL.at_;rw[e];ext;rw[e]at hL hP;exact rest H _ L hP hL (λ_ _ _ e=>e) (λ_ h=>h)
def told (b:List Nat):List Nat:=(rb b).length::(rb b).flatMap Ej
def sent (b:List Nat):List Nat:=(Le (rb b)).length::Le (rb b)
inductive sp_Page_tell (g:G w K mg) (vs:List V) (H:Hp) (Q:VK) (_:XK):Prop
 |i (p dx c:Addr) (h:V) (b:List Nat) (_:vs=[.ref p]) (_:bz g H p dx c h b) (_:Reads (w:=w) (K:=K) (mg:=mg)) (_:(told b).length<=10000000) (_:∀(q:Addr) (H':Hp) (h':V),bz g H' p dx c h' b->oA H H'->H' q=some (.lst (VL (told b)))->Q (.ref q) H')
theorem ok_Page_tell (g:G w K mg):aI P w K mg base bO 15 g.Page_tell.f g.Page_tell.fd ["self"] (sp_Page_tell g):=by
 apply g.Page_tell.fn.bW sc_Page_tell λvs H Q E h=>?_;obtain⟨p,dx,c,h',b,rfl,hP,Ed,hz,k⟩:=h;apply⟨rfl,λ_ _ _ _ hr=>?_⟩;apply⟨_,%[ao (unop% told_tree %[unop% M.Page_root (pv 0)|a])|b],?_⟩;ext;apply⟨_,_,hP.ob,rfl,?_⟩;apply⟨p,dx,c,h',b,rfl,hP,Ed,λH1 h1 L gg yU f1 n1=>?_⟩;obtain⟨n,r,eL,rfl⟩:=yU.at_;have Wm:dg L=(rb b).flatMap Ej:=by rw[<-yU.nodes,HU];rfl
 have Zu:L.length=(rb b).length:=by rw[<-yU.nodes,AF]
 have QE:(told b).length=((rb b).flatMap Ej).length+1:=rfl;apply⟨L,n,r,rfl,yU.tree,eL,by rw[Wm];nofun,λq H2 hq s2 e2=>?_⟩;rw[Wm,Zu]at e2;exact k q H2 _ (gg.same s2) (f1.trans (oA.of s2)) e2
inductive sp_Page_write (g:G w K mg) (vs:List V) (H:Hp) (Q:VK) (_:XK):Prop
 |i (p dx c:Addr) (h:V) (b:List Nat) (_:vs=[.ref p]) (_:bz g H p dx c h b) (_:Reads (w:=w) (K:=K) (mg:=mg)) (_:(sent b).length<=10000000) (_:∀(q:Addr) (H':Hp) (h':V),bz g H' p dx c h' b->oA H H'->H' q=some (.lst (VL (sent b)))->Q (.ref q) H')
theorem ok_Page_write (g:G w K mg):aI P w K mg base bO 15 g.Page_write.f g.Page_write.fd ["self"] (sp_Page_write g):=by
 apply g.Page_write.fn.bW sc_Page_write λvs H Q E h=>?_;obtain⟨p,dx,c,h',b,rfl,hP,Ed,hz,k⟩:=h;apply⟨rfl,λ_ _ _ _ hr=>?_⟩;apply⟨_,%[leftact% Page_write 1 (unop% written_tree %[unop% M.Page_root (pv 0)|a]),ao (ay op_cat (aM %[unop% L.n (pv 1)|a]) (pv 1))|b],?_⟩;cbv;ext;apply⟨_,_,hP.ob,rfl,?_⟩;apply⟨p,dx,c,h',b,rfl,hP,Ed,λH1 h1 L gg yU f1 n1=>?_⟩;obtain⟨n,r,eL,rfl⟩:=yU.at_;have ew:d9 (pw [] L)=Le (rb b):=by rw[yU.wr];rfl
 have QE:(sent b).length=(Le (rb b)).length+1:=rfl;apply⟨L,n,r,rfl,yU.tree,eL,yU.txt,by rw[ew];nofun,λq H2 hq c9 lD e2=>?_⟩;rw[ew]at e2;ext;apply⟨_,.inl (aL.of e2),by decide,λq2 pI=>?_⟩;rw[ax];have Xs:q≠q2:=af e2 pI;apply⟨q2,q,_,_,rfl,rfl,aa,by rw[ae Xs];exact e2,?_,λq3 yQ=>?_⟩
 .rw[ax];exact bf (by simp;lia)
 have s3:=(aj.upd (o:= .lst [V.int (Le (rb b)).length]) pI).trans (aj.upd (o:= .lst ([V.int (Le (rb b)).length]++VL (Le (rb b)))) yQ);have lF:bz g H2 p dx c (.ref n.a) b:=⟨lD _ _ gg.ob jw,lD _ _ gg.came bR,gg.low,gg.len,.inr ⟨L, ⟨_,_,eL,rfl⟩,c9,yU.txt,yU.nodes,yU.wr⟩⟩
 exact k q3 _ _ (lF.same s3) (f1.trans λb o u e=>s3 _ _ (lD _ _ e kE)) aa
def iL (l:List Int):List V:=l.map V.int
theorem mF (l:List Int):(iL l).length=l.length:=AF ..
theorem MA (a b:List Int):iL (a++b)=iL a++iL b:=AL ..
theorem v7 {l:List Int} {i:Nat} {x:Int} (h:l[i]? =some x):qZ (iL l) (i:Int)=some (V.int x):=dG (by unfold iL;rw[AV,h];rfl)
theorem Mz (l:List Int) (a b:Nat):cb (iL l) (some (a:Int)) (some (b:Int))=iL ((l.drop a).take (b-a)):=by
 rw[xh];unfold iL;rw[CJ,CT]
def nI (t:List Nat):List Int:=t.map λ(n:Nat)=>(n:Int)
theorem jJ (t:List Nat):(nI t).length=t.length:=AF ..
theorem zU (t:List Nat):iL (nI t)=VL t:=by unfold iL nI VL;rw[BR];rfl
theorem Ht {t:List Int} (h:∀x∈t,0<=x):nI (t.map F7)=t:=by
 unfold nI;rw[BR];exact(E4 λx hx=>D4 (h x hx)).trans (J7 _)
inductive Run:List Nat->List Int->List Int->Prop
 |nil (b:List Nat):Run b [] []
 |begin {b:List Nat} {r out:List Int}:Run [] r out->Run b (0::r) (1::0::out)
 |feed {b:List Nat} {n:Int} {t r out:List Int}:(n=(t.length:Int))->(∀x∈t,0<=x/\x<256)->b.length+t.length<=65536->Run (b++t.map F7) r out->Run b (1::n::(t++r)) (1::0::out)
 |z8 {b:List Nat} {n:Int} {t r out:List Int}:(n=(t.length:Int))->(∀x∈t,0<=x/\x<256)->65536<b.length+t.length->Run b r out->Run b (1::n::(t++r)) (1::(-1)::out)
 |tree {b:List Nat} {r out:List Int}:Run b r out->Run b (2::r) (((told b).length:Int)::(nI (told b)++out))
 |write {b:List Nat} {r out:List Int}:Run b r out->Run b (3::r) (((sent b).length:Int)::(nI (sent b)++out))
theorem qB {l r:List Int} {q:Nat} {x:Int} (h:l.drop q=x::r):l[q]? =some x/\l.drop (q+1)=r:=by
 constructor
 .have:=congrArg (·[0]?) h;simpa using this
 .have:=congrArg (DR 1) h;rw[A7]at this;simpa [JW]using this
def uv (K:AD) (H:Hp) (a:Addr) (xs:List V):Prop:=(∃o,H a=some (.eM o (.lst xs)))\/∃o aP n,C2 a K=some o/\o.cls=Value.type "list"/\o.dict=none/\o.data=Data.seq aP n/\aP.size<=sizeLine/\Vals xs aP.toList
theorem uv.sq {a:Addr} {xs:List V} (h:uv K H a xs):aL K H a xs:=by
 rcases h with⟨o,h⟩|h
 .exact .inl (.inr ⟨o,h⟩)
 .exact .inr h
theorem uv.keep {a:Addr} {xs:List V} (h:uv K H a xs) (f:oA H H'):uv K H' a xs:=by
 rcases h with⟨o,h⟩|h
 .exact .inl ⟨o,f _ _ _ h⟩
 .exact .inr h
inductive sp_answer_at (g:G w K mg) (vs:List V) (H:Hp) (Q:VK) (_:XK):Prop
 |i (p dx c:Addr) (h:V) (b:List Nat) (a:Addr) (l:List Int) (q:Nat) (x:Int) (r out:List Int) (_:vs=[.ref p,.ref a,.int q]) (_:bz g H p dx c h b) (_:uv K H a (iL l)) (_:l.drop q=x::r) (_:Run b (x::r) out) (_:out.length<=10000000) (_:Reads (w:=w) (K:=K) (mg:=mg)) (_:∀(z:Addr) (H':Hp) (c':Addr) (h':V) (b':List Nat) (nT xG:List Int) (q':Nat),bz g H' p dx c' h' b'->oA H H'->H' z=some (.lst (iL nT))->out=(nT.length:Int)::(nT++xG)->Run b' (l.drop q') xG->(x=1->∃n:Nat,l[q+1]? =some (n:Int)/\q'=q+2+n)->(x≠1->q'=q+1)->Q (.ref z) H')
theorem ok_answer_at (g:G w K mg):aI P w K mg base bO 16 g.answer_at.f g.answer_at.fd ["page","calls","place"] (sp_answer_at g):=by
 apply g.answer_at.fn.bW sc_answer_at λvs H Q E h=>?_;obtain⟨p,dx,c,h',b,a,l,q,x,r,out,rfl,hP,hA,hd,rG,hz,Ed,k⟩:=h;apply⟨rfl,λ_ _ _ _ hr=>?_⟩;apply⟨_,%[aw (binrel% op_eq (rightact% aN (pv 1) (pv 2)) (g.c_BEGIN.pe rfl)) %[ao (unop% M.Page_begin (pv 0))|b] %[|b],aw (binrel% op_eq (rightact% aN (pv 1) (pv 2)) (g.c_FEED.pe rfl)) %[ao (binop% Page_feed (pv 0) %[aO aW (pv 1) (aF (ay op_add (pv 2) (ag))) (aF (ay op_add (ay op_add (pv 2) (ag)) (rightact% aN (pv 1) (ay op_add (pv 2) (ag)))))|a])|b] %[|b],aw (binrel% op_eq (rightact% aN (pv 1) (pv 2)) (g.c_TREE.pe rfl)) %[ao (unop% M.Page_tell (pv 0))|b] %[|b],ao (unop% M.Page_write (pv 0))|b],?_⟩;obtain⟨hq,Dw⟩:=qB hd;have xC:=v7 hq;apply g7 λR hR=>?_
 have rest:x≠0->R [some (.ref p),some (.ref a),some (.int q)] H:=by
  intro RW;subst hR;apply g7 λR hR=>?_
  have rest:x≠1->R [some (.ref p),some (.ref a),some (.int q)] H:=by
   intro Du;subst hR;apply g7 λR hR=>?_
   have rest:x≠2->R [some (.ref p),some (.ref a),some (.int q)] H:=by
    intro y8;subst hR;ext;apply⟨_,_,hP.ob,rfl,?_⟩;cases rG with
    |begin _=>exact absurd rfl RW
    |feed _ _ _ _=>exact absurd rfl Du
    |z8 _ _ _ _=>exact absurd rfl Du
    |tree _=>exact absurd rfl y8
    |write vT=>
     apply⟨p,dx,c,h',b,rfl,hP,Ed,?_,λz H1 h1 gg f1 e1=>?_⟩
     .rw[AA,AB,jJ]at hz;lia
     .exact k z H1 c h1 b (nI (sent b)) _ (q+1) gg f1 (by rw[zU];exact e1) (by rw[jJ]) (by rw[Dw];exact vT) (λe=>absurd e Du) (λ_=>rfl)
   clear hR;ext;apply⟨_,hA.sq,_,xC,?_⟩;ext;apply bb (λh1=>?_) (λh1=>rest h1);apply⟨_,_,hP.ob,rfl,?_⟩;subst h1;cases rG with
   |tree vT=>
    apply⟨p,dx,c,h',b,rfl,hP,Ed,?_,λz H1 h1 gg f1 e1=>?_⟩
    .rw[AA,AB,jJ]at hz;lia
    .exact k z H1 c h1 b (nI (told b)) _ (q+1) gg f1 (by rw[zU];exact e1) (by rw[jJ]) (by rw[Dw];exact vT) (λe=>absurd e Du) (λ_=>rfl)
  clear hR;ext;apply⟨_,hA.sq,_,xC,?_⟩;ext;apply bb (λh1=>?_) (λh1=>rest h1);apply⟨_,_,hP.ob,rfl,?_⟩;subst h1
  obtain⟨t,r2,ht,hr,R8,Kl⟩:∃(t r2:List Int), (∀x∈t,0<=x/\x<256)/\r=(t.length:Int)::(t++r2)/\True/\((b.length+t.length<=65536/\∃pR,out=1::0::pR/\Run (b++t.map F7) r2 pR)\/(65536<b.length+t.length/\∃pR,out=1::(-1)::pR/\Run b r2 pR)):=by
   cases rG with
   |feed hn hl hle vT=>exact⟨_,_,hl,by rw[hn],trivial,.inl ⟨hle,_,rfl,vT⟩⟩
   |z8 hn hl hle vT=>exact⟨_,_,hl,by rw[hn],trivial,.inr ⟨hle,_,rfl,vT⟩⟩
  rw[hr]at Dw;obtain⟨pI,yQ⟩:=qB Dw;have uE:=v7 pI
  have ec:cb (iL l) (some ((q:Int)+2)) (some ((q:Int)+2+(t.length:Int)))=VL (t.map F7):=by
   have e1:((q:Int)+2)=((q+2:Nat):Int):=by nofun
   have e2:((q+2:Nat):Int)+(t.length:Int)=((q+2+t.length:Nat):Int):=by nofun
   rw[e1,e2,Mz,yQ];have:q+2+t.length-(q+2)=t.length:=by lia
   rw[this,List.take_left,<-zU,Ht λx hx=>(ht x hx).1]
  apply⟨_,hA.sq,_,uE,_,hA.sq,λm hm=>?_⟩;rw[ec];have s1:=aj.upd (o:= .lst (VL (t.map F7))) hm
  have zE:∀x∈t.map F7,x<256:=λx hx=>by
   obtain⟨y,hy,rfl⟩:=BC.mp hx;have:=ht y hy;lia
  have Dv:l.drop (q+2+t.length)=r2:=by rw[<-A7,yQ,IS]
  apply⟨p,dx,c,h',b,m,_,rfl,hP.same s1,aa,zE,λz H1 XO f1=>⟨λNQ gg e1=>?_,λhle gg e1 _=>?_⟩⟩
  .rcases Kl with⟨g9,_⟩|⟨g9,pR,eo,R5⟩
   .rw[AF]at NQ;lia
   .exact k z H1 c h' b [-1] pR (q+2+t.length) gg ((oA.of s1).trans f1) e1 eo (by rw[Dv];exact R5) (λ_=>⟨t.length,pI,rfl⟩) (λe=>absurd rfl e)
  .rcases Kl with⟨g9,pR,eo,R5⟩|⟨g9,_⟩
   .exact k z H1 c .aY _ [0] pR (q+2+t.length) gg ((oA.of s1).trans f1) e1 eo (by rw[Dv];exact R5) (λ_=>⟨t.length,pI,rfl⟩) (λe=>absurd rfl e)
   .rw[AF]at hle;lia
 clear hR;ext;apply⟨_,hA.sq,_,xC,?_⟩;ext;apply bb (λh1=>?_) (λh1=>rest h1);apply⟨_,_,hP.ob,rfl,?_⟩;subst h1;cases rG with
 |begin vT=>
  apply⟨p,dx,c,h',b,rfl,hP,λz c' H1 XO gg f1 e1 _=>?_⟩;exact k z H1 c' .aY [] [0] _ (q+1) gg f1 e1 rfl (by rw[Dw];exact vT) (λe=>absurd e nofun) (λ_=>rfl)
def hide (H:Hp) (x:Addr):Hp:=λb=>if b=x then none else H b
theorem hide_ne {x b:Addr} (h:b≠x):hide H x b=H b:=iN h
theorem yt {x b:Addr} {o:HO} (h:hide H x b=some o):b≠x/\H b=some o:=by
 unfold hide at h
 split at h
 .cases h
 .next q=>exact⟨q,h⟩
theorem mV {x:Addr} {o:HO}:hide (upd H x o) x=hide H x:=by
 funext b
 by_cases h:b=x
 .rw[h];unfold hide;rw[iP rfl,iP rfl]
 .rw[hide_ne h,hide_ne h,ae h]
theorem bz.hide {p dx c x:Addr} {h:V} {b:List Nat} {od:Obj} {u:HO} (k:bz g H p dx c h b) (hx:H x=some (.eM od u)):bz g (hide H x) p dx c h b:=
 ⟨by rw[hide_ne (aE k.ob hx (by intro z;cases z))];exact k.ob,by rw[hide_ne (aE k.came hx (by intro z;cases z))];exact k.came,k.low,k.len,
  k.tree.imp id λ⟨L,hL⟩=>⟨L,hL.mono λb o e ho=>by rw[hide_ne (λq=>by rw[q,hx]at e;cases e;exact Ic ho)];exact e⟩⟩
inductive sp_answers (g:G w K mg) (vs:List V) (H:Hp) (Q:VK) (_:XK):Prop
 |i (a:Addr) (l out:List Int) (_:vs=[.ref a]) (_:uv K H a (iL l)) (_:Run [] l out) (_:out.length<=10000000) (_:Reads (w:=w) (K:=K) (mg:=mg)) (_:∀(p:Addr) (H':Hp),H' p=some (.lst (iL out))->Q (.ref p) H')
theorem ok_answers (g:G w K mg):aI P w K mg base bO 17 g.answers.f g.answers.fd ["calls"] (sp_answers g):=by
 apply g.answers.fn.bW sc_answers λvs H Q E h=>?_;obtain⟨a,l,out,rfl,hA,rG,hz,Ed,k⟩:=h;apply⟨rfl,λ_ _ _ _ hr=>?_⟩;apply⟨_,%[leftact% answers 1 (unop% O.Page_init ()),leftact% answers 2 (aM %[|a]),leftact% answers 3 (ag),bE PassesOwn.never (binrel% op_lt (pv 3) (unop% L.n (pv 0))) %[leftact% answers 4 (Hn (unop% answer_at %[pv 1,pv 0,pv 3|a])),au (binop% B.append.aU (pv 2) %[unop% L.n (pv 4)|a]),au (binop% B.extend.bp (pv 2) %[pv 4|a]),aw (binrel% op_eq (rightact% aN (pv 0) (pv 3)) (g.c_FEED.pe rfl)) %[eD (i:=3) sc_answers.nd rfl (CM rfl) (ay op_add (ag) (rightact% aN (pv 0) (ay op_add (pv 3) (ag)))) gw|b] %[eD (i:=3) sc_answers.nd rfl (CM rfl) (ag) gw|b]|b],ao (pv 2)|b],?_⟩;cbv;ext;intro x dx hx oz dF;have nx:∀{b o},H b=some o->b≠x:=λq=>af q hx;have nd:∀{b o},H b=some o->b≠dx:=λq=>af q oz;apply⟨x,dx,rfl,aa,λc H1 g9 gg g8 s1=>⟨rfl,?_⟩⟩;have pG:aj H H1:=λb o q=>s1 b o (by rw[ae (nx q),ae (nd q)];exact q) (nx q);have PZ:bz g H1 x dx c .aY []:=⟨gg,g8,by simp,A0 _,.inl rfl⟩
 have K7:=hA.keep (oA.of pG);clear g9 gg g8 s1 dF;cbv;ext;apply⟨A0 _,λgv NP=>?_⟩;have s2:=aj.upd (o:= .lst []) NP;have zh:=K7.keep (oA.of s2)
 have lF:bz g (hide (upd H1 gv (.lst [])) gv) x dx c .aY []:=by
  rw[mV];exact PZ.same λb o e=>by rw[hide_ne (af e NP)];exact e
 have Sf:upd H1 gv (.lst []) gv=some (.lst (iL [])):=aa;generalize upd H1 gv (.lst [])=H2 at zh lF Sf ⊢;cbv;ext;cbv
 apply⟨λm σ H'=>∃(v:Option V) (q:Nat) (c:Addr) (h:V) (b:List Nat) (pre post:List Int),SE σ [some (.ref a),some (.ref x),some (.ref gv),some (.int q),v]/\m=l.length-q/\bz g (hide H' gv) x dx c h b/\uv K H' a (iL l)/\H' gv=some (.lst (iL pre))/\Run b (l.drop q) post/\pre++post=out,
  ⟨_,none,0,c,.aY, [], [],out,rfl,rfl,lF,zh,Sf,rG,rfl⟩,?_⟩
 clear zh lF Sf;rintro m σ H3 ⟨v,q,c,h,b,pre,post,rfl,rfl,QU,Ff,QQ,v8,QJ⟩;ext;apply⟨_,.inl Ff.sq,?_⟩;rw[mF];apply bb (λgc=>⟨_,λ_ _ h=>h,?_⟩) (λNR=>?_)
 .obtain⟨y,r,hd⟩:∃y r,l.drop q=y::r:=by
   cases z:l.drop q with
   |nil=>
    have:=congrArg BJ z;rw[AM,BI]at this;omega
   |cons y r=>exact⟨y,r,rfl⟩
  obtain⟨hq,Dw⟩:=qB hd;rw[hd]at v8;have XN:pre.length+post.length=out.length:=by rw[<-QJ,AB]
  cbv;apply⟨gv,_,QQ,trivial,λod=>?_⟩
  have sL:aj (hide H3 gv) (upd H3 gv (.eM od (.lst (iL pre)))):=λb o e=>by
   obtain⟨e1,e2⟩:=yt e;rw[ae e1];exact e2
  have Zc:uv K (upd H3 gv (.eM od (.lst (iL pre)))) a (iL l):=Ff.keep λb o u e=>by rw[ae (aE e QQ (by intro z;cases z))];exact e
  ext;apply⟨x,dx,c,h,b,a,l,q,y,r,post,rfl,QU.same sL,Zc,hd,v8,by lia,Ed,λz H4 c' h' b' nT xG q' Y2 f4 e4 eo VH Du y8=>?_⟩;have Se:=f4 _ _ _ (aa (H:=H3) (a:=gv) (o:= .eM od (.lst (iL pre))));have Vb:z≠gv:=aE e4 Se (by intro z;cases z);apply⟨Se,?_⟩
  have QZ:uv K (upd H4 gv (.lst (iL pre))) a (iL l):=by
   rcases Ff with⟨o,e⟩|e
   .refine .inl ⟨o,?_⟩;have Vp:a≠gv:=aE e QQ (by intro z;cases z);rw[ae Vp];exact f4 _ _ _ (by rw[ae Vp];exact e)
   .exact .inr e
  have NZ:bz g (hide (upd H4 gv (.lst (iL pre))) gv) x dx c' h' b':=by rw[mV];exact Y2.hide Se
  have e5:upd H4 gv (.lst (iL pre)) z=some (.lst (iL nT)):=by rw[ae Vb];exact e4
  have QP:upd H4 gv (.lst (iL pre)) gv=some (.lst (iL pre)):=aa;generalize upd H4 gv (.lst (iL pre))=H5 at QZ NZ e5 QP ⊢;have XM:=congrArg BJ eo;rw[AA,AB]at XM;cbv;ext;apply⟨fq QP,_,.inl (aL.of e5),_,QP,by rw[mF];exact mH (by lia),?_⟩;rw[mF];have nf:∀{o u b},H5 b=some (.eM o u)->b≠gv:=λe=>aE e QP (by intro z;cases z);have Te:z≠gv:=Vb;cbv;ext;apply⟨fq aa,?_⟩;ext;apply⟨_,by rw[ae Te];exact e5,?_,?_⟩
  .rw[AB,mF,mF];apply bf ?_;simp only[AA,BI];lia
  have e6:iL pre++[V.int nT.length]++iL nT=iL (pre++((nT.length:Int)::nT)):=by rw[MA];simp[iL]
  rw[e6];have N1:uv K (upd H5 gv (.lst (iL (pre++((nT.length:Int)::nT))))) a (iL l):=QZ.keep λb o u e=>by rw[ae (nf e)];exact e
  have Sn:bz g (hide (upd H5 gv (.lst (iL (pre++((nT.length:Int)::nT))))) gv) x dx c' h' b':=by rw[mV];exact NZ
  have Sd:upd H5 gv (.lst (iL (pre++((nT.length:Int)::nT)))) gv=some (.lst (iL (pre++((nT.length:Int)::nT)))):=aa;generalize upd H5 gv (.lst (iL (pre++((nT.length:Int)::nT))))=H6 at N1 Sn Sd ⊢;have Wn:(pre++((nT.length:Int)::nT))++xG=out:=by rw[<-QJ,eo];simp
  apply⟨_,N1.sq,_,v7 hq,?_⟩;ext;apply bb (λh1=>?_) (λh1=>?_)
  .obtain⟨n,hn,Zx⟩:=Du h1;apply⟨_,N1.sq,_,v7 (i:=q+1) hn,?_⟩;ext;apply ?_;have ei:((q:Int)+(2+(n:Int)))=((q':Nat):Int):=by lia
   rw[ei];apply⟨_,?_,some (V.ref z),q',rfl,rfl,c',h',b',Sn,N1,_,Sd,xG,VH,Wn⟩;omega
  .have Zx:=y8 h1;have ei:((q:Int)+1)=((q':Nat):Int):=by lia
   rw[ei];apply⟨_,?_,some (V.ref z),q',rfl,rfl,c',h',b',Sn,N1,_,Sd,xG,VH,Wn⟩;lia
 .rw[AQ (by lia)]at v8;have P1:post=[]:=by cases v8;rfl
  rw[P1,A6]at QJ;ext;exact k gv H3 (by rw[<-QJ];exact QQ)
end An
set_option tactic.hygienic true
namespace An
open Rd27
def chain:List Open->Prop
 |x::y::r=>(FRAMES.contains y.1=true↔PARTS.contains x.1=true)/\chain (y::r)
 |_=>True
def ke:List Node->Prop
 |m::n::r=>(m.depth=n.depth+1->VOID.contains n.name=false)/\ke (n::r)
 |_=>True
structure Inv (s:S):Prop where
 ch:chain s.open_
 bd:∃l,s.open_=l++[(text "body", [])]
 fr:inFrame s=true->s.again=[]
 cq:s.again.length<=8
 ij:∀x∈s.again,x.1∈STYLED
 nv:∀x∈s.open_,VOID.contains x.1=false
 vf:ke s.body
 last:∀n r,s.body=n::r->deep s<=n.depth+1/\(n.depth+1=deep s->n.name=current s)
 hf:ke s.head
 h3:∀n∈s.head,3<=n.depth
 b3:∀n∈s.body,3<=n.depth
 fresh:s.fresh=false
theorem nk:∀n∈FRAMES,n=text "table"\/PARTS.contains n=true:=by decide+kernel
theorem oZ:∀n∈PARTS,VOID.contains n=false->WALLS.contains n=true\/FRAMES.contains n=true:=by decide+kernel
theorem tY:∀n∈FRAMES,STYLED.contains n=false:=by decide+kernel
theorem Bp:∀n∈STYLED,FRAMES.contains n=false/\PARTS.contains n=false/\VOID.contains n=false/\WALLS.contains n=false:=by decide+kernel
theorem has {l:List T} {x:T}:l.contains x=true↔x∈l:=DU
theorem PX {l:List T} {x:T}:l.contains x=false↔x∉l:=by rw[<-has];cases l.contains x<;>simp
theorem fX {x:Open} {l:List Open} (h:chain (x::l)):chain l:=by
 cases l with
 |nil=>trivial
 |cons y r=>exact h.2
theorem nu:∀(k:Nat) {l:List Open},chain l->chain (l.drop k)
 |0,l,h=>h
 |k+1, [],h=>trivial
 |k+1,x::l,h=>nu k (fX h)
def ux (l:List Open):T:=(l.headD ([], [])).1
theorem xi (s:S):current s=ux s.open_:=rfl
theorem jY {x:Open} {l:List Open} (h:chain (x::l)) (hl:l≠[]):FRAMES.contains (ux l)=true↔PARTS.contains x.1=true:=by
 cases l with
 |nil=>exact absurd rfl hl
 |cons y r=>exact h.1
theorem kX:∀(k:Nat) {l:List Open},chain l->(∀x∈l,VOID.contains x.1=false)->k+1<l.length->FRAMES.contains (ux (l.drop (k+1)))=true->
  (l.take (k+1)).any (isOne WALLS)=true\/(∀x∈l.take (k+1),FRAMES.contains x.1=true)
 |k, [],_,_,h,_=>by simp at h
 |0,x::l,hc,hv,hl,hf=>by
  have h1:=(jY hc (by intro q;rw[q]at hl;simp at hl)).mp hf;rcases oZ x.1 (has.mp h1) (hv x (by simp))with q|q
  .left;simp[isOne];exact has.mp q
  .right;intro y hy
   have:y=x:=by simpa using hy
   rw[this];exact q
 |k+1,x::l,hc,hv,hl,hf=>by
  have oy:k+1<l.length:=by simpa using hl
  rcases kX k (fX hc) (λy hy=>hv y (by simp[hy])) oy hf with q|q
  .left
   rw[BK,CS,q,J1]
  .cases l with
   |nil=>simp at oy
   |cons y r=>
    have hy:=q y (by simp);have h1:=hc.1.mp hy;rcases oZ x.1 (has.mp h1) (hv x (by simp))with z|z
    .left
     rw[BK,CS];have:isOne WALLS x=true:=z;rw[this,JT]
    .right
     intro u hu;rw[BK]at hu;rcases AG.mp hu with e|e
     .rw[e];exact z
     .exact q u e
theorem Inv.ne {s:S} (h:Inv s):s.open_≠[]:=by
 obtain⟨l,e⟩:=h.bd;rw[e];simp
theorem Inv.close {s:S} (h:Inv s) {k:Nat} (hk:k+1<s.open_.length):Inv (close s k):=by
 have zV:∀x∈((s.open_.take (k+1)).take k).filter (isOne STYLED),x.1∈STYLED:=λx hx=>has.mp (A9.mp hx).2;apply⟨nu _ h.ch,?_,λhf=>?_,?_,λx hx=>?_,λx hx=>h.nv x (BH hx),h.vf,λn r e=>?_,h.hf,h.h3,h.b3,h.fresh⟩
 .obtain⟨l,e⟩:=h.bd;apply⟨l.drop (k+1),?_⟩;show s.open_.drop (k+1)=_
  rw[e]at hk ⊢;rw[DN (by simp at hk;nofun)]
 .have hf:FRAMES.contains (ux (s.open_.drop (k+1)))=true:=hf;unfold DB;simp only;rcases kX k h.ch h.nv hk hf with q|q
  .rw[iP q]
  .have Up:inFrame s=true:=by
    unfold inFrame current;cases ho:s.open_ with
    |nil=>exact absurd ho h.ne
    |cons x r=>exact q x (by rw[ho];simp)
   have e1:((s.open_.take (k+1)).take k).filter (isOne STYLED)=[]:=by
    rw[List.filter_eq_nil_iff];intro x hx hs;have:=tY x.1 (has.mp (q x (CB hx)));have hs:STYLED.contains x.1=true:=hs;rw[this]at hs;cases hs
   rw[e1,h.fr Up]
   split<;>rfl
 .unfold DB;simp only
  split
  .simp
  .rw[AM];omega
 .unfold DB at hx;simp only at hx
  split at hx
  .cases hx
  .rcases AU.mp (BH hx)with q|q
   .exact h.ij x q
   .exact zV x (HX.mp q)
 .obtain⟨h1,h2⟩:=h.last n r e;have hd:deep (DB s k)=s.open_.length-(k+1)+2:=by unfold deep DB;simp
  have rr:deep s=s.open_.length+2:=rfl;apply⟨by lia,λq=>?_⟩;omega
theorem Inv.opened {s:S} (h:Inv s) {n:T} {a:List Attr} (hp:inFrame s=true↔PARTS.contains n=true) (hv:VOID.contains n=false):Inv (opened s n a):=by
 unfold C3
 split
 .next hd=>
  apply⟨?_,?_,λhf=>?_,?_,λx hx=>?_,λx hx=>?_,?_,λm r e=>?_,h.hf,h.h3,λx hx=>?_,h.fresh⟩
  .cases ho:s.open_ with
   |nil=>exact absurd ho h.ne
   |cons y r=>
    have hc:=h.ch;rw[ho]at hc;apply⟨?_,hc⟩;rw[<-hp];unfold inFrame current;rw[ho];rfl
  .obtain⟨l,e⟩:=h.bd;exact⟨(n,a)::l,by show(n,a)::s.open_=_;rw[e];rfl⟩
  .have hf:FRAMES.contains n=true:=hf;show(if WALLS.contains n=true then []else s.again)=[]
   rcases nk n (has.mp hf)with q|q
   .rw[iP (by rw[q];decide)]
   .rw[h.fr (hp.mpr q)];split<;>rfl
  .show(if WALLS.contains n=true then []else s.again).length<=8
   split
   .simp
   .exact h.cq
  .have hx:x∈(if WALLS.contains n=true then []else s.again):=hx
   split at hx
   .cases hx
   .exact h.ij x hx
  .rcases AG.mp hx with e|e
   .rw[e];exact hv
   .exact h.nv x e
  .cases hb:s.body with
   |nil=>trivial
   |cons m r=>
    have um:=h.vf;rw[hb]at um;apply⟨λq=>?_,um⟩;have q:deep s=m.depth+1:=q;have:=(h.last m r hb).2 q.symm;rw[this,xi];cases ho:s.open_ with
    |nil=>exact absurd ho h.ne
    |cons y l=>exact h.nv y (by rw[ho];simp)
  .injection e with e1 e2;rw[<-e1];exact⟨AE _,λ_=>rfl⟩
  .rcases AG.mp hx with e|e
   .rw[e];show 3<=s.open_.length+2
    have:=h.ne;cases ho:s.open_ with
    |nil=>exact absurd ho h.ne
    |cons y l=>simp
   .exact h.b3 x e
 .exact h
theorem Inv.Kn {s:S} (h:Inv s):3<=deep s:=by
 unfold deep;cases ho:s.open_ with
 |nil=>exact absurd ho h.ne
 |cons y l=>simp
theorem Inv.Ih {s:S} (h:Inv s):VOID.contains (current s)=false:=by
 rw[xi];cases ho:s.open_ with
 |nil=>exact absurd ho h.ne
 |cons y l=>exact h.nv y (by rw[ho];simp)
theorem Inv.node {s:S} (h:Inv s) {m:Node} (hd:m.depth=deep s):Inv {s with body:=m::s.body}:=by
 apply⟨h.ch,h.bd,h.fr,h.cq,h.ij,h.nv,?_,λn r e=>?_,h.hf,h.h3,λx hx=>?_,h.fresh⟩
 .show ke (m::s.body)
  cases hb:s.body with
  |nil=>trivial
  |cons n r=>
   have um:=h.vf;rw[hb]at um;apply⟨λq=>?_,um⟩;rw[(h.last n r hb).2 (by lia)];exact h.Ih
 .injection e with e1 e2;rw[<-e1];apply⟨by show deep s<=_;lia,λq=>?_⟩;have q:m.depth+1=deep s:=q;lia
 .rcases AG.mp hx with e|e
  .rw[e,hd];exact h.Kn
  .exact h.b3 x e
theorem Inv.Hb {s:S} (h:Inv s) {m t:Node} (hd:m.depth=deep s) (hv:VOID.contains m.name=false) (ht:t.depth=deep s+1):Inv {s with body:=t::m::s.body}:=by
 have h1:=h.node hd;apply⟨h.ch,h.bd,h.fr,h.cq,h.ij,h.nv, ⟨λ_=>hv,h1.vf⟩,λn r e=>?_,h.hf,h.h3,λx hx=>?_,h.fresh⟩
 .injection e with e1 e2;rw[<-e1];apply⟨by show deep s<=_;lia,λq=>?_⟩;have q:t.depth+1=deep s:=q;lia
 .rcases AG.mp hx with e|e
  .rw[e,ht];have:=h.Kn;nofun
  .exact h1.b3 x e
theorem Inv.putText {s:S} (h:Inv s) (t:T):Inv (putText s t):=by
 unfold Rd27.putText
 split
 .exact h
 .split
  .next n r hb=>
   split
   .next hn=>
    apply⟨h.ch,h.bd,h.fr,h.cq,h.ij,h.nv,?_,λm r' e=>?_,h.hf,h.h3,λx hx=>?_,h.fresh⟩
    .have um:=h.vf;rw[hb]at um;cases r with
     |nil=>trivial
     |cons z r=>exact um
    .injection e with e1 e2;rw[<-e1];apply⟨by show deep s<=n.depth+1;lia,λq=>?_⟩;have q:n.depth+1=deep s:=q;lia
    .rcases AG.mp hx with e|e
     .rw[e];exact h.b3 n (by rw[hb];simp)
     .exact h.b3 x (by rw[hb];simp[e])
   .exact h.node rfl
  .next hb=>
   have:=h.node (m:=⟨2,deep s, [], [],t⟩) rfl;rw[hb]at this;exact this
end An
namespace An
open Rd27
theorem Inv.inner {s:S} (h:Inv s) {p mr:Open->Bool} {k:Nat} (hp:∀a,p (text "body",a)=false) (q:nearest s.open_ p mr=some k):k+1<s.open_.length:=by
 obtain⟨x,h1,h2⟩:=cH q;have hk:=fU q;obtain⟨l,e⟩:=h.bd
 by_cases gc:k+1<s.open_.length
 .exact gc
 .have hl:s.open_.length=l.length+1:=by rw[e];simp
  have:k=l.length:=by lia
  rw[e,this,BW (AE _),DP]at h1;have:x=(text "body", []):=by simpa using h1.symm
  rw[this,hp]at h2;cases h2
theorem Inv.near {s:S} (h:Inv s) {p mr:Open->Bool} (hp:∀a,p (text "body",a)=false):Inv (closeNear s p mr):=by
 unfold closeNear
 split
 .next k e=>exact h.close (h.inner hp e)
 .exact h
theorem below:∀{l:List Open} {k:Nat} {x:Open},chain l->l[k]? =some x->PARTS.contains x.1=false->k+1<l.length->FRAMES.contains (ux (l.drop (k+1)))=false
 |[],k,x,hc,h,_,_=>by cases h
 |y::l,0,x,hc,h,hp,hk=>by
  have:y=x:=AH h;subst this;have dF:l≠[]:=by intro q;rw[q]at hk;simp at hk
  have:=jY hc dF;cases hq:FRAMES.contains (ux l)with
  |false=>exact hq
  |true=>rw[this.mp hq]at hp;cases hp
 |y::l,k+1,x,hc,h,hp,hk=>by
  have:=below (l:=l) (k:=k) (x:=x) (fX hc) (by simpa using h) hp (by simpa using hk);exact this
theorem Inv.jq {s:S} (h:Inv s) {k:Nat} {x:Open} (hx:s.open_[k]? =some x) (hp:PARTS.contains x.1=false) (hk:k+1<s.open_.length):inFrame (DB s k)=false:=below h.ch hx hp hk
theorem Inv.Hs {s:S} (h:Inv s) {p mr:Open->Bool} (hp:∀a,p (text "body",a)=false) (hn:∀x,p x=true->PARTS.contains x.1=false) (hf:inFrame s=false):inFrame (closeNear s p mr)=false:=by
 unfold closeNear
 split
 .next k e=>
  obtain⟨x,h1,h2⟩:=cH e;exact h.jq h1 (hn x h2) (h.inner hp e)
 .exact hf
theorem fF {l:List T} (h:l.contains (text "body")=false):∀a,isOne l (text "body",a)=false:=λ_=>h
theorem wV {l:List T} (h:∀n∈l,PARTS.contains n=false):∀x,isOne l x=true->PARTS.contains x.1=false:=λx hx=>h x.1 (has.mp hx)
theorem mK:∀a,isTable (text "body",a)=false:=λa=>by rw[dC];exact fF nofun a
theorem Gr:∀x,isTable x=true->PARTS.contains x.1=false:=by rw[dC];exact wV nofun
theorem kQ:∀{l:List Open},chain l->(∃l',l=l'++[(text "body", [])])->FRAMES.contains (ux l)=true->∃k,nearest l isTable never=some k
 |[],_,h,_=>by obtain⟨l',e⟩:=h;exact absurd e (by simp)
 |x::l,hc,hb,hf=>by
  rw[nearest]
  by_cases ht:isTable x=true
  .exact⟨0,by rw[iP ht]⟩
  .rw[iN ht,iN (by unfold never;decide)];have hx:FRAMES.contains x.1=true:=hf
   have Yf:PARTS.contains x.1=true:=by
    rcases nk x.1 (has.mp hx)with q|q
    .exact absurd (by unfold isTable;rw[q];decide) ht
    .exact q
   have hl:l≠[]:=by
    intro q;obtain⟨l',e⟩:=hb;rw[q]at e;cases l' with
    |nil=>
     injection e with e _;rw[e]at hx;exact absurd hx nofun
    |cons y l'=>injection e with _ e;exact absurd e (by simp)
   have rA:∃l',l=l'++[(text "body", [])]:=by
    obtain⟨l',e⟩:=hb;cases l' with
    |nil=>injection e with _ e;exact absurd e hl
    |cons y l'=>injection e with _ e;exact⟨l',e⟩
   obtain⟨k,hk⟩:=kQ (fX hc) rA ((jY hc hl).mpr Yf);exact⟨k+1,by rw[hk];rfl⟩
theorem Inv.table {s:S} (h:Inv s) (hf:inFrame s=true):∃k,nearest s.open_ isTable never=some k:=kQ h.ch h.bd hf
theorem Inv.bj {s:S} (h:Inv s) (hf:inFrame s=true):bj s:=by
 obtain⟨k,hk⟩:=h.table hf;rw[dC]at hk;exact⟨k,hk⟩
theorem Inv.closeTable {s:S} (h:Inv s):Inv (closeTable s):=h.near mK
theorem Inv.ot {s:S} (h:Inv s) (hf:inFrame s=true):inFrame (IJ s)=false:=by
 obtain⟨k,hk⟩:=h.table hf;unfold IJ closeNear;rw[hk];obtain⟨x,h1,h2⟩:=cH hk;exact h.jq h1 (Gr x h2) (h.inner mK hk)
theorem Inv.nM {s:S} (h:Inv s):Inv (nM s)/\inFrame (nM s)=false:=by
 unfold An.nM
 split
 .next q=>exact⟨h.closeTable,h.ot q⟩
 .next q=>exact⟨h,by simpa using q⟩
theorem Inv.fold:∀(l:List Open) {s:S},Inv s->inFrame s=false->(∀x∈l,x.1∈STYLED)->s.again=[]->Inv (l.foldl (λt x=>C3 t x.1 x.2) s)/\inFrame (l.foldl (λt x=>C3 t x.1 x.2) s)=false/\(l.foldl (λt x=>C3 t x.1 x.2) s).again=[]
 |[],s,h,hf,_,ha=>⟨h,hf,ha⟩
 |x::l,s,h,hf,hs,ha=>by
  obtain⟨k1,k2,k3,k4⟩:=Bp x.1 (hs x (by simp));apply Inv.fold l (h.opened (by rw[hf,k2]) k3) ?_ (λy hy=>hs y (by simp[hy])) ?_
  .show inFrame (C3 s x.1 x.2)=false
   unfold C3
   split
   .exact k1
   .exact hf
  .show(C3 s x.1 x.2).again=[]
   unfold C3
   split
   .show(if WALLS.contains x.1=true then []else s.again)=[]
    rw[ha];split<;>rfl
   .exact ha
theorem Inv.forget {s:S} (h:Inv s) {l:List Open} (hl:∀x∈l,x∈s.again) (hn:l.length<=8):Inv {s with again:=l}:=
 ⟨h.ch,h.bd,λq=>by
  have:=h.fr q;rw[this]at hl;cases l with
  |nil=>rfl
  |cons x l=>exact absurd (hl x (by simp)) (by simp),hn,λx hx=>h.ij x (hl x hx),h.nv,h.vf,h.last,h.hf,h.h3,h.b3,h.fresh⟩
theorem Inv.reopened {s:S} (h:Inv s) (hf:inFrame s=false):Inv (reopened s)/\inFrame (BM s)=false/\(BM s).again=[]:=
 Inv.fold s.again (s:={s with again:=[]}) (h.forget (by simp) (by simp)) hf h.ij rfl
theorem yL {s:S} (h:s.again=[]):{s with again:=[]}=s:=by cases s;cases h;rfl
theorem f6 {s:S} (h:s.again=[]):BM s=s:=by
 unfold BM;rw[h];exact yL h
theorem Inv.tM {s:S} (h:Inv s):Inv (BM s):=by
 cases hf:inFrame s with
 |false=>exact(h.reopened hf).1
 |true=>rw[f6 (h.fr hf)];exact h
theorem Inv.upTo {s:S} (h:Inv s) (l:List T):Inv (upToOne s l):=by
 unfold upToOne
 split
 .exact h
 .next k e=>
  have:=fU e;exact h.close (by nofun)
 .exact h
theorem Cz {l:List Open} {k:Nat} {x:Open} (h:l[k]? =some x):l.drop k=x::l.drop (k+1):=by
 have hk:k<l.length:=by
  by_cases q:k<l.length
  .exact q
  .rw[DC (by nofun)]at h;cases h
 rw[AN hk]at h;rw[<-AH h];exact FH hk
theorem yj {p:Open->Bool} {l:List Open} {k:Nat} (h:nearest l p never=some k):∃x,l[k]? =some x/\p x=true/\l.drop k=x::l.drop (k+1):=by
 obtain⟨x,h1,h2⟩:=cH h;exact⟨x,h1,h2,Cz h1⟩
theorem so {s:S} {l:List T} (h:∃k,nearest s.open_ (isOne l) never=some k):l.contains (current (upToOne s l))=true:=by
 obtain⟨k,hk⟩:=h;obtain⟨x,h1,h2,h3⟩:=yj hk;have hx:l.contains x.1=true:=h2;unfold upToOne;rw[hk];cases k with
 |zero=>
  simp only;rw[EI]at h3;unfold current;rw[h3];exact hx
 |succ k=>
  simp only;show l.contains ((s.open_.drop (k+1)).headD ([], [])).1=true
  rw[h3];exact hx
end An
namespace An
open Rd27
theorem i7 {t:S} {name:T} {a:List Attr} {sh:Bool} (h1:VOID.contains name=false) (h2:RAW.contains name=false):(bX t name a sh []).1=if sh=true then put t name a else opened t name a:=by
 unfold bX put opened LOWEST;rw[h1,h2];cases sh with
 |true=>split<;>rfl
 |false=>split<;>rfl
theorem mT {t:S} {name:T} {a:List Attr} {sh:Bool} (h:sh=true\/VOID.contains name=true):(bX t name a sh []).1=put t name a:=by
 unfold bX put LOWEST
 have:(!(sh||VOID.contains name||RAW.contains name))=false:=by
  rcases h with h|h<;>rw[h]<;>simp
 rw[this]
 split<;>rfl
theorem jk (t:S) (name:T) (a:List Attr) (sh:Bool):(nV t [] name a sh []).1=(bX t name a sh []).1:=by
 unfold nV;show(if deep t+0<=199 then bX t name a sh []else(t,false)).1=_
 rw[JY]
 by_cases hd:deep t<=199
 .rw[iP hd]
 .rw[iN hd];unfold bX;rw[iN hd]
theorem qz (t:S) (ns:List String) (name:T) (a:List Attr) (sh:Bool):(nV t ns name a sh []).1=withImplied t (ns.map text) λu=>(bX u name a sh []).1:=by
 unfold nV withImplied LOWEST;rw[AF,List.foldl_map]
 split<;>rfl
theorem Cc:∀n∈PARTS,RAW.contains n=false/\(n≠text "col"->VOID.contains n=false):=by decide+kernel
theorem mU {s:S} {name:T} {a:List Attr} {sh:Bool} (hp:PARTS.contains name=true):(eT s name a sh []).1=part s name a sh:=by
 have e:part s name a sh=(if inFrame (aD s)=false then aD s else
  if name=text "col" then(if current (aD s)=text "colgroup" then put (aD s) name a else withImplied (upToOne (aD s) [text "table"]) [text "colgroup"] λt=>put t name a)
  else if name=text "tr" then(if GROUPS.contains (current (upToOne (aD s) (text "table"::GROUPS)))=true then(if sh=true then put (upToOne (aD s) (text "table"::GROUPS)) name a else opened (upToOne (aD s) (text "table"::GROUPS)) name a)else withImplied (upToOne (aD s) (text "table"::GROUPS)) [text "tbody"] λt=>if sh=true then put t name a else opened t name a)
  else if name=text "td"\/name=text "th" then(if current (aD s)=text "tr" then(if sh=true then put (aD s) name a else opened (aD s) name a)else withImplied (upToOne (aD s) (text "table"::GROUPS)) (if GROUPS.contains (current (upToOne (aD s) (text "table"::GROUPS)))=true then [text "tr"]else [text "tbody",text "tr"]) λt=>if sh=true then put t name a else opened t name a)
  else(if sh=true then put (upToOne (aD s) [text "table"]) name a else opened (upToOne (aD s) [text "table"]) name a)):=rfl
 rw[e];obtain⟨hr,hv⟩:=Cc name (has.mp hp);unfold eT;generalize aD s=u;cases hf:inFrame u with
 |false=>rw[iN nofun,iP rfl]
 |true=>
  rw[iP rfl,iN nofun];unfold roomOf cJ
  by_cases h1:name=text "col"
  .rw[iP h1,iP h1];have VG:VOID.contains name=true:=by rw[h1];decide
   split
   .rw[jk];exact mT (.inr VG)
   .rw[qz];show withImplied _ _ _=withImplied _ _ _
    congr 1;funext t;exact mT (.inr VG)
  .have hv:=hv h1
   have hit:(λu:S=>(bX u name a sh []).1)=λt=>if sh=true then put t name a else opened t name a:=by
    funext t;exact i7 hv hr
   rw[iN h1,iN h1]
   by_cases h2:name=text "tr"
   .rw[iP h2,iP h2];simp only
    split
    .rw[jk];exact i7 hv hr
    .rw[qz,hit];rfl
   .rw[iN h2,iN h2]
    by_cases h3:name=text "td"\/name=text "th"
    .rw[iP h3,iP h3]
     split
     .rw[jk];exact i7 hv hr
     .simp only;rw[qz,hit]
      split<;>rfl
    .rw[iN h3,iN h3];simp only;rw[jk];exact i7 hv hr
theorem Inv.aD {s:S} (h:Inv s):Inv (aD s):=by
 unfold An.aD
 split
 .next k e=>
  split
  .next q=>
   have hb:∀a, (λx=>isOne CELLS x||isTable x) (text "body",a)=false:=λa=>by
    simp only;rw[fF nofun a,mK a];rfl
   exact h.close (h.inner hb e)
  .exact h
 .exact h
theorem Inv.bX {s:S} (h:Inv s) {name:T} {a:List Attr} {sh:Bool} {tx:T} (hp:sh=false->VOID.contains name=false->RAW.contains name=false->(inFrame s=true↔PARTS.contains name=true)) (ht:tx≠[]->VOID.contains name=false):Inv (bX s name a sh tx).1:=by
 unfold An.bX
 split
 .split
  .next q=>
   have q:sh=false/\VOID.contains name=false/\RAW.contains name=false:=by
    cases sh with
    |true=>simp at q
    |false=>
     cases hv:VOID.contains name with
     |true=>rw[hv]at q;simp at q
     |false=>
      cases hr:RAW.contains name with
      |true=>rw[hr]at q;simp at q
      |false=>exact⟨rfl,rfl,rfl⟩
   exact h.opened (hp q.1 q.2.1 q.2.2) q.2.1
  .by_cases hx:tx=[]
   .rw[iP hx];exact h.node rfl
   .rw[iN hx];exact h.Hb rfl (ht hx) rfl
 .exact h
theorem yr:∀n∈nW,FRAMES.contains (text n)=true/\PARTS.contains (text n)=true/\VOID.contains (text n)=false:=by decide+kernel
theorem Inv.impl:∀(ns:List String) {s:S},Inv s->inFrame s=true->(∀n∈ns,n∈nW)->Inv (ns.foldl (λt n=>C3 t (text n) []) s)/\inFrame (ns.foldl (λt n=>C3 t (text n) []) s)=true
 |[],s,h,hf,_=>⟨h,hf⟩
 |n::ns,s,h,hf,hn=>by
  obtain⟨k1,k2,k3⟩:=yr n (hn n (by simp));apply Inv.impl ns (h.opened (by rw[hf,k2]) k3) ?_ (λm hm=>hn m (by simp[hm]));show inFrame (C3 s (text n) [])=true
  unfold C3
  split
  .exact k1
  .exact hf
theorem kP {l:List T} (hl:∀n∈l,FRAMES.contains n=true) {n:T} (h:l.contains n=true):FRAMES.contains n=true:=hl n (has.mp h)
theorem Inv.room {s:S} (h:Inv s) (hf:inFrame s=true) (name:T):Inv (roomOf s name).1/\inFrame (roomOf s name).1=true/\∀n∈(roomOf s name).2,n∈nW:=by
 have ht:=h.bj hf;have u1:Inv (upToOne s [text "table"])/\inFrame (upToOne s [text "table"])=true:=⟨h.upTo _,kP nofun (so ht)⟩
 have u2:Inv (upToOne s (text "table"::GROUPS))/\inFrame (upToOne s (text "table"::GROUPS))=true:=⟨h.upTo _,kP nofun (so (jT ht GROUPS))⟩
 have OQ:∀n∈(cJ s).2,n∈nW:=(iB s).2;unfold roomOf
 split
 .split
  .exact⟨h,hf,by simp⟩
  .exact⟨u1.1,u1.2,by simp[nW]⟩
 .split
  .exact⟨u2.1,u2.2,OQ⟩
  .split
   .split
    .exact⟨h,hf,by simp⟩
    .refine⟨u2.1,u2.2,λn hn=>?_⟩;rcases AU.mp hn with q|q
     .exact OQ n q
     .have:n="tr":=by simpa using q
      rw[this];simp[nW]
   .exact⟨u1.1,u1.2,by simp⟩
theorem Inv.eT {s:S} (h:Inv s) {name:T} {a:List Attr} {sh:Bool} (hp:PARTS.contains name=true):Inv (eT s name a sh []).1:=by
 unfold An.eT
 split
 .next hf=>
  obtain⟨r1,r2,r3⟩:=h.aD.room hf name;unfold nV
  split
  .obtain⟨i1,i2⟩:=Inv.impl _ r1 r2 r3;exact i1.bX (λ_ _ _=>by rw[i2,hp]) (λq=>absurd rfl q)
  .exact r1
 .exact h.aD
end An
namespace An
open Rd27
def Out (s:S):Prop:=inFrame s=false
def Cl (s t:S):Prop:=(Inv s->Inv t)/\(Inv s->inFrame s=false->inFrame t=false)
theorem Cl.refl (s:S):Cl s s:=⟨id,λ_ h=>h⟩
theorem Cl.trans {a b c:S} (h:Cl a b) (k:Cl b c):Cl a c:=⟨λi=>k.1 (h.1 i),λi f=>k.2 (h.1 i) (h.2 i f)⟩
theorem qw (s:S) {l:List T} {mr:Open->Bool} (hb:l.contains (text "body")=false) (hn:∀n∈l,PARTS.contains n=false):Cl s (closeNear s (isOne l) mr):=
 ⟨λi=>i.near (fF hb),λi f=>i.Hs (fF hb) (wV hn) f⟩
theorem Dd {s:S} (h:Inv s) (hc:current s≠text "body"):0+1<s.open_.length:=by
 obtain⟨l,e⟩:=h.bd;cases l with
 |nil=>exact absurd (by unfold current;rw[e];rfl) hc
 |cons x l=>rw[e];simp
theorem qf (s:S) {l:List T} (hb:l.contains (text "body")=false) (hn:∀n∈l,PARTS.contains n=false):Cl s (bo s l):=by
 have key:Inv s->l.contains (current s)=true->0+1<s.open_.length:=λi hc=>Dd i (λq=>by rw[q,hb]at hc;cases hc);unfold bo
 split
 .next hc=>
  apply⟨λi=>i.close (key i hc),λi f=>?_⟩;cases ho:s.open_ with
  |nil=>exact absurd ho i.ne
  |cons x r=>
   have hx:x.1=current s:=by unfold current;rw[ho];rfl
   exact i.jq (x:=x) (by rw[ho];rfl) (by rw[hx];exact hn _ (has.mp hc)) (key i hc)
 .exact Cl.refl s
theorem Kd (s:S) {ws lim:List T} (hb:ws.contains (text "body")=false) (hn:∀n∈ws,PARTS.contains n=false):Cl s (Eo s ws lim):=by
 unfold Eo
 split
 .next k e=>
  split
  .next hc=>
   have key:Inv s->∃x,s.open_[k]? =some x/\isOne ws x=true/\k+1<s.open_.length:=λi=>by
    have hk:=fU e;cases hx:s.open_[k]? with
    |none=>rw[hx]at hc;cases hc
    |some x=>
     rw[hx]at hc;have hc:isOne ws x=true:=hc;apply⟨x,rfl,hc,?_⟩;obtain⟨l,el⟩:=i.bd
     by_cases gc:k+1<s.open_.length
     .exact gc
     .have hl:s.open_.length=l.length+1:=by rw[el];simp
      have:k=l.length:=by lia
      rw[el,this,BW (AE _),DP]at hx;have:x=(text "body", []):=by simpa using hx.symm
      rw[this]at hc;have hc:ws.contains (text "body")=true:=hc;rw[hb]at hc;cases hc
   apply⟨λi=>?_,λi f=>?_⟩
   .obtain⟨x,_,_,h3⟩:=key i;exact i.close h3
   .obtain⟨x,h1,h2,h3⟩:=key i;exact i.jq h1 (hn _ (has.mp h2)) h3
  .exact Cl.refl s
 .exact Cl.refl s
theorem yB (s:S) (n:T):Cl s (gX s n):=
 ⟨λi=>i.forget (λx hx=>(A9.mp hx).1) (AY (DT _ _) i.cq),λ_ f=>f⟩
theorem tW (s:S) (n:T):Cl s (dQ s n):=by
 unfold dQ
 split
 .exact qf s nofun nofun
 split
 .exact Kd s nofun nofun
 split
 .exact Kd s nofun nofun
 split
 .exact qf s nofun nofun
 split
 .exact(qf s nofun nofun).trans (qf _ nofun nofun)
 split
 .exact qw s nofun nofun
 split
 .exact(qw s nofun nofun).trans (yB _ _)
 .exact Cl.refl s
theorem iJ (s:S) (n:T):Cl s (closing s n):=by
 rw[iI];apply Cl.trans ?_ (tW _ n)
 split
 .exact qw s nofun nofun
 .exact Cl.refl s
theorem Inv.bD {s:S} (h:Inv s) (n:T):Inv (bD s n)/\(SILENT.contains n=false->inFrame (bD s n)=false):=by
 unfold An.bD
 split
 .next q=>exact⟨(iJ s n).1 h,λe=>by rw[e]at q;cases q⟩
 .exact⟨(iJ _ n).1 h.nM.1,λ_=>(iJ _ n).2 h.nM.1 h.nM.2⟩
theorem cK {s:S} (h:Inv s) (n:T):before s n=if BLOCKS.contains n=true then bD s n else BM (bD s n):=by
 have e:closing (if inFrame s=true/\SILENT.contains n=false then closeTable s else s) n=bD s n:=by
  unfold bD nM;cases hs:SILENT.contains n with
  |true=>rw[iN (by simp),iP rfl]
  |false=>
   rw[iN (show¬(false=true) by decide)]
   by_cases hf:inFrame s=true
   .rw[iP ⟨hf,rfl⟩,iP hf]
   .rw[iN (λq=>hf q.1),iN hf]
 unfold before;simp only;rw[e]
 split
 .rfl
 .split
  .next hf=>rw[f6 ((h.bD n).1.fr hf)]
  .rfl
def dH (s:S) (n:T):S:=if BLOCKS.contains n=true then bD s n else BM (bD s n)
theorem Inv.dH {s:S} (h:Inv s) (n:T):Inv (dH s n)/\(SILENT.contains n=false->inFrame (dH s n)=false):=by
 obtain⟨h1,h2⟩:=h.bD n;unfold An.dH
 split
 .exact⟨h1,h2⟩
 .exact⟨h1.tM,λq=>(h1.reopened (h2 q)).2.1⟩
def jE (s:S):S:={s with fresh:=false}
theorem bZ {s:S} (h:s.fresh=false):jE s=s:=by cases s;cases h;rfl
theorem Gw:∀n∈SILENT,RAW.contains n=true:=by decide+kernel
theorem vM:BLOCKS.contains (text "form")=true:=by decide+kernel
theorem wG {u:S} (hu:u.fresh=false) {name:T} {a:List Attr} {sh:Bool} (hr:RAW.contains name=true->sh=true) (b:Bool):(bX u name a sh []).1=jE (if VOID.contains name=true\/sh=true then put u name a else{opened u name a with fresh:=b}):=by
 by_cases hv:VOID.contains name=true\/sh=true
 .rw[mT hv.symm,iP hv];have:(put u name a).fresh=false:=by unfold put;split<;>exact hu
  exact(bZ this).symm
 .rw[iN hv];have XZ:VOID.contains name=false:=by cases q:VOID.contains name with|false=>rfl|true=>exact absurd (.inl q) hv
  have ua:sh=false:=by cases sh with|false=>rfl|true=>exact absurd (.inr rfl) hv
  have X8:RAW.contains name=false:=by cases q:RAW.contains name with|false=>rfl|true=>exact absurd (hr q) (by rw[ua];decide)
  rw[i7 XZ X8,ua,iN nofun];have:(opened u name a).fresh=false:=by unfold opened;split<;>exact hu
  exact(bZ this).symm
theorem jU {s:S} (h:Inv s) {name:T} {a:List Attr} {sh:Bool} (hr:RAW.contains name=true->sh=true):(mStart s name a sh []).1=jE (startIn s name a sh):=by
 unfold mStart startIn
 split
 .exact(bZ h.fresh).symm▸rfl
 split
 .exact(bZ h.fresh).symm▸rfl
 split
 .exact(bZ h.fresh).symm
 split
 .next hp=>
  rw[mU hp];have:=(h.eT (a:=a) (sh:=sh) hp).fresh;rw[mU hp]at this;exact(bZ this).symm
 .simp only;rw[cK h];have e0:(if BLOCKS.contains name=true then bD s name else BM (bD s name))=dH s name:=rfl;rw[e0]
  by_cases zX:name=text "form"
  .subst zX;have e1:dH s (text "form")=bD s (text "form"):=by unfold dH;rw[vM];rfl
   rw[e1];have hI:=(h.bD (text "form")).1
   by_cases dW:(bD s (text "form")).open_.any (isOne [text "form"])=true
   .rw[iP ⟨rfl,dW⟩,iP ⟨rfl,dW⟩];exact(bZ hI.fresh).symm
   .rw[iN (λq=>dW q.2),iN (λq=>dW q.2)];exact wG hI.fresh hr _
  .rw[iN (λq=>zX q.1),iN (λq=>zX q.1)];exact wG (h.dH name).1.fresh hr _
theorem Inv.cC {s:S} (h:Inv s) (i:Nat) (a:List Attr):Inv (cC s i a):=by
 unfold An.cC
 split
 .exact⟨h.ch,h.bd,h.fr,h.cq,h.ij,h.nv,h.vf,h.last,h.hf,h.h3,h.b3,h.fresh⟩
 .split
  .exact⟨h.ch,h.bd,h.fr,h.cq,h.ij,h.nv,h.vf,h.last,h.hf,h.h3,h.b3,h.fresh⟩
  .exact⟨h.ch,h.bd,h.fr,h.cq,h.ij,h.nv,h.vf,h.last,h.hf,h.h3,h.b3,h.fresh⟩
theorem gy:∀n∈RAW,VOID.contains n=false/\PARTS.contains n=false/\n≠text "html"/\n≠text "body"/\n≠text "head"/\n≠text "form"/\n≠text "pre":=by decide+kernel
theorem Inv.mStart {s:S} (h:Inv s) {name:T} {a:List Attr} {sh:Bool} {tx:T} (ht:tx≠[]->RAW.contains name=true):Inv (mStart s name a sh tx).1:=by
 unfold An.mStart
 split
 .exact h.cC 0 a
 split
 .exact h.cC 2 a
 split
 .exact h
 split
 .next hp=>
  by_cases hx:tx=[]
  .rw[hx];exact h.eT hp
  .rw[(gy name (has.mp (ht hx))).2.1]at hp;cases hp
 .next hp=>
  have hp:PARTS.contains name=false:=by simpa using hp
  split
  .exact(h.bD name).1
  .obtain⟨h1,h2⟩:=h.dH name;apply h1.bX (λe1 e2 e3=>?_) (λhx=>(gy name (has.mp (ht hx))).1)
   have hs:SILENT.contains name=false:=by
    cases q:SILENT.contains name with
    |false=>rfl
    |true=>rw[Gw name (has.mp q)]at e3;cases e3
   rw[h2 hs,hp]
end An
set_option tactic.hygienic false
namespace An
open Rd27
theorem yI (s:S):begun s []={s with begun:=true}:=rfl
theorem Inv.begin_ {s:S} (h:Inv s):Inv {s with begun:=true}:=⟨h.ch,h.bd,h.fr,h.cq,h.ij,h.nv,h.vf,h.last,h.hf,h.h3,h.b3,h.fresh⟩
theorem Inv.head {s:S} (h:Inv s) {m:Node} (hd:m.depth=3):Inv {s with head:=m::s.head}:=by
 apply⟨h.ch,h.bd,h.fr,h.cq,h.ij,h.nv,h.vf,h.last,?_,λx hx=>?_,h.b3,h.fresh⟩
 .show ke (m::s.head)
  cases hb:s.head with
  |nil=>trivial
  |cons n r=>
   have um:=h.hf;rw[hb]at um;have:=h.h3 n (by rw[hb];simp);exact⟨λq=>by lia,um⟩
 .rcases AG.mp hx with e|e
  .rw[e];nofun
  .exact h.h3 x e
theorem Inv.hV {s:S} (h:Inv s) {n:T} {a:List Attr} {tx:T} (ht:tx≠[]->VOID.contains n=false):Inv (hV s n a tx):=by
 have h1:=h.head (m:=⟨1,3,n,a, []⟩) rfl;unfold An.hV
 by_cases hx:tx=[]
 .rw[iP hx];exact h1
 .rw[iN hx];apply⟨h1.ch,h1.bd,h1.fr,h1.cq,h1.ij,h1.nv,h1.vf,h1.last, ⟨λ_=>ht hx,h1.hf⟩,λx hx=>?_,h1.b3,h1.fresh⟩;rcases AG.mp hx with e|e
  .rw[e];show 3<=4;decide
  .exact h1.h3 x e
theorem Inv.cp {s:S} (h:Inv s) (t:T):Inv (cp s t):=by
 unfold An.cp
 split
 .exact h.node rfl
 .exact h.head rfl
theorem Inv.bY {s:S} (h:Inv s) {n:T} {a:List Attr} {sh:Bool} {tx:T} (ht:tx≠[]->RAW.contains n=true):Inv (bY s n a sh tx).1:=by
 unfold An.bY
 split
 .exact h.mStart ht
 split
 .exact h.cC 0 a
 split
 .exact h.cC 1 a
 split
 .exact h.hV λq=>(gy n (has.mp (ht q))).1
 .exact h.begin_.mStart ht
theorem iE:∀n∈HEADS,n≠text "body"/\n≠text "textarea"/\n≠text "pre"/\n≠text "html"/\n≠text "head":=by decide+kernel
theorem cy {s:S} (h:s.fresh=false) (t:Tok):step s t=(if s.begun=true then(match t with
  | .text x=>textIn s x
  | .remark x=>{s with body:=⟨3,deep s, [], [],x⟩::s.body}
  | .start n a short=>startIn s n a short
  | .raw n a x=>rawIn s n a x
  | .end_ n=>endIn s n)
 else match t with
  | .text x=>(let y:=x.dropWhile blank
   if y.isEmpty=true then s else textIn (begun s []) y)
  | .remark x=>headNode s ⟨3,3, [], [],x⟩
  | .start n a short=>if n=text "html" then{s with htmlA:=added s.htmlA a}else if n=text "head" then{s with headA:=added s.headA a}else if n=text "body" then begun s a
   else if HEADS.contains n=true then headNode s ⟨1,3,n,a, []⟩else startIn (begun s []) n a short
  | .raw n a x=>if HEADS.contains n=true then(let u:=headNode s ⟨1,3,n,a, []⟩
   if x.isEmpty=true then u else headNode u ⟨2,4, [], [],x⟩)else rawIn (begun s []) n a x
  | .end_ _=>s):=by
 have e:({s with fresh:=false}:S)=s:=bZ h;unfold step;simp only;rw[e,h];rfl
theorem tt:(true=true):=rfl
theorem ff:¬(false=true):=by decide
theorem oo {s:S} (h:Inv s) {n:T} {a:List Attr} {sh:Bool} (hr:RAW.contains n=true->sh=true):(bY s n a sh []).1=jE (step s (.start n a sh)):=by
 rw[cy h.fresh];unfold bY;cases hb:s.begun with
 |true=>rw[iP tt,iP tt];exact jU h hr
 |false=>
  rw[iN ff,iN ff];simp only
  by_cases h1:n=text "html"
  .rw[iP h1,iP h1];simp[jE,cC,h.fresh,hb]
  rw[iN h1,iN h1]
  by_cases h2:n=text "head"
  .rw[iP h2,iP h2];simp[jE,cC,h.fresh,hb]
  rw[iN h2,iN h2]
  by_cases h3:n=text "body"
  .rw[iP h3,iN (by intro q;exact(iE n (has.mp q)).1 h3),h3];unfold mStart;rw[iN nofun,iP rfl];simp[jE,cC,begun,h.fresh]
  rw[iN h3]
  by_cases h4:HEADS.contains n=true
  .rw[iP h4,iP h4];simp[jE,hV,headNode,h.fresh]
  .rw[iN h4,iN h4];exact jU h.begin_ hr
theorem sW (n y:T):(if n=text "textarea" then less (if SILENT.contains n=true then y else refs 0 y)else(if SILENT.contains n=true then y else refs 0 y))=bQ n y:=by
 unfold bQ
 by_cases hs:SILENT.contains n=true
 .rw[iP hs,iP hs];have:n≠text "textarea":=λq=>by rw[q]at hs;exact absurd hs nofun
  rw[iN this]
 .rw[iN hs,iN hs]
  by_cases ht:n=text "textarea"
  .rw[iP ht];unfold less;cases hq:refs 0 y with
   |nil=>rw[iN (by simp),iN (by simp)]
   |cons c r=>
    by_cases hc:c=10
    .rw[iP (show(c::r).headD 0=10 from hc),iP ⟨ht,by rw[hc];rfl⟩]
    .rw[iN (show¬(c::r).headD 0=10 from hc),iN (by rintro⟨_,q⟩;injection q with q _;exact hc q)]
  .rw[iN ht,iN (λq=>ht q.1)]
theorem tm {α:Type} (v:T) (a b:α):(if v.isEmpty=true then a else b)=if v=[]then a else b:=by
 cases v<;>simp
theorem sD {s:S} (h:Inv s) {n:T} {a:List Attr} {y:T} (hr:RAW.contains n=true):(mStart s n a false (bQ n y)).1=jE (rawIn s n a (if SILENT.contains n=true then y else refs 0 y)):=by
 obtain⟨k1,k2,k3,k4,k5,k6,k7⟩:=gy n (has.mp hr);unfold mStart rawIn;rw[iN k3,iN k4,iN k5,iN (by rw[k2];decide),iN (λq=>k6 q.1)];simp only;rw[cK h,sW];have e0:(if BLOCKS.contains n=true then bD s n else BM (bD s n))=dH s n:=rfl;rw[e0];have hI:=(h.dH n).1;generalize dH s n=u at hI ⊢;unfold bX LOWEST;rw[hr,k1,tm]
 by_cases hd:deep u<=199
 .rw[iP hd,iP hd,iN nofun];unfold jE;simp[hI.fresh]
 .rw[iN hd,iN hd];exact(bZ hI.fresh).symm
theorem tK {s:S} (h:Inv s) {n:T} {a:List Attr} {y:T} (hr:RAW.contains n=true):(bY s n a false (bQ n y)).1=jE (step s (.raw n a (if SILENT.contains n=true then y else refs 0 y))):=by
 obtain⟨k1,k2,k3,k4,k5,k6,k7⟩:=gy n (has.mp hr);rw[cy h.fresh];unfold bY;cases hb:s.begun with
 |true=>rw[iP tt,iP tt];exact sD h hr
 |false=>
  rw[iN ff,iN ff,iN k3,iN k5];simp only
  by_cases hh:HEADS.contains n=true
  .rw[iP hh,iP hh];have hx:=sW n y;rw[iN (iE n (has.mp hh)).2.1]at hx;rw[hx,tm];unfold hV headNode jE
   by_cases hq:bQ n y=[]
   .rw[iP hq,iP hq];simp[h.fresh]
   .rw[iN hq,iN hq];simp[h.fresh]
  .rw[iN hh,iN hh];exact sD h.begin_ hr
theorem x9 {s:S} (h:Inv s) (t:T):cp s t=jE (step s (.remark t)):=by
 rw[cy h.fresh];unfold cp;cases hb:s.begun with
 |true=>rw[iP tt,iP tt];simp[jE,h.fresh]
 |false=>rw[iN ff,iN ff];simp[jE,headNode,h.fresh,hb]
theorem sY {s:S} (h:Inv s) {n:T} {a:List Attr} {sh:Bool}:(step s (.start n a sh)).fresh=true↔((bY s n a sh []).2=true/\n=text "pre"):=by
 have core:∀{s:S},Inv s->((startIn s n a sh).fresh=true↔((mStart s n a sh []).2=true/\n=text "pre")):=by
  intro s h
  by_cases hn:n=text "pre"
  .subst hn;unfold startIn mStart;have n1:¬text "pre"=text "html":=by decide
   have n2:¬text "pre"=text "body":=by decide
   have n3:¬text "pre"=text "head":=by decide
   have n4:¬PARTS.contains (text "pre")=true:=by decide
   have n5:¬text "pre"=text "form":=by decide
   have n6:BLOCKS.contains (text "pre")=true:=by decide
   rw[iN n1,iN n1,iN n2,iN n2,iN n3,iN n3,iN n4,iN n4];simp only;rw[cK h,iP n6];rw[iN (show¬(text "pre"=text "form"/\(bD s (text "pre")).open_.any (isOne [text "form"])=true)from λq=>n5 q.1),iN (show¬(text "pre"=text "form"/\(bD s (text "pre")).open_.any (isOne [text "form"])=true)from λq=>n5 q.1)];have hI:=(h.bD (text "pre")).1;generalize bD s (text "pre")=u at hI ⊢;unfold bX LOWEST;have v1:VOID.contains (text "pre")=false:=by decide
   have v2:RAW.contains (text "pre")=false:=by decide
   rw[v1,v2];cases sh with
   |true=>
    rw[iP (.inr rfl)];have:(put u (text "pre") a).fresh=false:=by unfold put;split<;>exact hI.fresh
    rw[this]
    split<;>simp
   |false=>
    rw[iN nofun];simp only
    by_cases hd:deep u<=199
    .rw[iP hd];simp[hd]
    .rw[iN hd];simp[hd]
  .constructor
   .intro hf;exfalso;unfold startIn at hf
    split at hf
    .have:s.fresh=true:=hf;rw[h.fresh]at this;cases this
    split at hf
    .have:s.fresh=true:=hf;rw[h.fresh]at this;cases this
    split at hf
    .rw[h.fresh]at hf;cases hf
    split at hf
    .next hp=>
     have:=(h.eT (a:=a) (sh:=sh) hp).fresh;rw[mU hp,hf]at this;cases this
    .simp only at hf;rw[cK h]at hf;have e0:(if BLOCKS.contains n=true then bD s n else BM (bD s n))=dH s n:=rfl;rw[e0]at hf;have hI:=(h.dH n).1;generalize dH s n=u at hI hf
     split at hf
     .rw[hI.fresh]at hf;cases hf
     split at hf
     .have:(put u n a).fresh=false:=by unfold put;split<;>exact hI.fresh
      rw[this]at hf;cases hf
     .have hf:(decide (n=text "pre")&&decide (deep u<=LOWEST))=true:=hf;rw[decide_eq_false hn]at hf;cases hf
   .exact λq=>absurd q.2 hn
 rw[cy h.fresh];unfold bY;cases hb:s.begun with
 |true=>rw[iP tt,iP tt];exact core h
 |false=>
  rw[iN ff,iN ff];simp only
  by_cases h1:n=text "html"
  .rw[iP h1,iP h1];simp[h.fresh]
  rw[iN h1,iN h1]
  by_cases h2:n=text "head"
  .rw[iP h2,iP h2];simp[h.fresh]
  rw[iN h2,iN h2]
  by_cases h3:n=text "body"
  .rw[iP h3,iN (by intro q;exact(iE n (has.mp q)).1 h3)];unfold begun;simp only[h.fresh];constructor
   .intro q;cases q
   .intro q;rw[h3]at q;exact absurd q.2 nofun
  rw[iN h3]
  split
  .next hh=>
   unfold headNode;simp only[h.fresh];constructor
   .intro q;cases q
   .intro q;cases q.1
  .exact core h.begin_
end An
namespace An
open Rd27
theorem w9 {s:S} (h:Inv s):ki s=put (before s (text "p")) (text "p") []:=by
 have n1:¬text "p"=text "html":=by decide
 have n2:¬text "p"=text "body":=by decide
 have n3:¬text "p"=text "head":=by decide
 have n4:¬PARTS.contains (text "p")=true:=by decide
 have n5:¬text "p"=text "form":=by decide
 have n6:BLOCKS.contains (text "p")=true:=by decide
 have e:mStart s (text "p") [] false []=bX (bD s (text "p")) (text "p") [] false []:=by
  unfold mStart;rw[iN n1,iN n2,iN n3,iN n4,iN (λq=>n5 q.1),iP n6]
 unfold ki;rw[e,cK h,iP n6];have hI:=(h.bD (text "p")).1;generalize bD s (text "p")=u at hI ⊢;unfold bX put LOWEST
 by_cases hd:deep u<=199
 .rw[iP hd,iP hd];rw[show(!(false||VOID.contains (text "p")||RAW.contains (text "p")))=true by decide,iP tt];simp only[if_true];unfold bo opened LOWEST;rw[iP hd];rw[iP (show [text "p"].contains (current {u with body:=⟨1,deep u,text "p", [], []⟩::u.body,open_:=(text "p", [])::u.open_,again:=if WALLS.contains (text "p")=true then []else u.again})=true from(show [text "p"].contains (text "p")=true by decide))];have w1:WALLS.contains (text "p")=false:=by decide
  rw[iN (show¬WALLS.contains (text "p")=true by decide)];have w2:isOne WALLS (text "p", ([]:List Attr))=false:=w1;have h8:=hI.cq;unfold DB;simp[w2];rw[show u.again.length-8=0 by omega];rfl
 .rw[iN hd,iN hd];simp only;rw[iN ff]
theorem sS (n:T) (hn:n≠text "table"):∀l:List Open, (match nearest l (isOne [n,text "table"]) never with
  |some k=>if(l[k]?).any (λx=>decide (x.1=n))=true then some k else none
  |none=>none)=nearest l (isOne [n]) isTable
 |[]=>rfl
 |x::l=>by
  rw[nearest,nearest];have ih:=sS n hn l
  by_cases h1:x.1=n
  .have a1:isOne [n,text "table"] x=true:=by unfold isOne;rw[h1];simp
   have a2:isOne [n] x=true:=by unfold isOne;rw[h1];simp
   rw[iP a1,iP a2];simp[h1]
  .have a2:¬isOne [n] x=true:=by unfold isOne;simp;exact h1
   rw[iN a2]
   by_cases h2:x.1=text "table"
   .have a1:isOne [n,text "table"] x=true:=by unfold isOne;rw[h2];simp
    have a3:isTable x=true:=by unfold isTable;rw[h2];simp
    rw[iP a1,iP a3];simp[h1]
   .have a1:¬isOne [n,text "table"] x=true:=by unfold isOne;simp;exact⟨h1,h2⟩
    have a3:¬isTable x=true:=by unfold isTable;simp;exact h2
    rw[iN a1,iN a3,iN (show¬never x=true by unfold never;decide),<-ih];cases nearest l (isOne [n,text "table"]) never with
    |none=>rfl
    |some k=>
     simp only[EX,EA]
     split<;>rfl
theorem w8 (s:S) (n:T):kg s n=if n=text "table" then closeNear s isTable never else closeNear s (isOne [n]) isTable:=by
 by_cases hn:n=text "table"
 .rw[iP hn,hn];unfold kg closeNear
  have e:isOne [text "table",text "table"]=isTable:=by
   rw[dC];funext x;unfold isOne;simp
  rw[e];cases hk:nearest s.open_ isTable never with
  |none=>rfl
  |some k=>
   obtain⟨x,h1,h2⟩:=cH hk;have h2:x.1=text "table":=by unfold isTable at h2;simpa using h2
   simp only[h1];rw[iP (by simp[h2])]
 .rw[iN hn];have e:=sS n hn s.open_;unfold kg closeNear;rw[<-e];cases nearest s.open_ (isOne [n,text "table"]) never with
  |none=>rfl
  |some k=>simp only;split<;>rfl
theorem gD (n:T):(["html","head","body"].map text).contains n=true↔(n=text "html"\/n=text "head"\/n=text "body"):=by
 simp
theorem Hv {s:S} (h:Inv s) (n:T):lp s n=jE (step s (.end_ n)):=by
 rw[cy h.fresh];unfold lp;cases hb:s.begun with
 |false=>rw[iP (.inl rfl),iN ff];exact(bZ h.fresh).symm
 |true=>
  rw[iP tt];simp only;unfold endIn
  by_cases h1:n=text "html"\/n=text "head"\/n=text "body"
  .rw[iP (.inr ((gD n).mpr h1)),iP h1];exact(bZ h.fresh).symm
  rw[iN (by rintro(q|q);cases q;exact h1 ((gD n).mp q)),iN h1]
  by_cases h2:n=text "br"
  .rw[iP h2,iP h2,h2];exact jU h nofun
  rw[iN h2,iN h2]
  by_cases h3:n=text "table"\/PARTS.contains n=true
  .rw[iP h3]
   have hp:¬(n=text "p"/\(nearest s.open_ (isOne [n]) (isOne WALLS)).isNone=true):=by
    rintro⟨q,_⟩;rw[q]at h3;exact absurd h3 nofun
   rw[iN hp,w8]
   by_cases h4:n=text "table"
   .rw[iP h4,iP h4];exact(bZ h.closeTable.fresh).symm
   .rw[iN h4,iN h4,iP (h3.resolve_left h4)];have:(closeNear s (isOne [n]) isTable).fresh=false:=by unfold closeNear;split<;>exact h.fresh
    exact(bZ this).symm
  .rw[iN h3];have h4:¬n=text "table":=λq=>h3 (.inl q);have h5:¬PARTS.contains n=true:=λq=>h3 (.inr q);rw[iN h4,iN h5];unfold l9;cases hk:nearest s.open_ (isOne [n]) (isOne WALLS)with
   |some k=>
    show DB s k=jE (if n=text "p"/\(some k).isNone=true then _ else DB s k)
    rw[iN (λq=>by cases q.2)];have:(DB s k).fresh=false:=h.fresh;exact(bZ this).symm
   |none=>
    simp only
    by_cases h6:n=text "p"
    .rw[iP h6,iP ⟨h6,rfl⟩,h6,w9 h,cK h];have hI:=(h.dH (text "p")).1;have e0:(if BLOCKS.contains (text "p")=true then bD s (text "p")else BM (bD s (text "p")))=dH s (text "p"):=rfl;rw[e0];have:(put (dH s (text "p")) (text "p") []).fresh=false:=by unfold put;split<;>exact hI.fresh
     exact(bZ this).symm
    .rw[iN h6,iN (show¬(n=text "p"/\(none:Option Nat).isNone=true)from λq=>h6 q.1)]
     by_cases h7:STYLED.contains n=true
     .rw[iP h7,iP h7];unfold dD;cases List.findIdx? (λx:Open=>x.fst==n) s.again.reverse with
      |none=>exact(bZ h.fresh).symm
      |some i=>simp[jE,h.fresh]
     .rw[iN h7,iN h7];exact(bZ h.fresh).symm
theorem Inv.ki {s:S} (h:Inv s):Inv (ki s):=by
 rw[w9 h,cK h];have hI:Inv (if BLOCKS.contains (text "p")=true then An.bD s (text "p")else BM (An.bD s (text "p"))):=(h.dH (text "p")).1;generalize(if BLOCKS.contains (text "p")=true then An.bD s (text "p")else BM (An.bD s (text "p")))=u at hI ⊢;unfold put
 split
 .exact hI.node rfl
 .exact hI
theorem Inv.lp {s:S} (h:Inv s) (n:T):Inv (lp s n):=by
 unfold An.lp
 split
 .exact h
 .next hn=>
  have rW:n≠text "body":=λq=>hn (.inr ((gD n).mpr (.inr (.inr q))))
  have hb:[n].contains (text "body")=false:=by
   rw[PX];simp;exact λq=>rW q.symm
  split
  .exact h.mStart (λq=>absurd rfl q)
  split
  .rw[w8]
   split
   .exact h.closeTable
   .exact h.near (fF hb)
  .unfold l9
   split
   .next k e=>exact h.close (h.inner (fF hb) e)
   .split
    .exact h.ki
    .split
     .unfold dD
      split
      .exact h.forget (λx hx=>D7 hx) (AY (EB _ _) h.cq)
      .exact h
     .exact h
end An
namespace An
open Rd27
theorem kA (s:S):putText s []=s:=rfl
theorem d8 (s:S) (t:T):(putText s t).open_=s.open_/\(putText s t).again=s.again/\(putText s t).begun=s.begun:=by
 unfold putText
 split
 .exact⟨rfl,rfl,rfl⟩
 .split
  .split<;>exact⟨rfl,rfl,rfl⟩
  .exact⟨rfl,rfl,rfl⟩
theorem dr (s:S) (c:Nat) (t:T):putText s (c::t)=(match s.body with
 |n::r=>if n.kind=2/\n.depth=deep s then{s with body:={n with text:=n.text++c::t}::r}else{s with body:=⟨2,deep s, [], [],c::t⟩::s.body}
 |[]=>{s with body:=[⟨2,deep s, [], [],c::t⟩]}):=rfl
theorem gE (s:S) (a b:T):putText (putText s a) b=putText s (a++b):=by
 cases a with
 |nil=>rfl
 |cons c a=>
  cases b with
  |nil=>rw[kA,A6]
  |cons d b=>
   rw[AS,dr s c (a++d::b),dr s c a];cases hb:s.body with
   |nil=>
    simp only;rw[dr];simp only;rw[iP ⟨trivial,rfl⟩];simp
   |cons n r=>
    simp only
    by_cases h:n.kind=2/\n.depth=deep s
    .rw[iP h,iP h,dr];simp only;rw[iP ⟨h.1,h.2⟩];simp
    .rw[iN h,iN h,dr];simp only;rw[iP ⟨trivial,rfl⟩];simp
theorem qK {s:S} {c:Nat} (h:blank c=true) (t:T):textIn s (c::t)=textIn (putText s [c]) t:=by
 unfold textIn;simp only;rw[A8 h,AA,AA];have e:putText s (c::t.takeWhile blank)=putText (putText s [c]) (t.takeWhile blank):=by rw[gE];rfl
 rw[e]
 by_cases hl:(t.takeWhile blank).length=t.length
 .rw[iP (by lia),iP hl]
 .rw[iN (by lia),iN hl];rfl
theorem ni {s t:S} (h:s.open_=t.open_):inFrame s=inFrame t:=by unfold inFrame current;rw[h]
theorem tJ {s:S} (ha:s.again=[]) (hf:inFrame s=false) (t:T):textIn s t=putText s t:=by
 obtain⟨e1,e2,e3⟩:=d8 s (t.takeWhile blank);unfold textIn;simp only
 split
 .next h=>
  have:t.takeWhile blank=t:=by
   have:=List.takeWhile_prefix blank (l:=t);exact this.eq_of_length h
  rw[this]
 .rw[iN (by rw[ni e1,hf];decide),f6 (e2.trans ha),gE];congr 1;rw[eZ];exact CA
theorem gA {s:S} (h:Inv s) (x:Nat) (xs:T):step s (.text (x::xs))=step (ez s x) (.text xs)/\Inv (ez s x):=by
 have hu:=h.begin_.nM;have hr:=hu.1.reopened hu.2
 have hI:Inv (ez s x):=by
  unfold ez
  split
  .split
   .exact h.putText _
   .exact h
  .exact hr.1.putText _
 apply⟨?_,hI⟩;rw[cy h.fresh,cy hI.fresh]
 have core:blank x=false->textIn {s with begun:=true} (x::xs)=textIn (putText (BM (nM {s with begun:=true})) [x]) xs:=by
  intro hx;obtain⟨e1,e2,e3⟩:=d8 (BM (nM {s with begun:=true})) [x];rw[tJ (e2.trans hr.2.2) ((ni e1).trans hr.2.1),gE];unfold textIn;simp only;rw[BX (by rw[hx];decide),BI,iN (by simp),kA];rfl
 have bN:(putText (BM (nM {s with begun:=true})) [x]).begun=true:=by
  rw[(d8 _ _).2.2, (dS hu.1.cq).2, (gP _).2]
 unfold ez;cases hx:blank x with
 |true=>
  rw[iP tt];cases hb:s.begun with
  |true=>
   rw[iP tt,iP tt, (d8 s [x]).2.2,hb,iP tt];exact qK hx xs
  |false=>
   rw[iN ff,iN ff,hb,iN ff];simp only;rw[List.dropWhile_cons_of_pos hx]
 |false=>
  rw[iN ff,bN,iP tt];simp only;cases hb:s.begun with
  |true=>
   rw[iP tt,<-core hx];have:({s with begun:=true}:S)=s:=by cases s;cases hb;rfl
   rw[this]
  |false=>
   rw[iN ff];rw[List.dropWhile_cons_of_neg (by rw[hx];decide),iN (by simp),yI];exact core hx
theorem ia {s:S} (h:s.fresh=false):step s (.text [])=s:=by
 rw[cy h];cases hb:s.begun with
 |true=>rw[iP tt];rfl
 |false=>rw[iN ff];rfl
theorem f9 {t:S} (h:t.fresh=true) (x:T):step t (.text x)=step (jE t) (.text (less x)):=by
 rw[cy (s:=jE t) rfl];unfold step;simp only;rw[h];show(if t.begun=true then _ else _)=(if t.begun=true then _ else _)
 by_cases hb:t.begun=true
 .rw[iP hb,iP hb];rfl
 .rw[iN hb,iN hb]
  have:(less x).dropWhile blank=x.dropWhile blank:=by
   unfold less;cases x with
   |nil=>rfl
   |cons c r=>
    by_cases hc:c=10
    .subst hc;rw[iP (show(10::r).headD 0=10 from rfl)];rfl
    .rw[iN (show¬(c::r).headD 0=10 from hc)]
  simp only[this];rfl
theorem j9 {t:S} {k:Tok} (hk:∀x,k≠.text x):step t k=step (jE t) k:=by
 cases k with
 |text x=>exact absurd rfl (hk x)
 |start n a sh=>rfl
 |raw n a x=>rfl
 |end_ n=>rfl
 |remark x=>rfl
end An
namespace An
open Rd27
theorem L5 {p:Nat->Bool} {l:List Nat} {x:Nat} (h:x∈l) (hx:p x=false):(l.takeWhile p).length<l.length:=by
 induction l with
 |nil=>cases h
 |cons c l ih=>
  by_cases hc:p c=true
  .rw[A8 hc];rcases AG.mp h with e|e
   .rw[<-e,hx]at hc;cases hc
   .have:=ih e;simp;nofun
  .rw[BX hc];simp
theorem Gj {p:Nat->Bool} {l m:List Nat} {x:Nat} (h:x∈l) (hx:p x=false):(l++m).takeWhile p=l.takeWhile p:=by
 induction l with
 |nil=>cases h
 |cons c l ih=>
  rw[AS]
  by_cases hc:p c=true
  .rw[A8 hc,A8 hc];rcases AG.mp h with e|e
   .rw[<-e,hx]at hc;cases hc
   .rw[ih e]
  .rw[BX hc,BX hc]
theorem wo {p:Nat->Bool} {l m:List Nat} (h:∀x∈l,p x=true):(l++m).takeWhile p=l++m.takeWhile p:=by
 induction l with
 |nil=>rfl
 |cons c l ih=>rw[AS,A8 (h c (by simp)),ih λx hx=>h x (by simp[hx])];rfl
theorem sO {d:List Nat} {base:Nat} (hb:base<=16) (h:60∈d):numOf d base= -1:=by
 have hq:¬(∀c∈d,aX c<base):=λq=>by
  have:=q 60 h;have e:aX 60=16:=by decide
  lia
 rw[sN base hb,iP (.inr hq)]
theorem tO {d:List Nat} (h:60∈d):numbered d= -1:=by
 unfold numbered
 have:(if d.headD 0=88\/d.headD 0=120 then numOf d.tail 16 else numOf d 10)= -1:=by
  split
  .next q=>
   apply sO nofun ?_;cases d with
   |nil=>cases h
   |cons c d=>
    rcases AG.mp h with e|e
    .rw[<-e]at q;exact absurd (show(60:Nat)=88\/(60:Nat)=120 from q) nofun
    .exact e
  .exact sO nofun h
 simp only[this];rw[iN (by lia)]
theorem Cg:∀x∈NAMED,¬60∈x.1:=by decide+kernel
theorem vz {b:List Nat} (h:60∈b):bB b= -1:=by
 unfold bB
 have:(NAMED.find? λx=>x.1==b)=none:=by
  apply FC.mpr λx hx q=>?_;have:x.1=b:=by simpa using q
  exact Cg x hx (this▸h)
 rw[this]
theorem Bv (w z:List Nat):fN (w++60::z)=fN w:=by
 have e9:(w++60::z).take 9=w.take 9++(60::z).take (9-w.length):=DW ..
 by_cases h:59∈w.take 9
 .unfold fN;have h2:59∈(w++60::z).take 9:=by rw[e9];exact C0 _ h
  have e:((w++60::z).take 9).takeWhile (λd=>d !=59)=(w.take 9).takeWhile λd=>d !=59:=by rw[e9];exact Gj h nofun
  rw[iN (show¬¬59∈(w++60::z).take 9 from λq=>q h2),iN (show¬¬59∈w.take 9 from λq=>q h)];simp only[e]
 .have r1:fN w=none:=by unfold fN;rw[iP h]
  rw[r1];unfold fN
  by_cases h2:59∈(w++60::z).take 9
  .rw[iN (λq=>q h2)]
   have hw:w.length<9:=by
    by_cases q:w.length<9
    .exact q
    .rw[e9,show 9-w.length=0 by omega,List.take_zero,A6]at h2;exact absurd h2 h
   have VD:w.take 9=w:=AK (by nofun)
   have hb:60∈((w++60::z).take 9).takeWhile λd=>d !=59:=by
    rw[e9,VD,wo (λx hx=>by
     have:x≠59:=λq=>h (by rw[VD];exact q▸hx)
     simpa using this)]
    obtain⟨k,hk⟩:∃k,9-w.length=k+1:=⟨9-w.length-1,by lia⟩
    rw[hk,BK,A8 nofun];simp
   generalize((w++60::z).take 9).takeWhile (λd=>d !=59)=b at hb;simp only
   have:(if b.take 1=[35]then numbered (b.drop 1)else bB b)= -1:=by
    split
    .next q=>
     apply tO ?_;obtain⟨r,e⟩:=(Bm b).mp q;rw[e]at hb ⊢;rcases AG.mp hb with e2|e2
     .exact absurd e2 nofun
     .exact e2
    .exact vz hb
   rw[this,iP nofun]
  .rw[iP h2]
theorem xY (c:Nat) (w z:List Nat):aR c (w++60::z)=aR c w:=by
 rw[gx,gx,Bv]
theorem Bl (c:Nat) (w:List Nat):(aR c w).2<=w.length+1:=by
 rw[gx]
 split
 .cases h:fN w with
  |none=>simp
  |some x=>
   simp only;unfold fN at h
   split at h
   .cases h
   .next q=>
    have q:59∈w.take 9:=by
     by_cases z:59∈w.take 9
     .exact z
     .exact absurd z q
    have:=L5 (p:=λd=>d !=59) q nofun;have hl:(w.take 9).length<=w.length:=by rw[AX];lia
    simp only at h;generalize(if ER 1 ((w.take 9).takeWhile λd=>d !=59)=[35]then numbered (DR 1 ((w.take 9).takeWhile λd=>d !=59))else bB ((w.take 9).takeWhile λd=>d !=59))=pp at h
    by_cases hp:pp<0
    .rw[iP hp]at h;cases h
    .rw[iN hp]at h;injection h with h;rw[<-h];simp only;nofun
 .simp
theorem jf {s:T}:∀{t:T} {x:T×T},upTo s t=some x->x.2.length<=t.length
 |[],x,h=>by
  unfold upTo at h
  split at h
  .cases h;simp
  .cases h
 |c::r,x,h=>by
  unfold upTo at h
  split at h
  .cases h;simp only[AM];omega
  .cases hr:upTo s r with
   |none=>rw[hr]at h;cases h
   |some y=>
    rw[hr]at h;cases h;have:=jf hr;simp only[AA];nofun
theorem uI:∀t:T, (match upTo [62] t with|some x=>x.2|none=>[])=t.drop ((t.takeWhile λc=>![62].contains c).length+1)
 |[]=>rfl
 |c::r=>by
  unfold upTo
  by_cases hc:c=62
  .subst hc;rw[iP (show ER [62].length (62::r)=[62]from rfl),BX nofun];rfl
  .rw[iN (show¬ER [62].length (c::r)=[62] by intro q;injection q with q _;exact hc q),A8 (by simp[hc])];have ih:=uI r;rw[AA];cases h:upTo [62] r with
   |none=>rw[h]at ih;exact ih
   |some x=>rw[h]at ih;exact ih
theorem Aj:∀(n:Nat) {sl:Bool} {t:T} {l:List Attr} {x:List Attr×Bool×T},t.length<=n->A sl t l=some x->x.2.2.length<t.length
 |n,sl, [],l,x,hn,h=>by rw[Ai]at h;cases h
 |0,sl,c::r,l,x,hn,h=>by simp at hn
 |n+1,sl,c::r,l,x,hn,h=>by
  have hn:r.length<=n:=by simpa using hn
  by_cases hc:c=62
  .rw[hc,Pe]at h;cases h;simp
  .cases hb:bs c with
   |true=>
    rw[Pf sl c r l hb]at h;have:=Aj n hn h;simp;nofun
   |false=>
    rw[Bj sl c r l hb hc]at h;have h1:=yK r;have:=Aj n (by nofun) h;simp;lia
theorem i6 {t:T} {x:T×List Attr×Bool×T} (h:tag t=some x):x.2.2.2.length<t.length:=by
 rw[Ao]at h;cases hA:A false (t.drop (t.takeWhile λd=>![9,10,12,32,47,62].contains d).length) []with
 |none=>rw[hA]at h;cases h
 |some y=>
  rw[hA]at h;cases h;have:=Aj _ (AE _) hA;rw[AM]at this;simp only;omega
theorem qp (n:T):∀t:T, (raw n t).1.length+(raw n t).2.length=t.length
 |[]=>rfl
 |c::r=>by
  rw[sC]
  split
  .simp
  .have:=qp n r;simp only[AA];lia
end An
namespace An
open Rd27
def uz (r:T) (k:T->List Tok):List Tok:=match upTo [45,45,62] r with|some x=> .remark x.1::k x.2|none=>[.remark r]
def rD (r:T) (k:T->List Tok):List Tok:=if letter (r.headD 0)=true then(match tag r with|some x=> .end_ x.1::k x.2.2.2|none=>[])else(match upTo [62] r with|some x=>k x.2|none=>[])
def fL (y:T):T:=match tag (y.drop 2)with|some w=>w.2.2.2|none=>[]
def kf (x:T×List Attr×Bool×T) (k:T->List Tok):List Tok:=if x.2.2.1=false/\RAW.contains x.1=true then .raw x.1 x.2.1 (if SILENT.contains x.1=true then(raw x.1 x.2.2.2).1 else refs 0 (raw x.1 x.2.2.2).1)::k (fL (raw x.1 x.2.2.2).2)else .start x.1 x.2.1 x.2.2.1::k x.2.2.2
def El (c:Nat) (r:T) (k:T->List Tok):List Tok:=if letter c=true then(match tag (c::r)with|none=>[]|some x=>kf x k)else if c=33\/c=63 then(match upTo [62] r with|some x=>k x.2|none=>[])else .text [60]::k (c::r)
def rC (c:Nat) (r:T) (k:T->List Tok):List Tok:= .text (refs 0 (c::r.takeWhile λd=>d !=60))::k (r.drop (r.takeWhile λd=>d !=60).length)
theorem Ag (f:Nat) (r:T):tokens (f+1) (60::33::45::45::r)=uz r (tokens f):=rfl
theorem Ah (f:Nat) (r:T):tokens (f+1) (60::47::r)=rD r (tokens f):=rfl
theorem LV (f c:Nat) (r:T) (h1:c≠47) (h2:¬(c::r).take 3=[33,45,45]):tokens (f+1) (60::c::r)=El c r (tokens f):=by
 rw[tokens]
 .rfl
 .intro r1 e1 e2;exact h2 (by rw[e1,e2];rfl)
 .exact h1
theorem Af (f c:Nat) (r:T) (h:c≠60\/r=[]):tokens (f+1) (c::r)=rC c r (tokens f):=by
 have hh:∀x y,c=60->r=x::y->False:=λx y e1 e2=>by
  rcases h with h|h
  .exact h e1
  .rw[h]at e2;cases e2
 rw[tokens]
 .rfl
 .intro r1 e1 e2;exact hh _ _ e1 e2
 .intro r1 e1 e2;exact hh _ _ e1 e2
 .intro r1 r2 e1 e2;exact hh _ _ e1 e2
theorem shape (u:T):u=[]\/(∃r,u=60::33::45::45::r)\/(∃r,u=60::47::r)\/(∃c r,u=60::c::r/\c≠47/\¬(c::r).take 3=[33,45,45])\/∃c r,u=c::r/\(c≠60\/r=[]):=by
 cases u with
 |nil=>exact .inl rfl
 |cons c r=>
  by_cases hc:c=60
  .subst hc;cases r with
   |nil=>exact .inr (.inr (.inr (.inr ⟨60, [],rfl,.inr rfl⟩)))
   |cons d r=>
    by_cases h1:d=47
    .exact .inr (.inr (.inl ⟨r,by rw[h1]⟩))
    .by_cases h2:(d::r).take 3=[33,45,45]
     .refine .inr (.inl ?_)
      match r,h2 with
      |e::g::r,h2=>
       injection h2 with a h2;injection h2 with b h2;injection h2 with c _;exact⟨r,by rw[a,b,c]⟩
     .exact .inr (.inr (.inr (.inl ⟨d,r,rfl,h1,h2⟩)))
  .exact .inr (.inr (.inr (.inr ⟨c,r,rfl,.inl hc⟩)))
theorem ig (y:T):(fL y).length<=y.length:=by
 unfold fL;cases h:tag (y.drop 2)with
 |none=>simp
 |some w=>have:=i6 h;rw[AM]at this;simp only;omega
theorem mZ {r:T} {k k':T->List Tok} (h:∀u:T,u.length<=r.length->k u=k' u):uz r k=uz r k':=by
 unfold uz;cases hu:upTo [45,45,62] r with
 |none=>rfl
 |some x=>simp only;rw[h _ (jf hu)]
theorem m4 {r:T} {k k':T->List Tok} (h:∀u:T,u.length<=r.length->k u=k' u):rD r k=rD r k':=by
 unfold rD
 split
 .cases hu:tag r with
  |none=>rfl
  |some x=>simp only;rw[h _ (E5 (i6 hu))]
 .cases hu:upTo [62] r with
  |none=>rfl
  |some x=>simp only;rw[h _ (jf hu)]
theorem oR {c:Nat} {r:T} {k k':T->List Tok} (h:∀u:T,u.length<=r.length+1->k u=k' u):El c r k=El c r k':=by
 unfold El
 split
 .cases hu:tag (c::r)with
  |none=>rfl
  |some x=>
   have h1:=i6 hu;simp only[AA]at h1;simp only;unfold kf;have h2:=qp x.1 x.2.2.2;have h3:=ig (raw x.1 x.2.2.2).2
   split
   .rw[h _ (by lia)]
   .rw[h _ (by nofun)]
 .split
  .cases hu:upTo [62] r with
   |none=>rfl
   |some x=>simp only;rw[h _ (by have:=jf hu;nofun)]
  .rw[h _ (by simp)]
theorem mY {c:Nat} {r:T} {k k':T->List Tok} (h:∀u:T,u.length<=r.length->k u=k' u):rC c r k=rC c r k':=by
 unfold rC;rw[h _ (by rw[AM];omega)]
theorem dR:∀(n f g:Nat) (u:T),u.length<=n->u.length<f->u.length<g->tokens f u=tokens g u
 |n,0,g,u,_,h,_=>by lia
 |n,f+1,0,u,_,_,h=>by lia
 |n,f+1,g+1,u,hn,hf,hg=>by
  rcases shape u with e|⟨r,e⟩|⟨r,e⟩|⟨c,r,e,h1,h2⟩|⟨c,r,e,h1⟩
  .subst e;rfl
  .subst e;simp only[AA]at hn hf hg;obtain⟨n,rfl⟩:∃m,n=m+1:=⟨n-1,by lia⟩
   rw[Ag,Ag];exact mZ λu hu=>dR n f g u (by lia) (by lia) (by lia)
  .subst e;simp only[AA]at hn hf hg;obtain⟨n,rfl⟩:∃m,n=m+1:=⟨n-1,by lia⟩
   rw[Ah,Ah];exact m4 λu hu=>dR n f g u (by lia) (by lia) (by lia)
  .subst e;simp only[AA]at hn hf hg;obtain⟨n,rfl⟩:∃m,n=m+1:=⟨n-1,by omega⟩
   rw[LV _ _ _ h1 h2,LV _ _ _ h1 h2];exact oR λu hu=>dR n f g u (by lia) (by lia) (by lia)
  .subst e;simp only[AA]at hn hf hg;obtain⟨n,rfl⟩:∃m,n=m+1:=⟨n-1,by lia⟩
   rw[Af _ _ _ h1,Af _ _ _ h1];exact mY λu hu=>dR n f g u (by lia) (by lia) (by lia)
def tok (u:T):List Tok:=tokens (u.length+1) u
theorem pX {f:Nat} {u:T} (h:u.length<f):tokens f u=tok u:=dR _ _ _ u (AE _) h (CO _)
theorem wx (r:T):tok (60::33::45::45::r)=uz r tok:=by
 unfold tok;rw[Ag];exact mZ λu hu=>pX (by simp only[AA];lia)
theorem qj (r:T):tok (60::47::r)=rD r tok:=by
 unfold tok;rw[Ah];exact m4 λu hu=>pX (by simp only[AA];lia)
theorem pY {c:Nat} {r:T} (h1:c≠47) (h2:¬(c::r).take 3=[33,45,45]):tok (60::c::r)=El c r tok:=by
 unfold tok;rw[LV _ _ _ h1 h2];exact oR λu hu=>pX (by simp only[AA];nofun)
theorem qi {c:Nat} {r:T} (h:c≠60\/r=[]):tok (c::r)=rC c r tok:=by
 unfold tok;rw[Af _ _ _ h];exact mY λu hu=>pX (by simp only[AA];nofun)
end An
namespace An
open Rd27
def fin (s:S) (u:T):S:=jE ((tok u).foldl step s)
theorem Ie (s:S):fin s []=jE s:=rfl
theorem eE (u:T):isLet (pt u)=letter (u.headD 0):=by
 cases u with
 |nil=>decide
 |cons c r=>
  show isLet (c:Int)=letter c
  unfold isLet letter;rw[JX];congr 1<;>congr 1<;>apply decide_eq_decide.mpr<;>omega
theorem wH (r:T):r.drop (r.takeWhile λd=>d !=60).length=[]\/∃z,r.drop (r.takeWhile λd=>d !=60).length=60::z:=by
 induction r with
 |nil=>exact .inl rfl
 |cons c r ih=>
  by_cases hc:c=60
  .subst hc;exact .inr ⟨r,by rw[BX nofun];rfl⟩
  .rw[A8 (by simpa using hc),AA,BO];exact ih
theorem Pj (r:T):∀x∈r.takeWhile (λd=>d !=60),x≠60:=λx hx=>by
 have:=pU hx;simpa using this
theorem Al (c:Nat) (r:T):aR c r=aR c (r.takeWhile λd=>d !=60):=by
 have e:r=r.takeWhile (λd=>d !=60)++r.drop (r.takeWhile λd=>d !=60).length:=by
  rw[eZ];exact CA.symm
 rcases wH r with h|⟨z,h⟩
 .rw[h,A6]at e;rw[<-e]
 .conv=>lhs;rw[e,h]
  exact xY ..
theorem MJ (c:Nat) (r:T):(c::r).drop (aR c r).2=(c::r.takeWhile λd=>d !=60).drop (aR c r).2++r.drop (r.takeWhile λd=>d !=60).length:=by
 have hk:=Bl c (r.takeWhile λd=>d !=60);rw[<-Al]at hk
 have e:c::r=(c::r.takeWhile (λd=>d !=60))++r.drop (r.takeWhile λd=>d !=60).length:=by
  rw[eZ,AS,CA]
 conv=>lhs;rw[e]
 rw[DN (by simp only[AA];nofun)]
theorem jR {c:Nat} {r:T} (h:c≠60):tok (c::r)= .text ((aR c r).1::refs 0 ((c::r.takeWhile λd=>d !=60).drop (aR c r).2))::tok (r.drop (r.takeWhile λd=>d !=60).length):=by
 rw[qi (.inl h)];unfold rC;rw[jS,<-Al]
theorem su {c:Nat} {r:T} (h:c≠60) {s:S} (hs:s.fresh=false):
  (tok (r.drop (r.takeWhile λd=>d !=60).length)).foldl step (step s (.text (refs 0 ((c::r.takeWhile λd=>d !=60).drop (aR c r).2))))=(tok ((c::r).drop (aR c r).2)).foldl step s:=by
 rw[MJ];cases hd:(c::r.takeWhile λd=>d !=60).drop (aR c r).2 with
 |nil=>
  rw[show refs 0 []=[]from rfl,ia hs];rfl
 |cons d w=>
  have fj:∀x∈d::w,x≠60:=λx hx=>by
   rw[<-hd]at hx;rcases AG.mp (BH hx)with e|e
   .rw[e];exact h
   .exact Pj r x e
  have oH:=wH r;generalize r.drop (r.takeWhile λd=>d !=60).length=z at oH ⊢
  have ew:(w++z).takeWhile (λd=>d !=60)=w:=by
   rw[wo (λx hx=>by have:=fj x (by simp[hx]);simpa using this)];rcases oH with e|⟨z',e⟩
   .rw[e];simp
   .rw[e,BX nofun,A6]
  rw[AS,qi (.inl (fj d (by simp)))];unfold rC;rw[ew,IS];rfl
theorem o4 (v:Nat) (x:T):less (v::x)=if v=10 then x else v::x:=rfl
theorem wu (r:T):aR 60 r=(60,1):=by rw[gx,iN nofun]
theorem Cw {s:S} (h:Inv s) {c:Nat} (r:T) (hc:c≠60):fin s (c::r)=fin (ez s (aR c r).1) ((c::r).drop (aR c r).2):=by
 unfold fin;rw[jR hc,B0, (gA h _ _).1,su hc (gA h (aR c r).1 []).2.fresh]
theorem jX {s:S} {u:T} {k:Tok} {rest:T} (e:tok u=k::tok rest) (hf:(step s k).fresh=false):fin s u=fin (jE (step s k)) rest:=by
 unfold fin;rw[e,B0,bZ hf]
theorem ku {u:T} (h:nothing u=true):tok u=tok (bL u):=by
 unfold nothing at h
 split at h
 .next h1=>
  obtain⟨h1,h2⟩:=h1;cases u with
  |nil=>exact absurd h1 nofun
  |cons c r=>
   have hc:c=60:=by have:(c:Int)=60:=h1;lia
   subst hc;cases r with
   |nil=>
    rw[iN nofun]at h;exact absurd h nofun
   |cons d r=>
    have hd:pt (DR 1 (60::d::r))=(d:Int):=rfl;have hr:DR 2 (60::d::r)=r:=rfl;rw[hd,hr]at h
    by_cases yW:d=47
    .subst yW;rw[iP (show((47:Nat):Int)=47 from rfl),eE]at h;rw[qj];unfold rD;rw[iN (by cases q:letter (r.headD 0)with|true=>rw[q]at h;cases h|false=>decide)];have e:=uI r
     have eb:bL (60::47::r)=r.drop ((r.takeWhile λc=>![62].contains c).length+1):=by
      unfold bL;rw[A8 nofun,A8 nofun];rfl
     rw[eb,<-e];cases upTo [62] r with
     |none=>rfl
     |some x=>rfl
    .rw[iN (by lia)]at h
     have hd2:d=33\/d=63:=by
      simp only[D8,decide_eq_true_eq]at h;lia
     have gc:letter d=false:=by rcases hd2 with e|e<;>rw[e]<;>decide
     rw[pY yW (λq=>h2 (by
      have:ER 4 (60::d::r)=60::ER 3 (d::r):=rfl
      rw[this,q]))]
     unfold El;rw[iN (by rw[gc];decide),iP hd2];have e:=uI r
     have eb:bL (60::d::r)=r.drop ((r.takeWhile λc=>![62].contains c).length+1):=by
      unfold bL;rw[A8 nofun,A8 (by rcases hd2 with e|e<;>rw[e]<;>decide)];rfl
     rw[eb,<-e];cases upTo [62] r with
     |none=>rfl
     |some x=>rfl
 .cases h
theorem xZ {r:T} (h:nothing (60::r)=false):tok (60::r)=[]\/∃k l,tok (60::r)=k::l/\((∀x,k≠.text x)\/k= .text [60]):=by
 rcases shape (60::r)with e|⟨z,e⟩|⟨z,e⟩|⟨c,z,e,h1,h2⟩|⟨c,z,e,h1⟩
 .cases e
 .rw[e,wx];unfold uz;cases upTo [45,45,62] z with
  |none=>exact .inr ⟨_,_,rfl,.inl (λx q=>by cases q)⟩
  |some x=>exact .inr ⟨_,_,rfl,.inl (λx q=>by cases q)⟩
 .injection e with _ e;subst e;rw[qj];unfold rD
  split
  .cases tag z with
   |none=>exact .inl rfl
   |some x=>exact .inr ⟨_,_,rfl,.inl (λx q=>by cases q)⟩
  .next hl=>
   exfalso
   have hn:nothing (60::47::z)=true:=by
    unfold nothing;rw[iP ⟨rfl,by intro q;injection q with _ q;injection q with q _;exact absurd q nofun⟩,iP (show pt (DR 1 (60::47::z))=47 from rfl),show DR 2 (60::47::z)=z from rfl,eE];cases q:letter (z.headD 0)with
    |true=>exact absurd q hl
    |false=>rfl
   rw[hn]at h;cases h
 .injection e with _ e;subst e;rw[pY h1 h2];unfold El
  split
  .cases tag (c::z)with
   |none=>exact .inl rfl
   |some x=>
    unfold kf;simp only
    split
    .exact .inr ⟨_,_,rfl,.inl (λx q=>by cases q)⟩
    .exact .inr ⟨_,_,rfl,.inl (λx q=>by cases q)⟩
  .split
   .next hc=>
    exfalso
    have hn:nothing (60::c::z)=true:=by
     unfold nothing;have hd:pt (DR 1 (60::c::z))=(c:Int):=rfl;rw[iP ⟨rfl,by intro q;injection q with _ q;exact h2 q⟩,hd,iN (by lia)];simp only[D8,decide_eq_true_eq];lia
    rw[hn]at h;cases h
   .exact .inr ⟨_,_,rfl,.inr rfl⟩
 .injection e with e1 e2;subst e1 e2;rw[qi h1];unfold rC;rcases h1 with q|q
  .exact absurd rfl q
  .subst q;exact .inr ⟨_,_,rfl,.inr rfl⟩
theorem pj:∀(n:Nat) {u:T} {t:S},u.length<=n->t.fresh=true->Inv (jE t)->fin t u=fin (jE t) (lu u)
 |n, [],t,_,_,_=>rfl
 |0,c::r,t,hn,_,_=>by simp at hn
 |n+1,c::r,t,hn,ht,hI=>by
  have hn:r.length<=n:=by simpa using hn
  cases f7:nothing (c::r)with
  |true=>
   have gc:=dE (dB f7);have ih:=pj n (u:=bL (c::r)) (t:=t) (by simp only[AA]at gc;lia) ht hI;have e1:fin t (c::r)=fin t (bL (c::r)):=by unfold fin;rw[ku f7]
   have e2:lu (c::r)=lu (bL (c::r)):=by unfold lu;rw[m6 f7]
   rw[e1,ih,e2]
  |false=>
   have e2:lu (c::r)=Ep (c::r):=by unfold lu;rw[m5 (by rw[f7];decide)]
   rw[e2];unfold Ep;simp only
   by_cases hc:c=60
   .subst hc;rw[wu,iN nofun];unfold fin;rcases xZ f7 with e|⟨k,l,e,hk|hk⟩
    .rw[e];rfl
    .rw[e,B0,B0,j9 hk]
    .rw[e,hk,B0,B0,f9 ht];rfl
   .unfold fin;rw[jR hc,B0,f9 ht]
    by_cases Q5:(aR c r).1=10
    .rw[iP Q5]
     have:less ((aR c r).1::refs 0 ((c::r.takeWhile λd=>d !=60).drop (aR c r).2))=refs 0 ((c::r.takeWhile λd=>d !=60).drop (aR c r).2):=by
      rw[o4,iP Q5]
     rw[this,su hc rfl]
    .rw[iN Q5]
     have:less ((aR c r).1::refs 0 ((c::r.takeWhile λd=>d !=60).drop (aR c r).2))=(aR c r).1::refs 0 ((c::r.takeWhile λd=>d !=60).drop (aR c r).2):=by
      rw[o4,iN Q5]
     rw[this,jR hc,B0]
end An
set_option tactic.hygienic true
namespace An
open Rd27
theorem wz (s:S) (t:T):Sz (putText s t)<=Sz s+t.length+1:=by
 unfold putText
 split
 .lia
 .split
  .next n r hb=>
   split
   .unfold Sz;rw[hb];simp;lia
   .unfold Sz;simp;lia
  .next hb=>unfold Sz;rw[hb];simp;nofun
theorem uL (s:S) (n:T) (a:List Attr) (sh:Bool) (tx:T):Sz (bX s n a sh tx).1<=Sz s+2+tx.length:=by
 unfold bX
 split
 .split
  .have:=pF s n a;simp only;lia
  .by_cases hx:tx=[]
   .rw[iP hx];unfold Sz;simp;lia
   .rw[iN hx];unfold Sz;simp;lia
 .simp only;lia
theorem Gu (s:S) (n:T) (a:List Attr) (sh:Bool) (tx:T):Sz (eT s n a sh tx).1<=Sz s+4+tx.length:=by
 have h1:=(iD s).1;have h2:=(kz (aD s) n).1;have h3:=(oW (aD s) n).1;unfold eT
 split
 .unfold nV
  split
  .have h4:=(jd (λm:String=>text m) (λ_=>[]) (roomOf (aD s) n).2 (roomOf (aD s) n).1).1;have h5:=uL (List.foldl (λt m=>opened t (text m) []) (roomOf (aD s) n).1 (roomOf (aD s) n).2) n a sh tx;lia
  .simp only;lia
 .simp only;lia
theorem Ax (s:S) (n:T):Sz (bD s n)=Sz s:=by
 unfold bD;rw[(gI _ n).1]
 split
 .rfl
 .exact(gP s).1
theorem jh {s:S} (h:Inv s) (n:T) (a:List Attr) (sh:Bool) (tx:T):Sz (mStart s n a sh tx).1<=Sz s+10+tx.length:=by
 unfold mStart
 split
 .have:Sz (cC s 0 a)=Sz s:=rfl;simp only;lia
 split
 .have:Sz (cC s 2 a)=Sz s:=rfl;simp only;lia
 split
 .simp only;lia
 split
 .have:=Gu s n a sh tx;lia
 split
 .have:=Ax s n;simp only;lia
 .have hm:=Ax s n
  split
  .have:=uL (bD s n) n a sh tx;lia
  .have h1:=(dS (h.bD n).1.cq).1;have:=uL (BM (bD s n)) n a sh tx;lia
theorem wA {s:S} (h:Inv s) (n:T) (a:List Attr) (sh:Bool) (tx:T):Sz (bY s n a sh tx).1<=Sz s+10+tx.length:=by
 unfold bY
 split
 .exact jh h n a sh tx
 split
 .have:Sz (cC s 0 a)=Sz s:=rfl;simp only;omega
 split
 .have:Sz (cC s 1 a)=Sz s:=rfl;simp only;lia
 split
 .unfold hV Sz;simp only
  split<;>simp<;>lia
 .exact jh h.begin_ n a sh tx
theorem Mc (s:S) (l:List T):Sz (bo s l)=Sz s:=(ja s l).1
theorem Mb {s:S} (h:Inv s) (n:T):Sz (lp s n)<=Sz s+10:=by
 unfold lp
 split
 .lia
 split
 .exact jh h _ _ _ []
 split
 .unfold kg;have:∀k,Sz (DB s k)=Sz s:=λ_=>rfl
  split
  .split
   .rw[this];lia
   .omega
  .omega
 .unfold l9
  split
  .next k _=>have:Sz (DB s k)=Sz s:=rfl;lia
  .split
   .unfold ki;have h1:=jh h (text "p") [] false [];simp only[BI]at h1
    split
    .rw[Mc];nofun
    .nofun
   .split
    .unfold dD
     split
     .have:∀l,Sz {s with again:=l}=Sz s:=λ_=>rfl;rw[this];omega
     .omega
    .omega
theorem x4 (s:S) (t:T):Sz (cp s t)<=Sz s+1+t.length:=by
 unfold cp Sz
 split
 .simp;lia
 .simp;lia
theorem Bn {s:S} (h:Inv s) (c:Nat):Sz (ez s c)<=Sz s+10:=by
 unfold ez
 split
 .split
  .have:=wz s [c];simp at this;lia
  .omega
 .have h1:=(dS h.begin_.nM.1.cq).1;have h2:=(gP {s with begun:=true}).1;have h3:Sz {s with begun:=true}=Sz s:=rfl;have:=wz (BM (nM {s with begun:=true})) [c];simp only[AA,BI]at this;lia
theorem tN (n y:T):(bQ n y).length<=y.length:=by
 have:=mO y.length y (AE _);unfold bQ
 split
 .nofun
 .split
  .rw[AM];nofun
  .exact this
theorem oP {s:T}:∀{t:T} {x:T×T},upTo s t=some x->x.1.length+x.2.length<=t.length
 |[],x,h=>by
  unfold upTo at h
  split at h
  .cases h;simp
  .cases h
 |c::r,x,h=>by
  unfold upTo at h
  split at h
  .cases h;simp only[AM,BI];omega
  .cases hr:upTo s r with
   |none=>rw[hr]at h;cases h
   |some y=>
    rw[hr]at h;cases h;have:=oP hr;simp only[AA];lia
theorem vr (u:T):(cA u).1.length+(cA u).2.length<=u.length:=by
 unfold cA;cases h:upTo [45,45,62] u with
 |none=>simp
 |some x=>exact oP h
theorem Hx (u:T):(Ep u).length<=u.length:=by
 unfold Ep
 split
 .simp
 .split
  .rw[AM];omega
  .exact AE _
theorem oU:∀(f:Nat) (u:T), (dY f u).length<=u.length
 |0,u=>AE _
 |f+1,u=>by
  rw[dY]
  split
  .next q=>have:=dE (dB q);have:=oU f (bL u);nofun
  .exact AE _
theorem Dh (u:T):(lu u).length<=u.length:=AY (Hx _) (oU _ _)
theorem yz {s:S} (h:Inv s) (n:T) (a:List Attr) (x:T):(step s (.raw n a x)).fresh=false:=by
 have core:∀{s:S},Inv s->(rawIn s n a x).fresh=false:=λ{s} h=>by
  unfold rawIn;simp only;rw[cK h];have hI:Inv (dH s n):=(h.dH n).1;have e0:(if BLOCKS.contains n=true then bD s n else BM (bD s n))=dH s n:=rfl;rw[e0]
  by_cases hd:deep (dH s n)<=LOWEST
  .rw[iP hd];exact hI.fresh
  .rw[iN hd];exact hI.fresh
 rw[cy h.fresh]
 by_cases hb:s.begun=true
 .rw[iP hb];exact core h
 .rw[iN hb];simp only
  split
  .split
   .exact h.fresh
   .exact h.fresh
  .exact core h.begin_
theorem qP {s:S} (h:Inv s) (x:T):(step s (.remark x)).fresh=false:=by
 rw[cy h.fresh]
 by_cases hb:s.begun=true
 .rw[iP hb];exact h.fresh
 .rw[iN hb];exact h.fresh
theorem yA {s:S} (h:Inv s) (n:T):(step s (.end_ n)).fresh=false:=by
 have hs:=sY h (n:=text "br") (a:=[]) (sh:=false);rw[cy h.fresh]at hs ⊢
 by_cases hb:s.begun=true
 .rw[iP hb]at hs ⊢;simp only at hs ⊢;unfold endIn
  split
  .exact h.fresh
  split
  .next e=>
   rw[e];cases q:(startIn s (text "br") [] false).fresh with
   |false=>rfl
   |true=>exact absurd (hs.mp q).2 nofun
  split
  .rw[cK h];have hI:Inv (dH s n):=(h.dH n).1;have e0:(if BLOCKS.contains n=true then bD s n else BM (bD s n))=dH s n:=rfl;rw[e0];unfold put;split
   .exact hI.fresh
   .exact hI.fresh
  split
  .unfold closeNear;split<;>exact h.fresh
  split
  .unfold closeNear;split<;>exact h.fresh
  .split
   .exact h.fresh
   .split
    .split
     .exact h.fresh
     .exact h.fresh
    .exact h.fresh
 .rw[iN hb];exact h.fresh
end An
namespace An
open Rd27
def Good (s:S) (c:Nat) (r:T) (p:S×T):Prop:=fin s (c::r)=fin p.1 p.2/\Inv p.1/\p.2.length<r.length+1/\Sz p.1+11*p.2.length<=Sz s+11*(r.length+1)
theorem vG {d:Nat} (h:letter d=true):d≠47/\d≠33/\d≠63:=by
 apply⟨λq=>?_,λq=>?_,λq=>?_⟩<;>(rw[q]at h;exact absurd h nofun)
theorem vK {s:S} (h:Inv s) {r:T} (hl:letter (r.headD 0)=true):Good s 60 r (NB s r):=by
 cases r with
 |nil=>exact absurd hl nofun
 |cons d r=>
  have hl:letter d=true:=hl;obtain⟨n1,n2,n3⟩:=vG hl
  have et:tok (60::d::r)=(match tag (d::r)with|none=>[]|some x=>kf x tok):=by
   rw[pY n1 (by intro q;injection q with q _;exact n2 q)];unfold El;rw[iP hl]
   all_goals (cases tag (d::r)<;>rfl)
  unfold NB;cases ht:tag (d::r)with
  |none=>
   rw[ht]at et;apply⟨?_,h,by simp,by simp⟩;unfold fin;rw[et];rfl
  |some x=>
   rw[ht]at et;have hlen:=i6 ht;simp only[AA]at hlen;simp only
   by_cases jG:RAW.contains x.1=true/\x.2.2.1=false
   .rw[iP jG]
    have es:tok (60::d::r)= .raw x.1 x.2.1 (if SILENT.contains x.1=true then(raw x.1 x.2.2.2).1 else refs 0 (raw x.1 x.2.2.2).1)::tok (fL (raw x.1 x.2.2.2).2):=by
     rw[et];show kf x tok=_
     unfold kf;rw[iP ⟨jG.2,jG.1⟩]
    have hrl:=qp x.1 x.2.2.2;have YR:=ig (raw x.1 x.2.2.2).2;have htl:=tN x.1 (raw x.1 x.2.2.2).1;show Good s 60 (d::r) ((bY s x.1 x.2.1 x.2.2.1 (bQ x.1 (raw x.1 x.2.2.2).1)).1,fL (raw x.1 x.2.2.2).2)
    rw[jG.2];have hsz:=wA h x.1 x.2.1 false (bQ x.1 (raw x.1 x.2.2.2).1);apply⟨?_,h.bY (λ_=>jG.1),by simp only[AA];lia,by simp only[AA];lia⟩;rw[jX es (yz h _ _ _),tK h jG.1]
   .rw[iN jG]
    have es:tok (60::d::r)= .start x.1 x.2.1 x.2.2.1::tok x.2.2.2:=by
     rw[et];show kf x tok=_
     unfold kf;rw[iN (λq=>jG ⟨q.2,q.1⟩)]
    have hr:RAW.contains x.1=true->x.2.2.1=true:=λq=>by
     cases hs:x.2.2.1 with
     |true=>rfl
     |false=>exact absurd ⟨q,hs⟩ jG
    have hI:=h.bY (n:=x.1) (a:=x.2.1) (sh:=x.2.2.1) (tx:=[]) (λq=>absurd rfl q);have hsz:=wA h x.1 x.2.1 x.2.2.1 [];simp only[BI]at hsz;have vU:=sY h (n:=x.1) (a:=x.2.1) (sh:=x.2.2.1);have heq:=oo h (a:=x.2.1) hr
    have Gf:fin s (60::d::r)=fin (step s (.start x.1 x.2.1 x.2.2.1)) x.2.2.2:=by
     unfold fin;rw[es,B0]
    by_cases fi:(bY s x.1 x.2.1 x.2.2.1 []).2=true/\x.1=text "pre"
    .rw[iP fi];have YR:=Dh x.2.2.2;apply⟨?_,hI,by simp only[AA];lia,by simp only[AA];lia⟩;rw[Gf,pj _ (AE _) (vU.mpr fi) (by rw[<-heq];exact hI),<-heq]
    .rw[iN fi];apply⟨?_,hI,by simp only[AA];nofun,by simp only[AA];lia⟩
     have:(step s (.start x.1 x.2.1 x.2.2.1)).fresh=false:=by
      cases q:(step s (.start x.1 x.2.1 x.2.2.1)).fresh with
      |false=>rfl
      |true=>exact absurd (vU.mp q) fi
     rw[Gf,heq,bZ this]
theorem Cu {s:S} (h:Inv s) {r:T} (hl:letter (r.headD 0)=true):Good s 60 (47::r) (RN s r):=by
 have et:tok (60::47::r)=(match tag r with|some x=> .end_ x.1::tok x.2.2.2|none=>[]):=by
  rw[qj];unfold rD;rw[iP hl]
  all_goals (cases tag r<;>rfl)
 unfold RN;cases ht:tag r with
 |none=>
  rw[ht]at et;apply⟨?_,h,by simp,by simp⟩;unfold fin;rw[et];rfl
 |some x=>
  rw[ht]at et;have hlen:=i6 ht;have hsz:=Mb h x.1;apply⟨?_,h.lp x.1,by simp only[AA];lia,by simp only[AA];lia⟩;rw[jX et (yA h _),<-Hv h]
theorem tX {s:S} (h:Inv s) (r:T):Good s 60 (33::45::45::r) (cp s (cA r).1, (cA r).2):=by
 have hlen:=vr r;have hsz:=x4 s (cA r).1
 have et:tok (60::33::45::45::r)= .remark (cA r).1::tok (cA r).2:=by
  rw[wx];unfold uz cA;cases upTo [45,45,62] r with
  |none=>rfl
  |some x=>rfl
 apply⟨?_,h.cp _,by simp only[AA];lia,by simp only[AA];lia⟩;rw[jX et (qP h _),<-x9 h]
theorem pd {s:S} (h:Inv s) {c:Nat} {r:T} (he:fin s (c::r)=fin (ez s (aR c r).1) ((c::r).drop (aR c r).2)):Good s c r (ez s (aR c r).1, (c::r).drop (aR c r).2):=by
 have hp:=jQ c r;have hsz:=Bn h (aR c r).1;have hl:((c::r).drop (aR c r).2).length<r.length+1:=by rw[AM,AA];omega
 exact⟨he, (gA h _ []).2,hl,by simp only;lia⟩
theorem Kc {s:S} (h:Inv s) (c:Nat) (r:T):Good s c r (iu s c r):=by
 unfold iu
 by_cases h1:c=60/\isLet (pt r)=true
 .rw[iP h1];obtain⟨e,h1⟩:=h1;subst e;exact vK h (by rw[<-eE];exact h1)
 rw[iN h1]
 by_cases h2:c=60/\pt r=47/\isLet (pt (r.drop 1))=true
 .rw[iP h2];obtain⟨e,h2,h3⟩:=h2;subst e;cases r with
  |nil=>exact absurd h2 nofun
  |cons d r=>
   have:d=47:=by have:(d:Int)=47:=h2;lia
   subst this;exact Cu h (by rw[<-eE];exact h3)
 rw[iN h2]
 by_cases h3:c=60/\(c::r).take 4=[60,33,45,45]
 .rw[iP h3];obtain⟨e,h3⟩:=h3;subst e
  match r,h3 with
  |a::b::d::r,h3=>
   injection h3 with _ h3;injection h3 with e1 h3;injection h3 with e2 h3;injection h3 with e3 _;subst e1 e2 e3;exact tX h r
 rw[iN h3]
 by_cases h4:c=60/\nothing (c::r)=true
 .rw[iP h4];have hb:=dE (dB h4.2);simp only[AA]at hb;apply⟨?_,h,hb,by simp only;lia⟩;unfold fin;rw[ku h4.2]
 rw[iN h4]
 by_cases hc:c=60
 .subst hc;apply pd h ?_;rw[wu]
  have f7:nothing (60::r)=false:=by
   cases q:nothing (60::r)with
   |false=>rfl
   |true=>exact absurd ⟨rfl,q⟩ h4
  have et:tok (60::r)= .text [60]::tok r:=by
   rcases shape (60::r)with e|⟨z,e⟩|⟨z,e⟩|⟨c,z,e,k1,k2⟩|⟨c,z,e,k1⟩
   .cases e
   .exact absurd ⟨rfl,by rw[e];rfl⟩ h3
   .exfalso;injection e with _ e;subst e
    have hl:letter (z.headD 0)=false:=by
     cases q:letter (z.headD 0)with
     |false=>rfl
     |true=>exact absurd ⟨rfl,rfl,by show isLet (pt z)=true;rw[eE];exact q⟩ h2
    have hn:nothing (60::47::z)=true:=by
     unfold nothing;rw[iP ⟨rfl,by intro q;injection q with _ q;injection q with q _;exact absurd q nofun⟩,iP (show pt (DR 1 (60::47::z))=47 from rfl),show DR 2 (60::47::z)=z from rfl,eE,hl];rfl
    rw[hn]at f7;cases f7
   .injection e with _ e;subst e
    have hl:letter c=false:=by
     cases q:letter c with
     |false=>rfl
     |true=>exact absurd ⟨rfl,by rw[eE];exact q⟩ h1
    rw[pY k1 k2];unfold El;rw[iN (by rw[hl];decide)]
    by_cases QS:c=33\/c=63
    .exfalso
     have hn:nothing (60::c::z)=true:=by
      unfold nothing;have hd:pt (DR 1 (60::c::z))=(c:Int):=rfl;rw[iP ⟨rfl,by intro q;injection q with _ q;exact k2 q⟩,hd,iN (by lia)];simp only[D8,decide_eq_true_eq];lia
     rw[hn]at f7;cases f7
    .rw[iN QS]
   .injection e with e1 e2;subst e1 e2;rcases k1 with q|q
    .exact absurd rfl q
    .subst q;rfl
  unfold fin;rw[et,B0, (gA h 60 []).1,ia (gA h 60 []).2.fresh];rfl
 .exact pd h (Cw h r hc)
theorem Inv.start:Inv {}:=by
 apply⟨trivial, ⟨[],rfl⟩,λq=>?_,by decide,by simp,?_,trivial,λn r e=>?_,trivial,by simp,by simp,rfl⟩
 .exact absurd q nofun
 .intro x hx;have:x=(text "body", []):=by simpa using hx
  rw[this];decide
 .cases e
def JJ (t:T) (s:S) (u:T):Prop:=Inv s/\fin s u=fin {} t/\Sz s+11*u.length<=11*t.length
theorem Qb {t:T} (ht:t.length<=70000):SV (JJ t) where
 sz:=λ{s c r} h=>by have:=h.2.2;lia
 tb:=λ{s c r} h hf=>h.1.aD.bj hf
 go:=λ{s c r} h=>by
  obtain⟨p1,p2,p3,p4⟩:=Kc h.1 c r;apply⟨p2,by rw[<-p1];exact h.2.1,?_⟩;have:=h.2.2;simp only[AA]at this;nofun
 lt:=λ{s c r} h=>(Kc h.1 c r).2.2.1
theorem Dl (t:T):JJ t {} t:=⟨Inv.start,rfl,by unfold Sz;simp⟩
theorem MQ {t:T} {s:S} (h:JJ t s []):s=jE ((tok t).foldl step {}):=by
 have:=h.2.1;rw[Ie,bZ h.1.fresh]at this;exact this
end An
namespace An
open Rd27
theorem fe:∀(n k:Nat) (b:B),b.length<=n->(decode k b).length<=b.length
 |n,k, [],_=>by rw[iG];exact AE _
 |0,k,a::r,h=>by simp at h
 |n+1,0,a::r,h=>by
  have h:r.length<=n:=by simpa using h
  rw[decode]
  split
  .exact HY (fe n _ r h)
  .exact HY (fe n _ r h)
 |n+1,k+1,a::r,h=>by
  have h:r.length<=n:=by simpa using h
  rw[decode];have:=fe n k r h;simp only[AA];nofun
theorem Gy {b:B} {x:Nat×Nat} (h:sequence b=some x):x.1<1200000:=by
 unfold sequence at h
 split at h
 .cases h
 .next a r=>
  by_cases h1:a<128
  .rw[iP h1]at h;cases h;simp only;nofun
  rw[iN h1]at h;simp only at h
  by_cases h2:194<=a/\a<224/\follows (r.getD 0 0)=true
  .rw[iP h2]at h;cases h;obtain⟨_,h2,h3⟩:=h2;unfold follows at h3;simp only[B6,decide_eq_true_eq]at h3;simp only;omega
  rw[iN h2]at h
  by_cases h3:224<=a/\a<240/\follows (r.getD 0 0)=true/\follows (r.getD 1 0)=true
  .rw[iP h3]at h
   split at h
   .cases h;obtain⟨_,h2,h3,h4⟩:=h3;unfold follows at h3 h4;simp only[B6,decide_eq_true_eq]at h3 h4;simp only;omega
   .cases h
  rw[iN h3]at h
  by_cases h4:240<=a/\a<245/\follows (r.getD 0 0)=true/\follows (r.getD 1 0)=true/\follows (r.getD 2 0)=true
  .rw[iP h4]at h
   split at h
   .next q=>cases h;have:=q.2;simp only;omega
   .cases h
  .rw[iN h4]at h;cases h
theorem fW:∀(n k:Nat) (b:B),b.length<=n->∀c∈decode k b,c<1200000
 |n,k, [],_,c,hc=>by rw[iG]at hc;cases hc
 |0,k,a::r,h,c,hc=>by simp at h
 |n+1,0,a::r,h,c,hc=>by
  have h:r.length<=n:=by simpa using h
  rw[decode]at hc
  split at hc
  .next x hx=>
   rcases AG.mp hc with e|e
   .rw[e];exact Gy hx
   .exact fW n _ r h c e
  .rcases AG.mp hc with e|e
   .rw[e];decide
   .exact fW n _ r h c e
 |n+1,k+1,a::r,h,c,hc=>by
  have h:r.length<=n:=by simpa using h
  rw[decode]at hc;exact fW n k r h c hc
theorem plain_len:∀(n:Nat) (t:T),t.length<=n->(plain t).length<=t.length/\((∀c∈t,c<1200000)->∀c∈plain t,c<1200000)
 |n, [],_=>⟨AE _,λh=>h⟩
 |0,c::r,h=>by simp at h
 |n+1,c::r,h=>by
  have h:r.length<=n:=by simpa using h
  by_cases h1:c=13/\∃q,r=10::q
  .obtain⟨e1,q,e2⟩:=h1;subst e1 e2;obtain⟨i1,i2⟩:=plain_len n q (by simp at h;nofun);have e:plain (13::10::q)=10::plain q:=rfl;rw[e];apply⟨by simp;nofun,λhl d hd=>?_⟩;rcases AG.mp hd with e|e
   .rw[e];decide
   .exact i2 (λx hx=>hl x (by simp[hx])) d e
  .have e:plain (c::r)=(if c=13 then 10 else if c=0 then 65533 else c)::plain r:=by
    rw[plain];intro q e1 e2;exact h1 ⟨e1,q,e2⟩
   obtain⟨i1,i2⟩:=plain_len n r h;rw[e];apply⟨by simp only[AA];nofun,λhl d hd=>?_⟩;rcases AG.mp hd with e|e
   .rw[e];have:=hl c (by simp)
    split
    .decide
    .split
     .decide
     .exact this
   .exact i2 (λx hx=>hl x (by simp[hx])) d e
theorem yf (b:B):(points b).length<=b.length/\∀c∈points b,c<1200000:=by
 have h1:=fe _ 0 b (AE _);have h2:=fW _ 0 b (AE _);obtain⟨h3,h4⟩:=plain_len _ (decode 0 b) (AE _);exact⟨AY h3 h1,h4 h2⟩
end An
set_option tactic.hygienic false
namespace An
open PySem L2
open Rd27 (writeAll ends VOID)
def VF:List ND->Prop
 |n::x::r=>(x.depth=n.depth+1->n.kind=1->VOID.contains n.tg.name=false)/\VF (x::r)
 |_=>True
theorem VF.tail {n:ND} {r:List ND} (h:VF (n::r)):VF r:=by
 cases r with
 |nil=>trivial
 |cons x r=>exact h.2
theorem VF.app:∀{a b:List ND},VF a->VF b->(∀a' n x b',a=a'++[n]->b=x::b'->(x.depth=n.depth+1->n.kind=1->VOID.contains n.tg.name=false))->VF (a++b)
 |[],b,_,hb,_=>hb
 |[n], [],_,_,_=>trivial
 |[n],x::b,_,hb,hj=>⟨hj [] n x b rfl rfl,hb⟩
 |n::m::a,b,ha,hb,hj=>⟨ha.1,VF.app (a:=m::a) ha.2 hb λa' n' x b' e1 e2=>hj (n::a') n' x b' (by rw[e1];rfl) e2⟩
theorem mX:∀{l:List HZ} {x y:HZ},ke (l++[x,y])->(x.depth=y.depth+1->VOID.contains y.name=false)/\ke (l++[x])
 |[],x,y,h=>⟨h.1,trivial⟩
 |[a],x,y,h=>⟨h.2.1,h.1,trivial⟩
 |a::b::l,x,y,h=>by
  obtain⟨h1,h2⟩:=mX (l:=b::l) h.2;exact⟨h1,h.1,h2⟩
theorem VF.of:∀{bs:List ND},ke ((bs.map ND.node).reverse)->VF bs
 |[],_=>trivial
 |[n],_=>trivial
 |n::x::r,h=>by
  rw[AI,AI,BQ,BQ,AZ]at h;obtain⟨h1,h2⟩:=mX h;apply⟨λq hk=>?_,VF.of ?_⟩
  .have e1:n.node.name=n.tg.name:=by unfold ND.node;rw[iP hk]
   have e2:n.node.depth=n.depth:=by unfold ND.node;rw[iP hk]
   have e3:x.node.depth=x.depth:=by unfold ND.node;split<;>rfl
   rw[e1,e2,e3]at h1;exact h1 q
  .rw[AI,BQ];exact h2
def rg:List ND->List (Nat×KD)
 |[]=>[]
 |m::o=>if VOID.contains m.tg.name=true then rg o else(m.depth,m.tg.name)::rg o
def down:List ND->Prop
 |m::k::o=>k.depth<m.depth/\down (k::o)
 |_=>True
theorem down.tail {m:ND} {o:List ND} (h:down (m::o)):down o:=by
 cases o with
 |nil=>trivial
 |cons k o=>exact h.2
theorem down.all:∀{m:ND} {o:List ND},down (m::o)->∀k∈o,k.depth<m.depth
 |m, [],_,k,hk=>by cases hk
 |m,x::o,h,k,hk=>by
  rcases AG.mp hk with e|e
  .rw[e];exact h.1
  .have:=down.all h.2 k e;have:=h.1;nofun
theorem wD {d:Nat}:∀{o:List ND}, (∀k∈o,k.depth<d)->ends d (rg o)=([],rg o)
 |[],_=>rfl
 |m::o,h=>by
  rw[rg]
  split
  .exact wD λk hk=>h k (by simp[hk])
  .rw[ends,iN (by have:=h m (by simp);simp only;nofun)]
theorem mW (d:Nat):∀{o:List ND},down o->ends d (rg o)=((cN d o).1,rg (cN d o).2)
 |[],_=>rfl
 |m::o,h=>by
  have ih:=mW d h.tail;rw[cN]
  by_cases hd:d<=m.depth
  .rw[iP hd];simp only;rw[rg];unfold eV
   by_cases hv:VOID.contains m.tg.name=true
   .rw[iP hv,iP hv,BA];exact ih
   .rw[iN hv,iN hv,ends,iP hd];simp only;rw[ih]
  .rw[iN hd];simp only;apply wD λk hk=>?_;rcases AG.mp hk with e|e
   .rw[e];nofun
   .have:=h.all k e;lia
theorem nr {d:Nat}:∀{o:List ND},down o->down (cN d o).2/\∀k∈(cN d o).2,k.depth<d
 |[],_=>⟨trivial,by intro k hk;cases hk⟩
 |m::o,h=>by
  rw[cN]
  split
  .exact nr h.tail
  .next hd=>
   apply⟨h,λk hk=>?_⟩;rcases AG.mp hk with e|e
   .rw[e];omega
   .have:=h.all k e;omega
theorem pk {d:Nat}:∀{o:List ND},∀k∈(cN d o).2,k∈o
 |[],k,hk=>by cases hk
 |m::o,k,hk=>by
  rw[cN]at hk
  split at hk
  .exact BG _ (pk k hk)
  .exact hk
theorem ts (o:List (Nat×KD)) (x:HZ) (r:List HZ):writeAll o true (x::r)=(if(ends x.depth o).1.isEmpty=true/\x.kind≠1/\x.kind≠3/\x.text.headD 0=10 then [10]else [])++writeAll o false (x::r):=by
 have e0:∀(p:Prop) [Decidable p],¬p->(if p then [10]else([]:KD))=[]:=λp _ h=>iN h;have e1:∀(p:Prop) [Decidable p],p->(if p then [10]else([]:KD))=[10]:=λp _ h=>iP h;rw[writeAll,writeAll]
 by_cases h1:x.kind=1
 .rw[iP h1,iP h1,e0 _ (λq=>q.2.1 h1),BA]
 .rw[iN h1,iN h1]
  by_cases h3:x.kind=3
  .rw[iP h3,iP h3,e0 _ (λq=>q.2.2.1 h3),BA]
  .rw[iN h3,iN h3]
   by_cases hc:(ends x.depth o).1.isEmpty=true/\x.text.headD 0=10
   .rw[e1 (true=true/\(ends x.depth o).1.isEmpty=true/\x.text.headD 0=10) ⟨rfl,hc⟩,e1 ((ends x.depth o).1.isEmpty=true/\x.kind≠1/\x.kind≠3/\x.text.headD 0=10) ⟨hc.1,h1,h3,hc.2⟩,e0 (false=true/\(ends x.depth o).1.isEmpty=true/\x.text.headD 0=10) (by intro q;cases q.1)];have:(ends x.depth o).1=[]:=IA.mp hc.1;rw[this];rfl
   .rw[e0 (true=true/\(ends x.depth o).1.isEmpty=true/\x.text.headD 0=10) (λq=>hc q.2),e0 ((ends x.depth o).1.isEmpty=true/\x.kind≠1/\x.kind≠3/\x.text.headD 0=10) (λq=>hc ⟨q.1,q.2.2.2⟩),e0 (false=true/\(ends x.depth o).1.isEmpty=true/\x.text.headD 0=10) (by intro q;cases q.1)];rfl
theorem By:∀n∈(["pre","textarea"].map DY),VOID.contains n=false:=by decide+kernel
theorem jI {n:ND} (h:n.kind=1):n.node=⟨1,n.depth,n.tg.name,n.at_, []⟩:=by unfold ND.node;rw[iP h]
theorem Av {n:ND} (h:n.kind≠1):n.node=⟨n.kind,n.depth, [], [],n.bF⟩:=by unfold ND.node;rw[iN h]
theorem Pq:DY "<!--"=[60,33,45,45]:=by decide
theorem Pp:DY "-->"=[45,45,62]:=by decide
theorem zQ:∀{r:List ND} {o:List ND},down o->(∀k∈o.tail,VOID.contains k.tg.name=false)->(∀m o' x r',o=m::o'->r=x::r'->VOID.contains m.tg.name=true->x.depth<=m.depth)->wf r->VF r->(∀n∈r,n.kind=1\/n.kind=2\/n.kind=3)->
  pw o r=writeAll (rg o) false (r.map ND.node)
 |[],o,hd,_,_,_,_,_=>by
  rw[pw,DD,writeAll,mW 0 hd]
 |n::r,o,hd,hv,Lv,hw,um,hk=>by
  obtain⟨d1,d2⟩:=nr (d:=n.depth) hd
  have NK:∀k∈(cN n.depth o).2,VOID.contains k.tg.name=false:=by
   intro k hk;cases o with
   |nil=>cases hk
   |cons m o=>
    rcases AG.mp (pk k hk)with e|e
    .cases q:VOID.contains m.tg.name with
     |false=>rw[e];exact q
     |true=>
      have h1:=Lv m o n r rfl rfl q;have h2:=d2 k hk;rw[e]at h2;lia
    .exact hv k e
  have YF:=mW n.depth hd;have lg:n.node.depth=n.depth:=by unfold ND.node;split<;>rfl
  have QG:wf r:=by
   cases r with
   |nil=>trivial
   |cons x r=>exact hw.2.2
  rw[pw,AI,writeAll];rw[lg,YF];simp only;generalize cN n.depth o=e at d1 d2 NK
  by_cases h1:n.kind=1
  .have QK:n.node.kind=1:=by rw[jI h1]
   have qX:n.node.name=n.tg.name:=by rw[jI h1]
   rw[iP h1,iP QK,qX]
   have VW:down (n::e.2):=by
    cases he:e.2 with
    |nil=>trivial
    |cons k o'=>rw[he]at d1 d2;exact⟨d2 k (by simp),d1⟩
   have ih:=zQ (r:=r) (o:=n::e.2) VW NK (λm o' x r' e1 e2 Ja=>by
    injection e1 with e1 _;rw[<-e1]at Ja ⊢;subst e2;have:=hw.1
    by_cases q:x.depth=n.depth+1
    .rw[um.1 q h1]at Ja;cases Ja
    .lia) QG um.tail (λm hm=>hk m (by simp[hm]))
   rw[ih,rg]
   by_cases M5:VOID.contains n.tg.name=true
   .rw[iP M5,iP M5]
    have:cv n r=[]:=by
     unfold cv;rw[iN (λq=>by rw[By _ (has.mp q)]at M5;cases M5)]
    rw[this,BA]
   .rw[iN M5,iN M5];cases hp:(["pre","textarea"].map DY).contains n.tg.name with
    |false=>
     have:cv n r=[]:=by unfold cv;rw[iN (by rw[hp];decide)]
     rw[this,BA]
    |true=>
     cases r with
     |nil=>
      have:cv n []=[]:=by unfold cv;rw[iP hp]
      rw[this];rfl
     |cons x r=>
      rw[AI,ts];congr 2;have Iy:x.node.depth=x.depth:=by unfold ND.node;split<;>rfl
      unfold cv;rw[iP hp];simp only;rw[Iy,ends];have hw1:=hw.1
      by_cases QF:x.depth<=n.depth
      .rw[iP (show x.depth<=(n.depth,n.tg.name).1 from QF)];rw[iN (by lia)];simp only
       rw[iN (by
        rintro⟨q,_⟩;have:IQ n.tg.name++(ends x.depth (rg e.2)).1=[]:=IA.mp q;unfold IQ at this
        cases this)]
      .rw[iN (show¬x.depth<=(n.depth,n.tg.name).1 from QF)];simp only
       by_cases Du:x.kind=1
       .rw[iN (by lia),iN (λq=>q.2.1 (by rw[jI Du]))]
       .rw[Av Du];simp only;have Ky:=hk x (by simp)
        by_cases hc:x.kind=2/\x.bF.headD 0=10
        .rw[iP ⟨by lia,hc.1,hc.2⟩,iP ⟨rfl,Du,by lia,hc.2⟩]
        .rw[iN (λq=>hc q.2),iN (λq=>hc ⟨by lia,q.2.2.2⟩)]
  .have hk3:=hk n (by simp)
   have ih:=zQ (r:=r) (o:=e.2) d1 (λk hk=>NK k (List.mem_of_mem_tail hk)) (λm o' x r' e1 e2 Ja=>by
    rw[NK m (by rw[e1];simp)]at Ja;cases Ja) QG um.tail (λm hm=>hk m (by simp[hm]))
   rw[iN h1,ih];have xy:=Av h1;have QK:n.node.kind=n.kind:=by rw[xy]
   have Ym:n.node.text=n.bF:=by rw[xy]
   rw[QK,Ym,iN h1]
   by_cases h2:n.kind=2
   .rw[iP h2,iN (by lia),iN (by intro q;cases q.1),BA];congr 2;unfold textOf Lj;cases he:e.2 with
    |nil=>rfl
    |cons m o'=>
     have Ja:¬VOID.contains m.tg.name=true:=by rw[NK m (by rw[he];simp)];decide
     rw[rg,iN Ja];rfl
   .rw[iN h2,iP (by lia),Pq,Pp];simp
theorem mQ:VOID.contains (DY "html")=false/\VOID.contains (DY "head")=false/\VOID.contains (DY "body")=false:=by decide
section
variable{w:World} {K:AD} {mg:Str->Option Value}
theorem aA.vf {g:G w K mg} {F:Addr->Prop} {H:Hp} {z:aV} {s:Rd27.S} (T:aA g F H z) (R:Rel z s) (h:Inv s):VF z.all:=by
 have hb:VF z.bs:=VF.of (by rw[<-R.body];exact h.vf);have hh:VF z.hs:=VF.of (by rw[<-R.head];exact h.hf)
 have uc:VF (z.eb::z.bs):=by
  cases hq:z.bs with
  |nil=>trivial
  |cons x r=>rw[hq]at hb;exact⟨λ_ _=>by rw[T.kb.2.2.1];exact mQ.2.2,hb⟩
 have fj:VF (z.hs++z.eb::z.bs):=hh.app uc λa' n x b' e1 e2 q _=>by
  injection e2 with e2 _;have h1:=T.low n (by rw[e1];simp);rw[<-e2,T.kb.2.1]at q;lia
 apply⟨λ_ _=>by rw[T.kh.2.2.1];exact mQ.1,?_⟩;cases hq:z.hs++z.eb::z.bs with
 |nil=>trivial
 |cons x r=>rw[hq]at fj;exact⟨λ_ _=>by rw[T.kd.2.2.1];exact mQ.2.1,fj⟩
theorem aA.kinds {g:G w K mg} {F:Addr->Prop} {H:Hp} {z:aV} (T:aA g F H z):∀n∈z.all,n.kind=1\/n.kind=2\/n.kind=3:=by
 intro n hn;rcases AG.mp hn with e|hn
 .rw[e];exact .inl T.kh.1
 rcases AG.mp hn with e|hn
 .rw[e];exact .inl T.kd.1
 rcases AU.mp hn with e|hn
 .exact T.knd n (by simp[e])
 rcases AG.mp hn with e|hn
 .rw[e];exact .inl T.kb.1
 .exact T.knd n (by simp[hn])
theorem Cf (b:List Nat):KG b=⟨1,1,DY "html", ((tok (C8 b)).foldl DZ {}).htmlA, []⟩::⟨1,2,DY "head", ((tok (C8 b)).foldl DZ {}).headA, []⟩::(((tok (C8 b)).foldl DZ {}).head.reverse++⟨1,2,DY "body", ((tok (C8 b)).foldl DZ {}).bodyA, []⟩::((tok (C8 b)).foldl DZ {}).body.reverse):=rfl
theorem reads:Reads (w:=w) (K:=K) (mg:=mg):=by
 intro b hb hl;obtain⟨p1,p2⟩:=yf b;apply⟨JJ (C8 b),Qb (by nofun),Dl _,by lia,p2,λg F H z s hJ T R=>?_⟩;have hs:=MQ hJ;have hsz:=hJ.2.2
 have hn:z.all.map ND.node=KG b:=by
  rw[Cf];have e1:s.htmlA=((tok (C8 b)).foldl DZ {}).htmlA:=by rw[hs];rfl
  have e2:s.headA=((tok (C8 b)).foldl DZ {}).headA:=by rw[hs];rfl
  have e3:s.bodyA=((tok (C8 b)).foldl DZ {}).bodyA:=by rw[hs];rfl
  have e4:s.head=((tok (C8 b)).foldl DZ {}).head:=by rw[hs];rfl
  have e5:s.body=((tok (C8 b)).foldl DZ {}).body:=by rw[hs];rfl
  rw[<-e1,<-e2,<-e3,<-e4,<-e5,R.head,R.body,CP,CP];unfold aV.all;rw[AI,AI,AL,AI,jI T.kh.1,jI T.kd.1,jI T.kb.1,T.kh.2.1,T.kd.2.1,T.kb.2.1,T.kh.2.2.1,T.kd.2.2.1,T.kb.2.2.1,R.hA,R.dA,R.bA]
 apply⟨?_,hn,?_⟩
 .have h1:z.all.length=z.hs.length+z.bs.length+3:=by unfold aV.all;simp;nofun
  have h2:s.head.length=z.hs.length:=by rw[R.head];simp
  have h3:s.body.length=z.bs.length:=by rw[R.body];simp
  have h4:=ql s.body;have h5:Sz s=s.head.length+(s.body.map λn=>n.text.length+1).sum:=rfl;simp only[BI]at hsz;lia
 .rw[<-hn];exact zQ (o:=[]) trivial (by simp) (λm o' x r' e=>by cases e) T.wf (T.vf R hJ.1) T.kinds
end
end An
namespace An
theorem Bk (c:List (List Int)):GI c=c:=by
 unfold GI
 split<;>rfl
theorem vQ {p:Int} {r:List Int} {c:List (List Int)} {t:List Int} (h:IB EJ (p::r)=some (c,t)):
  (p=0/\c=[[0]]/\t=r)\/(p=2/\c=[[2]]/\t=r)\/(p=3/\c=[[3]]/\t=r)\/(p=1/\∃x:List Int,c=[[1],x]/\r=(x.length:Int)::(x++t)):=by
 unfold IB at h;unfold EJ at h
 by_cases h0:p=0
 .subst h0
  left
  simp[G1]at h;exact⟨rfl,h.1.symm,h.2.symm⟩
 by_cases h1:p=1
 .subst h1
  right;right;right
  apply⟨rfl,?_⟩;simp[G1]at h;cases r with
  |nil=>simp[GJ]at h
  |cons n r=>
   by_cases hn:0<=n/\n.toNat<=r.length
   .have er:GJ (n::r)=some (r.take n.toNat,r.drop n.toNat):=by unfold GJ;simp only;rw[iP hn]
    rw[er]at h;simp at h;apply⟨r.take n.toNat,h.1.symm,?_⟩;rw[<-h.2,BV,AX,DQ hn.2,D4 hn.1]
   .have er:GJ (n::r)=none:=by unfold GJ;simp only;rw[iN hn]
    rw[er]at h;simp at h
 by_cases h2:p=2
 .subst h2
  right;left
  simp[G1]at h;exact⟨rfl,h.1.symm,h.2.symm⟩
 by_cases h3:p=3
 .subst h3
  right;right;left
  simp[G1]at h;exact⟨rfl,h.1.symm,h.2.symm⟩
 .simp[h0,h1,h2,h3]at h
theorem Ap:∀(f:Nat) (l:List Int) (cs:List (List (List Int))),EK EJ f l=some cs->(∀c∈cs,KH c=true)->∀b:List Nat,Run b l (G2 (FZ CF b cs))
 |f, [],cs,h,_,b=>by
  have:cs=[]:=by cases f<;>(unfold EK at h;cases h;rfl)
  rw[this];exact .nil b
 |0,p::r,cs,h,_,b=>by unfold EK at h;cases h
 |f+1,p::r,cs,h,ha,b=>by
  unfold EK at h;cases hc:IB EJ (p::r)with
  |none=>rw[hc]at h;cases h
  |some ct=>
   obtain⟨c,t⟩:=ct;rw[hc]at h;simp only at h;cases Sj:EK EJ f t with
   |none=>rw[Sj]at h;cases h
   |some La=>
    rw[Sj]at h;simp only at h;have h:cs=c::La:=(AH h).symm;subst h;have ih:=Ap f t La Sj (λc hc=>ha c (by simp[hc]));have Sm:=ha c (by simp);have e:∀s:List Nat,G2 (FZ CF s (c::La))=((CF s c).2.length:Int)::((CF s c).2++G2 (FZ CF (CF s c).1 La)):=λs=>rfl;rw[e];rcases vQ hc with⟨e1,e2,e3⟩|⟨e1,e2,e3⟩|⟨e1,e2,e3⟩|⟨e1,x,e2,e3⟩
    .subst e1 e2 e3;exact .begin (ih [])
    .subst e1 e2 e3;have es:CF b [[2]]=(b,nI (told b)):=rfl;rw[es,jJ];exact .tree (ih b)
    .subst e1 e2 e3;have es:CF b [[3]]=(b,nI (sent b)):=rfl;rw[es,jJ];exact .write (ih b)
    .subst e1 e2 e3
     have hx:∀z∈x,0<=z/\z<256:=by
      have Sm:(x.all (λ(z:Int)=>G7 z 8)&&decide (x.length<=1048576))=true:=Sm;intro z hz;have:=DH.mp (DE.mp Sm).1 z hz;unfold G7 at this;simp only[B6,decide_eq_true_eq]at this;exact⟨this.1,by have:=this.2;simpa using this⟩
     have dW:(CN x).any (λc=>decide (256<=c))=false:=by
      rw[HE];intro c hc;obtain⟨z,hz,rfl⟩:=BC.mp hc;have:=hx z hz;simp;lia
     have hl:(CN x).length=x.length:=AF ..;have es:CF b [[1],x]=((E6 b (.feed (CN x))).1, (E6 b (.feed (CN x))).2.value::(E6 b (.feed (CN x))).2.out.map λ(b:Nat)=>(b:Int)):=rfl
     by_cases NQ:65536<b.length+x.length
     .have SI:E6 b (.feed (CN x))=(b, {value:= -1}):=by
       unfold E6 KQ;simp only;rw[iP (.inl (by rw[hl];exact NQ))]
      rw[es,SI];exact .z8 rfl hx NQ (ih b)
     .have SI:E6 b (.feed (CN x))=(b++CN x, {value:=0}):=by
       unfold E6 KQ;simp only
       rw[iN (by
         rintro(q|q); ·rw[hl]at q;exact NQ q
         .rw[dW]at q;cases q)]
      rw[es,SI];exact .feed rfl hx (by nofun) (ih _)
theorem x8 {l:List Int} (h:EV l=true):Run [] l (DL l)/\(DL l).length<=10000000:=by
 unfold EV at h;have PL:DL l=match HM l with|none=>[]|some cs=>G2 (FZ CF KN cs):=rfl
 cases hc:HM l with
 |none=>rw[hc]at h;cases h
 |some cs=>
  rw[hc]at h;simp only[B6]at h;obtain⟨⟨_,h2⟩,h3⟩:=h;apply⟨?_,?_⟩
  .rw[PL,hc];simp only;unfold HM at hc;cases hq:EK EJ l.length l with
   |none=>rw[hq]at hc;cases hc
   |some La=>
    rw[hq]at hc;have hc:D6 GI La=cs:=AH hc;have ew:GI=id:=funext Bk;rw[ew,J7]at hc;subst hc;apply Ap _ l La hq (λc Sk=>?_) [];unfold KO at h2;exact DH.mp (DE.mp h2).1 c Sk
  .unfold PyFlat.short at h3;exact of_decide_eq_true h3
end An
namespace An
open PySem L2
open PySem.Spec PyProof.Rows PySem.W
theorem o9:∀{l:List Int} {us:List Value},Vals (iL l) us->IntsAre us l
 |[],_,.nil=> .nil
 |n::l,_,.cons h1 h2=>by
  obtain⟨t,rfl⟩:=h1;exact .cons n t (o9 h2)
theorem m9 {R:WRecords} {cl:Str->Option Addr} {h:Heap}:∀{l:List Int} {us:List Value},IntsAre us l->ReadsAllW R cl h us (l.map WData.int) []
 |_,_,.nil=> .nil
 |_,_,.cons n t h1=> .cons (as:=[]) (.int n t) (m9 h1)
theorem x6 {P:Program} {w:World} {K:AD} {mg mb:Str->Option Value} {k:Nat} {fa a:Addr} {fd:FuncData} {x:Str} {sp:Sp} {s₁:Shared} {vs:List Value} {ns out:List Int}
  (KX:K.In s₁.heap) (lE:s₁.heap.Ns mainGlobals mg) (hb:s₁.heap.Ns builtinsNs mb) (YS:∀x:Str,x≠"__name__"->mb x=bootBuiltins x) (Uj:s₁.heap.NoLimit) (hg:s₁.gens= #[])
  (ha:s₁.heap.get? a=some {cls:= .type "list",data:= .seq vs.toArray}) (hi:IntsAre vs ns) (hl:ns.length<=sizeLine) (hr:dJ k callerA)
  (F:∀base:Heap,K.In base->base.Ns mainGlobals mg->aI P w K mg base bO k fa fd [x] sp) (PV:∀(s:Shared) (u:Value),K.In s.heap->BindsTo s fd ⟨[u], []⟩ [(x,u)])
  (rl:∀H:Hp,LW H->aL K H a (ns.map V.int)->sp [.ref a] H (λv H'=>∃p,v= .ref p/\H' p=some (.lst (iL out))) λ_ _ _=>False):
  codeAny (model P w) callerA (.call (.ref fa) ⟨[.ref a], []⟩) (λr s'=>(∃p o aP n,r= .ok (.ret (.ref p))/\s'.heap.get? p=some o/\o.cls= .type "list"/\o.data= .seq aP n/\IntsAre aP.toList out)/\OldK s₁.heap s'.heap/\s'.os=s₁.os/\AllBare s'.gens) s₁:=by
 have rv:=oN hi;have Tu:=hi.length
 have core:∀H:Hp,LW H->aL K H a (ns.map V.int)->iS P w H s₁.heap->(∀b,H b≠none->b=a)->(H a≠none->K.lookup a=none)->
   codeAny (model P w) callerA (.call (.ref fa) ⟨[.ref a], []⟩) (λr s'=>(∃p o aP n,r= .ok (.ret (.ref p))/\s'.heap.get? p=some o/\o.cls= .type "list"/\o.data= .seq aP n/\IntsAre aP.toList out)/\OldK s₁.heap s'.heap/\s'.os=s₁.os/\AllBare s'.gens) s₁:=by
  intro H hO hS b8 hA hK;have xn:∀{b:Addr} {o:Obj},s₁.heap.get? b=some o->H b=none->(pS s₁.heap H).get? b=some o:=λe n=>Cs e n
  have Nz:∀{b:Addr} {o:Obj} {es:Array DictEntry} {ep:Nat},s₁.heap.get? b=some o->o.data= .dict es ep->H b=none:=λ{b o es ep} e d=>by
   cases q:H b with
   |none=>rfl
   |some u=>
    have e':b=a:=hA b (by rw[q];simp);subst e';rw[ha]at e;cases e;have d':Data.seq vs.toArray _=Data.dict es ep:=d;cases d'
  have Qt:∀{b:Addr} {m:Str->Option Value},s₁.heap.Ns b m->(pS s₁.heap H).Ns b m:=λ{b m} ⟨o,es,ep,e,d,r⟩=>⟨o,es,ep,xn e (Nz e d),d,r⟩
  have V2:K.In (pS s₁.heap H):=λb o e=>xn (KX b o e) (by
   cases q:H b with
   |none=>rfl
   |some u=>
    have e':b=a:=hA b (by rw[q];simp);subst e'
    rw[hK (by rw[q];simp)]at e;cases e)
  have hM:Mod K mg (pS s₁.heap H):=⟨V2,Qt lE, ⟨mb,Qt hb,YS⟩,let⟨mc,h1,h2⟩:=Uj; ⟨mc,Qt h1,h2⟩⟩
  have e0:uG P w K mg (pS s₁.heap H) callerA [] s₁ H:=⟨rfl,hM,λb o e=>Hq e,F8 (yu _ _),trivial,λb hb=>absurd (show b∈([]:List Addr)from hb) (by simp),b8,.of_eq hg⟩
  apply codeAny_mono ((F _ V2 (Qt lE)).run callerA [] s₁ H ⟨[.ref a], []⟩ [.ref a] [.ref a] _ _ hr e0 (PV s₁ (.ref a) KX) (.cons rfl .nil) (rl H hO hS)) λr s' h=>?_;cases r with
  |error e=>exact CG h
  |ok fl=>
   cases fl with
   |next=>exact CG h
   |brk=>exact CG h
   |cont=>exact CG h
   |ret u=>
    obtain⟨v,H',os,bare,un,OS,r',q⟩:=h;obtain⟨p,rfl,hp⟩:=q;obtain rfl:u=Value.ref p:=r';obtain⟨_,aP,n,hv,ho⟩:=OS p _ hp;apply⟨⟨p,_,_,_,rfl,ho,rfl,rfl,by simpa using o9 hv⟩,OldK.of_keep λb o e=>?_,os,bare⟩;cases q:H b with
    |none=>exact un.keep b o e q (by intro z;exact absurd (show b∈([]:List Addr)from z) (by simp)) (by simp)
    |some u=>
     rcases hO b with z|⟨ob,xs,z⟩
     .rw[q]at z;cases z
     .have z2:=un.l7 b ob _ z;obtain⟨e1,_⟩:=b8 b _ z;obtain⟨e2,_⟩:=OS b _ z2;rw[e]at e1;cases e1;exact e2
 cases hk:K.lookup a with
 |some o=>
  have e:=KX a o hk;rw[ha]at e;cases e;apply core (λ_=>none) (λ_=> .inl rfl) (.inr ⟨_,vs.toArray,_,hk,rfl,rfl,rfl,by rw[AJ,Tu];exact hl,by simpa using rv⟩) (λb u z=>by have z':(none:Option HO)=some u:=z;cases z') (λb z=>absurd rfl z) λz=>absurd rfl z
 |none=>
  apply core (λb=>if b=a then some (.eM {cls:= .type "list",data:= .seq vs.toArray} (.lst (ns.map V.int)))else none) (λb=>?_) (.inl (.inr ⟨{cls:= .type "list",data:= .seq vs.toArray},iP rfl⟩)) (λb u z=>?_) (λb z=>?_) λ_=>hk
  .by_cases hb:b=a
   .exact .inr ⟨_,_,iP hb⟩
   .exact .inl (iN hb)
  .by_cases hb:b=a
   .have z':=(iP hb).symm.trans z;cases z';subst hb;exact⟨ha,by rw[AF];exact hl,vs,_,rv,ha⟩
   .have z':=(iN hb).symm.trans z;cases z'
  .by_cases hb:b=a
   .exact hb
   .exact absurd (iN hb) z
theorem u5 {ns:List Int} (h:Codec.withinAll DV (ns, ())=true):ns.length<=2500:=by
 have h:Codec.inPair (Codec.inList 0 2500 (Codec.inInt 0 2500)) (λx=>true) (ns, ())=true:=h;unfold Codec.inPair Codec.inList Codec.inLen Codec.inNat at h;simp at h;exact h.1
theorem wK:∀l:List Int,ofPys (l.map PyData.int)=l.map WData.int
 |[]=>by simp[ofPys]
 |x::l=>by simp[ofPys,ofPy,wK l]
theorem Hg (l:List Int):same (WData.list (l.map WData.int)) (WData.list (l.map WData.int))=true:=by
 have:=@os_same_list (l.map PyData.int) l rfl;have e:ofPy (PyData.list (l.map PyData.int))=WData.list (l.map WData.int):=by simp[ofPy,wK]
 rw[e]at this;exact this
def U6 (K:AD):Sp:=λvs H Q _=>∃(a:Addr) (l out:List Int),vs=[.ref a]/\uv K H a (iL l)/\Run [] l out/\out.length<=10000000/\∀(p:Addr) (H':Hp),H' p=some (.lst (iL out))->Q (.ref p) H'
theorem ok_A {P:Program} {w:World} {K:AD} {mg:Str->Option Value} {base:Heap} (g:G w K mg):aI P w K mg base bO 17 g.answers.f g.answers.fd ["calls"] (U6 K):=by
 have F:=ok_answers (P:=P) (base:=base) g;apply⟨λvs H Q E h=>by obtain⟨a,l,out,rfl,_⟩:=h;rfl,λA outer s H args us vs Q E hr e b r h=>?_⟩;apply F.run A outer s H args us vs Q E hr e b r ?_;obtain⟨a,l,out,h1,h2,h3,h4,h5⟩:=h;exact⟨a,l,out,h1,h2,h3,h4,reads,h5⟩
theorem uv.of {K:AD} {H:Hp} {a:Addr} {xs:List V} (hO:LW H) (h:aL K H a xs):uv K H a xs:=by
 rcases h with(h|⟨o,h⟩)|h
 .rcases hO a with q|⟨o,ys,q⟩
  .rw[q]at h;cases h
  .rw[q]at h;cases h
 .exact .inl ⟨o,h⟩
 .exact .inr h
theorem Ph {q:Program} {loose:List Str} {XP:(Str->Option Value)->Heap->Prop} {YP:World->Heap->Prop} {d:DefRec} {K:Params->AD} (hdf:d.params.defaults=[])
  (hY:∀(w:World) (h:Heap),YP w h->(K w.params).In h)
  (F:∀(w:World) (mg:Str->Option Value) (fa:Addr) (h:Heap), (K w.params).In h->h.Ns mainGlobals mg->mg d.name=some (.ref fa)->
   ∃fd:FuncData, (∀(s:Shared) (u:Value), (K w.params).In s.heap->BindsTo s fd ⟨[u], []⟩ [("calls",u)])/\∀base:Heap, (K w.params).In base->base.Ns mainGlobals mg->aI CD.prog w (K w.params) mg base bO 17 fa fd ["calls"] (U6 (K w.params))):
  WalkOS q loose XP YP CD d [] (λf vs=>PySem.call f vs):=by
 intro w s₀ s₁ mg mb G Y fa o pm cd doc dV kV ho hd nJ hD hmg hg args vals as fi Z5 hrd XW R8
 obtain⟨ns,O0,Ux⟩:∃ns:List Int,Codec.decAll DV args=some (ns, ())/\EV ns=true:=by
  unfold OpenSpec.pre at fi;cases hq:Codec.decAll CD.args args with
  |none=>rw[hq]at fi;cases fi
  |some a=>
   rw[hq]at fi;obtain⟨ns,u⟩:=a;exact⟨ns,hq,fi⟩
 obtain⟨zY,PH⟩:=Codec.encAll_of_decAll _ _ _ O0;have zY:args=[WData.list (ns.map WData.int)]:=zY.trans (congrArg (λz=>[z]) (Codec.enc_ints _ _ _ _ ns));subst zY
 obtain⟨a,vs,rfl,T4,hints⟩:∃a vs,vals=[Value.ref a]/\s₁.heap.get? a=some {cls:= .type "list",data:= .seq vs.toArray}/\IntsAre vs ns:=by
  cases XW with
  |cons w1 w2=>
   cases w2;cases w1 with
   |list ho fj=>exact⟨_,_,rfl,ho,WK.lC ns _ fj⟩
 have hlen:ns.length<=2500:=u5 PH
 obtain⟨rG,MC⟩:=x8 Ux;obtain⟨fd,NW,hF⟩:=F w mg fa _ (hY w _ Y) G.T.g hmg;apply enter_call (codeAny_mono (x6 (k:=17) (out:=DL ns) (hY w _ Y) G.T.g G.T.b G.T.builtins G.T.nolimit hg T4 hints (AY hlen nofun) ⟨rfl,by decide,by decide⟩ hF NW (λH hO hS=>⟨a,ns,_,rfl,uv.of hO hS,rG,MC,λp H' hp=>⟨p,rfl,hp⟩⟩)) λr s' hq=>?_);obtain⟨⟨p,ob,aP,n,rfl,e1,e2,e3,e4⟩,h2,h3,h4⟩:=hq;apply⟨.inl ⟨.ref p,.list ((DL ns).map WData.int),_,rfl,λ_=>rfl,.list e1 e2 e3 (m9 e4),?_,λz=>by cases z⟩,h2,h3,h4⟩;apply os_post (r:=CD) (a:=(ns, ())) O0 ?_;exact(congrArg (same (.list ((DL ns).map WData.int))) (Codec.enc_ints _ _ _ _ (DL ns))).trans (Hg _)
end An
namespace An
open PySem PySem.W L2
theorem bq {K:AD} {h:Heap} {mg:Str->Option Value} (X:K.In h) (G:h.Ns mainGlobals mg) {x:Str} {st:Stmt} {ps:List Str} {f:Addr} {oc:Value} {od an:Option Addr} {sl:Array (Option Value)} {kV dc pm cd ct:Value}
  (b:∀(kV doc pm:Value) (an:Option Addr) (gZ ct:Value) (us:List Value),us.length=ps.length->bindArgs (CZ x x (d7 st) (dm st) (ai st) .none kV doc pm an gZ ct) ⟨us, []⟩=pure (ps.zip us))
  (a:nsIn K mainGlobals x=some (some (.ref f))) (l:K.lookup f=some ⟨oc,od,.func (CZ x x (d7 st) (dm st) (ai st) .none kV dc pm an cd ct),sl⟩) (c:codeIn K cd x=true) (k:keepIn K (.ref f)=true):Nonempty (Fn K mg x x st ps):=
 ⟨⟨f,_,jL l c k, (jL l c k).binds b,mg_of X G a⟩⟩
noncomputable def nx {α:Type} (h:Nonempty α):α:=KR h
end An
set_option tactic.hygienic true
namespace An
open PySem PySem.W L2
def bT (x qual:Str) (st:Stmt) (ps:List Str):Prop:=∀(kV doc pm:Value) (an:Option Addr) (gZ ct:Value) (us:List Value),us.length=ps.length->bindArgs (CZ x qual (d7 st) (dm st) (ai st) .none kV doc pm an gZ ct) ⟨us, []⟩=pure (ps.zip us)
section
variable{w:World} {K:AD} {h:Heap} {mg:Str->Option Value} {x qual:Str} {st:Stmt} {ps:List Str} {f C a:Addr} {oc:Value} {od an:Option Addr} {sl:Array (Option Value)} {kV dc pm cd ct u:Value} {v:V} {xs:List V} {o:Obj} {aC:List (Key×V)}
theorem fz (b:bT x qual st ps) (a:findIn K (.ref C) x=some (some (.ref f))) (i:isFn K (.ref f)=true) (l:K.lookup f=some ⟨oc,od,.func (CZ x qual (d7 st) (dm st) (ai st) .none kV dc pm an cd ct),sl⟩) (c:codeIn K cd qual=true) (k:keepIn K (.ref f)=true):Nonempty (Me K C x qual st ps):=
 ⟨⟨f,_,jL l c k, (jL l c k).binds b, ⟨a,i,k⟩⟩⟩
theorem zx (b:bT "__init__" qual st ps) (a:findIn K (.ref C) "__init__"=some (some (.ref f))) (i:isFn K (.ref f)=true) (l:K.lookup f=some ⟨oc,od,.func (CZ "__init__" qual (d7 st) (dm st) (ai st) .none kV dc pm an cd ct),sl⟩) (c:codeIn K cd qual=true) (k:keepIn K (.ref f)=true) (m:makesIn K C=true) (kc:keepIn K (.ref C)=true):Nonempty (zo K C "__init__" qual st ps):=
 ⟨⟨f,_,jL l c k, (jL l c k).binds b, ⟨m,a,i,kc⟩⟩⟩
theorem sg (X:K.In h) (G:h.Ns mainGlobals mg) {P:Addr->Prop} (a:nsIn K mainGlobals x=some (some (.ref C))) (p:P C):∃C,mg x=some (.ref C)/\P C:=⟨C,mg_of X G a,p⟩
theorem Tq (a:findIn K (.ref C) x=some none):aH K C x:=a
theorem UH (X:K.In h) (G:h.Ns mainGlobals mg) (a:nsIn K mainGlobals x=some (some u)) (r:RelV v u):Cn mg x v:=⟨u,mg_of X G a,r⟩
def Fq:V->Value->Bool
 | .int i,.int j _=>decide (i=j)
 | .str a,.str b _=>a==b
 |_,_=>false
def zK:List V->List Value->Bool
 |[], []=>true
 |x::xs,u::us=>Fq x u&&zK xs us
 |_,_=>false
theorem sk:∀{x:V} {u:Value},Fq x u=true->RelV x u:=by
 intro x u h;unfold Fq at h
 split at h
 .have:=of_decide_eq_true h;subst this;exact⟨_,rfl⟩
 .have:=eq_of_beq h;subst this;exact⟨_,rfl⟩
 .cases h
theorem oO:∀{xs:List V} {us:List Value},zK xs us=true->Vals xs us
 |[], [],_=> .nil
 |[],_::_,h=>by cases h
 |_::_, [],h=>by cases h
 |x::xs,u::us,h=>by
  have h:=DE.mp h;exact .cons (sk h.1) (oO h.2)
def Om (xs:List V) (o:Obj):Bool:=(match o.cls with| .type t=>t=="tuple"|_=>false)&&(match o.data with| .seq aP _=>decide (aP.size<=100)&&zK xs aP.toList|_=>false)
theorem S5 (X:K.In h) (G:h.Ns mainGlobals mg) (a1:nsIn K mainGlobals x=some (some (.ref a))) (l:K.lookup a=some o) (b:Om xs o=true):Nonempty (Tp K mg x xs):=by
 apply⟨⟨a,mg_of X G a1,λH=>?_⟩⟩;unfold Om at b;obtain⟨b1,b2⟩:=DE.mp b
 split at b1
 .next t ht=>
  split at b2
  .next aP n hd=>
   obtain⟨b3,b4⟩:=DE.mp b2;exact .inr ⟨o,aP,n,l,by rw[ht,eq_of_beq b1],hd,AY (of_decide_eq_true b3) nofun,oO b4⟩
  .cases b2
 .cases b1
inductive i5 (w:World):List (Key×V)->List DictEntry->Prop
 |nil:i5 w [] []
 |cons {k:Key} {v:V} {e:DictEntry} {aC:List (Key×V)} {es:List DictEntry}:ma k e.key=true->e.hash=OM w k->Fq v e.val=true->i5 w aC es->i5 w ((k,v)::aC) (e::es)
def iR:List (Key×V)->List DictEntry->List (Key×Value)
 |(k,_)::aC,e::es=>(k,e.val)::iR aC es
 |_,_=>[]
theorem i5.pairs {P:Program}:∀{aC:List (Key×V)} {es:List DictEntry},i5 w aC es->Pairs (bw P w) es (iR aC es)/\KV aC (iR aC es)/\(iR aC es).map (·.1)=aC.map (·.1)/\∀e∈es,∃k, (bw P w).is k e.key=true/\e.hash=(bw P w).hash k
 |_,_,.nil=>⟨.nil,.nil,rfl,λe h=>by cases h⟩
 |_,_,.cons a b c r=>by
  obtain⟨r1,r2,r3,r4⟩:=i5.pairs (P:=P) r;apply⟨.cons a rfl r1,.cons ⟨rfl,sk c⟩ r2,by simp[iR,r3],λe h=>?_⟩;rcases AG.mp h with q|q
  .rw[q];exact⟨_,a,b⟩
  .exact r4 e q
theorem Ts (X:K.In h) (G:h.Ns mainGlobals mg) (a1:nsIn K mainGlobals x=some (some (.ref a))) {es:Array DictEntry} {ep:Nat} (l:K.lookup a=some ⟨.type "dict",none,.dict es ep,#[]⟩) (hs:(a==sysModules)=false) (hr:i5 w aC es.toList) (hn:(aC.map (·.1)).Nodup):Nonempty (Md w K mg x aC):=by
 apply⟨⟨a,mg_of X G a1,hs,λP=>?_⟩⟩;obtain⟨r1,r2,r3,r4⟩:=hr.pairs (P:=P);exact⟨_,iR aC es.toList,l, ⟨es,ep, ⟨rfl,rfl,rfl⟩,rfl,λe he=>r4 e (by simpa using he),r1,by rw[r3];exact hn⟩,r2⟩
end
theorem b1 {α β:Type} {p:List α->Prop} {a0:β} (h:∀u0,p [u0]) (us:List α) (l:us.length=[a0].length):p us:=match us,l with|[_],_=>h _
theorem b2 {α β:Type} {p:List α->Prop} {a0 a1:β} (h:∀u0 u1,p [u0,u1]) (us:List α) (l:us.length=[a0,a1].length):p us:=match us,l with|[_,_],_=>h _ _
theorem b3 {α β:Type} {p:List α->Prop} {a0 a1 a2:β} (h:∀u0 u1 u2,p [u0,u1,u2]) (us:List α) (l:us.length=[a0,a1,a2].length):p us:=match us,l with|[_,_,_],_=>h _ _ _
theorem b4 {α β:Type} {p:List α->Prop} {a0 a1 a2 a3:β} (h:∀u0 u1 u2 u3,p [u0,u1,u2,u3]) (us:List α) (l:us.length=[a0,a1,a2,a3].length):p us:=match us,l with|[_,_,_,_],_=>h _ _ _ _
theorem bd_is_point:bT "is_point" "is_point" s_is_point ["number"]:=λ_ _ _ _ _ _=>b1 λ_=>rfl
theorem bd_is_letter:bT "is_letter" "is_letter" s_is_letter ["point"]:=λ_ _ _ _ _ _=>b1 λ_=>rfl
theorem bd_small:bT "small" "small" s_small ["points"]:=λ_ _ _ _ _ _=>b1 λ_=>rfl
theorem bd_points_of:bT "points_of" "points_of" s_points_of ["text"]:=λ_ _ _ _ _ _=>b1 λ_=>rfl
theorem bd_word_of:bT "word_of" "word_of" s_word_of ["points"]:=λ_ _ _ _ _ _=>b1 λ_=>rfl
theorem bd_sequence_length:bT "sequence_length" "sequence_length" s_sequence_length ["lead"]:=λ_ _ _ _ _ _=>b1 λ_=>rfl
theorem bd_sequence_point:bT "sequence_point" "sequence_point" s_sequence_point ["sequence","length"]:=λ_ _ _ _ _ _=>b2 λ_ _=>rfl
theorem bd_from_utf8:bT "from_utf8" "from_utf8" s_from_utf8 ["came"]:=λ_ _ _ _ _ _=>b1 λ_=>rfl
theorem bd_with_plain_lines:bT "with_plain_lines" "with_plain_lines" s_with_plain_lines ["points"]:=λ_ _ _ _ _ _=>b1 λ_=>rfl
theorem bd_decoded:bT "decoded" "decoded" s_decoded ["came"]:=λ_ _ _ _ _ _=>b1 λ_=>rfl
theorem bd_encoded:bT "encoded" "encoded" s_encoded ["points"]:=λ_ _ _ _ _ _=>b1 λ_=>rfl
theorem bd_digit_of:bT "digit_of" "digit_of" s_digit_of ["point"]:=λ_ _ _ _ _ _=>b1 λ_=>rfl
theorem bd_number_of:bT "number_of" "number_of" s_number_of ["digits","base"]:=λ_ _ _ _ _ _=>b2 λ_ _=>rfl
theorem bd_numbered_point:bT "numbered_point" "numbered_point" s_numbered_point ["points"]:=λ_ _ _ _ _ _=>b1 λ_=>rfl
theorem bd_told_at:bT "told_at" "told_at" s_told_at ["points","place"]:=λ_ _ _ _ _ _=>b2 λ_ _=>rfl
theorem bd_told:bT "told" "told" s_told ["points"]:=λ_ _ _ _ _ _=>b1 λ_=>rfl
theorem bd_Tag_init:bT "__init__" "Tag.__init__" s_Tag_init ["self","name","attributes","short"]:=λ_ _ _ _ _ _=>b4 λ_ _ _ _=>rfl
theorem bd_Element_init:bT "__init__" "Element.__init__" s_Element_init ["self","tag","depth"]:=λ_ _ _ _ _ _=>b3 λ_ _ _=>rfl
theorem bd_Leaf_init:bT "__init__" "Leaf.__init__" s_Leaf_init ["self","kind","depth","points"]:=λ_ _ _ _ _ _=>b4 λ_ _ _ _=>rfl
theorem bd_plain_tag:bT "plain_tag" "plain_tag" s_plain_tag ["word"]:=λ_ _ _ _ _ _=>b1 λ_=>rfl
theorem bd_in_order:bT "in_order" "in_order" s_in_order ["html"]:=λ_ _ _ _ _ _=>b1 λ_=>rfl
theorem bd_take_text:bT "take_text" "take_text" s_take_text ["tree","point"]:=λ_ _ _ _ _ _=>b2 λ_ _=>rfl
theorem bd_take_remark:bT "take_remark" "take_remark" s_take_remark ["tree","points"]:=λ_ _ _ _ _ _=>b2 λ_ _=>rfl
theorem bd_take_start:bT "take_start" "take_start" s_take_start ["tree","tag"]:=λ_ _ _ _ _ _=>b2 λ_ _=>rfl
theorem bd_start_in_body:bT "start_in_body" "start_in_body" s_start_in_body ["tree","tag"]:=λ_ _ _ _ _ _=>b2 λ_ _=>rfl
theorem bd_close_framing_table:bT "close_framing_table" "close_framing_table" s_close_framing_table ["tree"]:=λ_ _ _ _ _ _=>b1 λ_=>rfl
theorem bd_start_part:bT "start_part" "start_part" s_start_part ["tree","tag"]:=λ_ _ _ _ _ _=>b2 λ_ _=>rfl
theorem bd_make_room:bT "make_room" "make_room" s_make_room ["tree","word"]:=λ_ _ _ _ _ _=>b2 λ_ _=>rfl
theorem bd_make_row_room:bT "make_row_room" "make_row_room" s_make_row_room ["tree"]:=λ_ _ _ _ _ _=>b1 λ_=>rfl
theorem bd_close_for:bT "close_for" "close_for" s_close_for ["tree","word"]:=λ_ _ _ _ _ _=>b2 λ_ _=>rfl
theorem bd_close_nearest_of:bT "close_nearest_of" "close_nearest_of" s_close_nearest_of ["tree","words","limits"]:=λ_ _ _ _ _ _=>b3 λ_ _ _=>rfl
theorem bd_take_end:bT "take_end" "take_end" s_take_end ["tree","tag"]:=λ_ _ _ _ _ _=>b2 λ_ _=>rfl
theorem bd_end_other:bT "end_other" "end_other" s_end_other ["tree","word"]:=λ_ _ _ _ _ _=>b2 λ_ _=>rfl
theorem bd_place_of_any:bT "place_of_any" "place_of_any" s_place_of_any ["points","place","wanted"]:=λ_ _ _ _ _ _=>b3 λ_ _ _=>rfl
theorem bd_place_behind:bT "place_behind" "place_behind" s_place_behind ["points","place","passed"]:=λ_ _ _ _ _ _=>b3 λ_ _ _=>rfl
theorem bd_name_from:bT "name_from" "name_from" s_name_from ["points"]:=λ_ _ _ _ _ _=>b1 λ_=>rfl
theorem bd_read_value:bT "read_value" "read_value" s_read_value ["points","place"]:=λ_ _ _ _ _ _=>b2 λ_ _=>rfl
theorem bd_read_attribute:bT "read_attribute" "read_attribute" s_read_attribute ["points","place","attributes"]:=λ_ _ _ _ _ _=>b3 λ_ _ _=>rfl
theorem bd_read_tag:bT "read_tag" "read_tag" s_read_tag ["points","place"]:=λ_ _ _ _ _ _=>b2 λ_ _=>rfl
theorem bd_Tree_init:bT "__init__" "Tree.__init__" s_Tree_init ["self"]:=λ_ _ _ _ _ _=>b1 λ_=>rfl
theorem bd_Tree_current:bT "current" "Tree.current" s_Tree_current ["self"]:=λ_ _ _ _ _ _=>b1 λ_=>rfl
theorem bd_Tree_nearest:bT "nearest" "Tree.nearest" s_Tree_nearest ["self","words"]:=λ_ _ _ _ _ _=>b2 λ_ _=>rfl
theorem bd_Tree_within_walls:bT "within_walls" "Tree.within_walls" s_Tree_within_walls ["self","word"]:=λ_ _ _ _ _ _=>b2 λ_ _=>rfl
theorem bd_Tree_close:bT "close" "Tree.close" s_Tree_close ["self","place"]:=λ_ _ _ _ _ _=>b2 λ_ _=>rfl
theorem bd_Tree_close_current:bT "close_current" "Tree.close_current" s_Tree_close_current ["self","words"]:=λ_ _ _ _ _ _=>b2 λ_ _=>rfl
theorem bd_Tree_close_within_table:bT "close_within_table" "Tree.close_within_table" s_Tree_close_within_table ["self","kept"]:=λ_ _ _ _ _ _=>b2 λ_ _=>rfl
theorem bd_Tree_open_again:bT "open_again" "Tree.open_again" s_Tree_open_again ["self"]:=λ_ _ _ _ _ _=>b1 λ_=>rfl
theorem bd_Tree_forget_last:bT "forget_last" "Tree.forget_last" s_Tree_forget_last ["self","word"]:=λ_ _ _ _ _ _=>b2 λ_ _=>rfl
theorem bd_Tree_forget_all:bT "forget_all" "Tree.forget_all" s_Tree_forget_all ["self","word"]:=λ_ _ _ _ _ _=>b2 λ_ _=>rfl
theorem bd_Tree_put_in:bT "put_in" "Tree.put_in" s_Tree_put_in ["self","parent","tag"]:=λ_ _ _ _ _ _=>b3 λ_ _ _=>rfl
theorem bd_Tree_put:bT "put" "Tree.put" s_Tree_put ["self","tag"]:=λ_ _ _ _ _ _=>b2 λ_ _=>rfl
theorem bd_Tree_put_implying:bT "put_implying" "Tree.put_implying" s_Tree_put_implying ["self","implied","tag"]:=λ_ _ _ _ _ _=>b3 λ_ _ _=>rfl
theorem bd_Tree_put_remark:bT "put_remark" "Tree.put_remark" s_Tree_put_remark ["self","parent","points"]:=λ_ _ _ _ _ _=>b3 λ_ _ _=>rfl
theorem bd_Tree_put_text:bT "put_text" "Tree.put_text" s_Tree_put_text ["self","point"]:=λ_ _ _ _ _ _=>b2 λ_ _=>rfl
theorem bd_Tree_add_attributes:bT "add_attributes" "Tree.add_attributes" s_Tree_add_attributes ["self","element","tag"]:=λ_ _ _ _ _ _=>b3 λ_ _ _=>rfl
theorem bd_read_text:bT "read_text" "read_text" s_read_text ["points"]:=λ_ _ _ _ _ _=>b1 λ_=>rfl
theorem bd_point_at:bT "point_at" "point_at" s_point_at ["points","place"]:=λ_ _ _ _ _ _=>b2 λ_ _=>rfl
theorem bd_read_piece:bT "read_piece" "read_piece" s_read_piece ["tree","points","place"]:=λ_ _ _ _ _ _=>b3 λ_ _ _=>rfl
theorem bd_stands_nothing:bT "stands_nothing" "stands_nothing" s_stands_nothing ["points","place"]:=λ_ _ _ _ _ _=>b2 λ_ _=>rfl
theorem bd_behind_nothing:bT "behind_nothing" "behind_nothing" s_behind_nothing ["points","place"]:=λ_ _ _ _ _ _=>b2 λ_ _=>rfl
theorem bd_read_remark:bT "read_remark" "read_remark" s_read_remark ["tree","points","place"]:=λ_ _ _ _ _ _=>b3 λ_ _ _=>rfl
theorem bd_read_end:bT "read_end" "read_end" s_read_end ["tree","points","place"]:=λ_ _ _ _ _ _=>b3 λ_ _ _=>rfl
theorem bd_read_start:bT "read_start" "read_start" s_read_start ["tree","points","place"]:=λ_ _ _ _ _ _=>b3 λ_ _ _=>rfl
theorem bd_raw_end:bT "raw_end" "raw_end" s_raw_end ["points","place","name"]:=λ_ _ _ _ _ _=>b3 λ_ _ _=>rfl
theorem bd_raw_text:bT "raw_text" "raw_text" s_raw_text ["word","points"]:=λ_ _ _ _ _ _=>b2 λ_ _=>rfl
theorem bd_behind_first_line_feed:bT "behind_first_line_feed" "behind_first_line_feed" s_behind_first_line_feed ["points","place"]:=λ_ _ _ _ _ _=>b2 λ_ _=>rfl
theorem bd_told_tree:bT "told_tree" "told_tree" s_told_tree ["html"]:=λ_ _ _ _ _ _=>b1 λ_=>rfl
theorem bd_add_counted:bT "add_counted" "add_counted" s_add_counted ["numbers","points"]:=λ_ _ _ _ _ _=>b2 λ_ _=>rfl
theorem bd_add_tag:bT "add_tag" "add_tag" s_add_tag ["numbers","tag"]:=λ_ _ _ _ _ _=>b2 λ_ _=>rfl
theorem bd_written_tree:bT "written_tree" "written_tree" s_written_tree ["html"]:=λ_ _ _ _ _ _=>b1 λ_=>rfl
theorem bd_escaped:bT "escaped" "escaped" s_escaped ["points"]:=λ_ _ _ _ _ _=>b1 λ_=>rfl
theorem bd_written_tag:bT "written_tag" "written_tag" s_written_tag ["tag"]:=λ_ _ _ _ _ _=>b1 λ_=>rfl
theorem bd_written_start:bT "written_start" "written_start" s_written_start ["element"]:=λ_ _ _ _ _ _=>b1 λ_=>rfl
theorem bd_written_text:bT "written_text" "written_text" s_written_text ["leaf","parent"]:=λ_ _ _ _ _ _=>b2 λ_ _=>rfl
theorem bd_written_end:bT "written_end" "written_end" s_written_end ["element"]:=λ_ _ _ _ _ _=>b1 λ_=>rfl
theorem bd_Page_init:bT "__init__" "Page.__init__" s_Page_init ["self"]:=λ_ _ _ _ _ _=>b1 λ_=>rfl
theorem bd_Page_begin:bT "begin" "Page.begin" s_Page_begin ["self"]:=λ_ _ _ _ _ _=>b1 λ_=>rfl
theorem bd_Page_feed:bT "feed" "Page.feed" s_Page_feed ["self","more"]:=λ_ _ _ _ _ _=>b2 λ_ _=>rfl
theorem bd_Page_root:bT "root" "Page.root" s_Page_root ["self"]:=λ_ _ _ _ _ _=>b1 λ_=>rfl
theorem bd_Page_tell:bT "tell" "Page.tell" s_Page_tell ["self"]:=λ_ _ _ _ _ _=>b1 λ_=>rfl
theorem bd_Page_write:bT "write" "Page.write" s_Page_write ["self"]:=λ_ _ _ _ _ _=>b1 λ_=>rfl
theorem bd_answer_at:bT "answer_at" "answer_at" s_answer_at ["page","calls","place"]:=λ_ _ _ _ _ _=>b3 λ_ _ _=>rfl
theorem bd_answers:bT "answers" "answers" s_answers ["calls"]:=λ_ _ _ _ _ _=>b1 λ_=>rfl
def P_Tag (K:AD) (C:Addr):Prop:=oB K C/\aH K C "name"/\aH K C "word"/\aH K C "attributes"/\aH K C "short"/\aH K C "text"/\aH K C "written"/\Nonempty (zo K C "__init__" "Tag.__init__" s_Tag_init ["self","name","attributes","short"])
def P_Element (K:AD) (C:Addr):Prop:=oB K C/\aH K C "kind"/\aH K C "depth"/\aH K C "tag"/\aH K C "word"/\aH K C "inside"/\Nonempty (zo K C "__init__" "Element.__init__" s_Element_init ["self","tag","depth"])
def P_Leaf (K:AD) (C:Addr):Prop:=oB K C/\aH K C "kind"/\aH K C "depth"/\aH K C "points"/\Nonempty (zo K C "__init__" "Leaf.__init__" s_Leaf_init ["self","kind","depth","points"])
def P_Tree (K:AD) (C:Addr):Prop:=oB K C/\aH K C "html"/\aH K C "head"/\aH K C "body"/\aH K C "opened"/\aH K C "begun"/\aH K C "remembered"/\Nonempty (zo K C "__init__" "Tree.__init__" s_Tree_init ["self"])/\Nonempty (Me K C "current" "Tree.current" s_Tree_current ["self"])/\Nonempty (Me K C "nearest" "Tree.nearest" s_Tree_nearest ["self","words"])/\Nonempty (Me K C "within_walls" "Tree.within_walls" s_Tree_within_walls ["self","word"])/\Nonempty (Me K C "close" "Tree.close" s_Tree_close ["self","place"])/\Nonempty (Me K C "close_current" "Tree.close_current" s_Tree_close_current ["self","words"])/\Nonempty (Me K C "close_within_table" "Tree.close_within_table" s_Tree_close_within_table ["self","kept"])/\Nonempty (Me K C "open_again" "Tree.open_again" s_Tree_open_again ["self"])/\Nonempty (Me K C "forget_last" "Tree.forget_last" s_Tree_forget_last ["self","word"])/\Nonempty (Me K C "forget_all" "Tree.forget_all" s_Tree_forget_all ["self","word"])/\Nonempty (Me K C "put_in" "Tree.put_in" s_Tree_put_in ["self","parent","tag"])/\Nonempty (Me K C "put" "Tree.put" s_Tree_put ["self","tag"])/\Nonempty (Me K C "put_implying" "Tree.put_implying" s_Tree_put_implying ["self","implied","tag"])/\Nonempty (Me K C "put_remark" "Tree.put_remark" s_Tree_put_remark ["self","parent","points"])/\Nonempty (Me K C "put_text" "Tree.put_text" s_Tree_put_text ["self","point"])/\Nonempty (Me K C "add_attributes" "Tree.add_attributes" s_Tree_add_attributes ["self","element","tag"])
def P_Page (K:AD) (C:Addr):Prop:=oB K C/\aH K C "came"/\aH K C "html"/\Nonempty (zo K C "__init__" "Page.__init__" s_Page_init ["self"])/\Nonempty (Me K C "begin" "Page.begin" s_Page_begin ["self"])/\Nonempty (Me K C "feed" "Page.feed" s_Page_feed ["self","more"])/\Nonempty (Me K C "root" "Page.root" s_Page_root ["self"])/\Nonempty (Me K C "tell" "Page.tell" s_Page_tell ["self"])/\Nonempty (Me K C "write" "Page.write" s_Page_write ["self"])
end An
open PySem PySem.W PyProof.Rows L2 An
local macro_rules | `(tactic| walk_at "f") => do
  let c (x : Lean.Name) := Lean.mkIdent x
  `(tactic| ((case $(c `a):ident => k_is); (case $(c `l):ident => k_is); (case $(c `c):ident => k_is); (case $(c `k):ident => k_is)))
local macro_rules | `(tactic| walk_at "m") => do
  let c (x : Lean.Name) := Lean.mkIdent x
  `(tactic| ((case $(c `a):ident => k_is); (case $(c `i):ident => k_is); (case $(c `l):ident => k_is); (case $(c `c):ident => k_is); (case $(c `k):ident => k_is)))
local macro_rules | `(tactic| walk_at "i") => do
  let c (x : Lean.Name) := Lean.mkIdent x
  `(tactic| (walk_at "m"; (case $(c `m):ident => k_is); (case $(c `n):ident => k_is)))
local macro_rules | `(tactic| walk_at "n") => `(tactic| (refine' An.Tq ?_; k_is))
local macro_rules | `(tactic| walk_at "c") => do
  let X := Lean.mkIdent `KX
  let G := Lean.mkIdent `G
  `(tactic| (refine' An.UH $X $G ?a ?r; (case a => k_is); (case r => exact ⟨_, rfl⟩)))
local macro_rules | `(tactic| walk_at "t") => do
  let X := Lean.mkIdent `KX
  let G := Lean.mkIdent `G
  `(tactic| (dsimp only [L2.bJ]; refine' An.S5 $X $G ?a ?l ?b; (case a => k_is); (case l => k_is); (case b => rfl)))
local macro_rules | `(tactic| walk_at "d") => do
  let X := Lean.mkIdent `KX
  let G := Lean.mkIdent `G
  `(tactic| (dsimp only [L2.bJ]; refine' An.Ts $X $G ?a ?l ?s ?r ?n; (case a => k_is); (case l => k_is); (case s => rfl); (case r => repeat (first | exact An.i5.nil | refine An.i5.cons rfl rfl rfl ?_)); (case n => decide)))
local macro_rules | `(tactic| walk_at "b") => do
  let X := Lean.mkIdent `KX
  let G := Lean.mkIdent `G
  `(tactic| (refine' PySem.W.mg_none_of $X $G ?a; (case a => k_is)))
structure PySem.W.Fast:Prop where(tw2168455406172181634 tw1686909262583869579 tw4728685829247753174 tw2127530353169320576 tw7592415475382331004 tw1797620856838190020 tw4370358837823568130 tw17223751064477041638 tw1960525282174557410 tw1984915943223273659 tw10578199346051712915 tw5413950731524713537 te1165804470395519646 tw5486242238045807098 tw16585774010100049239 tw14729385524896557749 tw7199041516634332501 tw18109073372060955991 tw12323515554162388611 tw3281704017491859709 tw8364100361023761167 tw9729339746112988292 tw14265617163647864522 tw7951180417077001288 tw799759100710309865 tw868639583006047823 tw12118890790547624087 tw12528808232140762687 tw15496930539383185883 tw11971979052337862384 tw10155782515894069563 tw11931220200963014151 tw9218077221168916316 tw2143110298804504 tw5928488636941181700 tw18403666861717628491 tw7329281581196469184 tw14768364247431610131 tw11970068843908182771 tw3799157641679082083 tw9506142234627446083 tw11804353499273426737 tw2402019164627637602 tw11884582245125560387 tw5594487075680863070 tw16745780578427854270 tw8899548510767399505 tw8698942254842551461 tw9036753681907911043 tw1564977953705173702 tw16055090289836334187 tw8539516003184726199 tw9687090455840040453 tw16480149135012427149 tw16407313405176158539 tw12487259283579177020 tw7006789916877520426 tw3684230684302837192 tw8839355702887982448 tw6032954128492740468 tw238581759907691034 tw17828108865884551746 tw8613827022091012434 tw2424504254860687217 tw8613668580254021395 tw13945361438107319898 tw981795143497727431 tw10616731563590988258 tw14515341608129044660 tw7054983331018616236 tw11830711355742270592 tw15528321022282289979 tw13922041740896753842 tw16216438870235711185 tw2047537285232284989 tw13494139327687456131 tw3004038143791237206 tw720836727613504605 tw8090723893488525332 tw17409011826973440293 tw17426123052445044573 tw11556126941034537341 tw17581585734816443659 tw4854736305989014770 tw7295215757012563461 tw7986269433677809051 tw14791522630682312225 tw7300068299513113703 tw13825922223250834669 tw12158602010470422045 tw12992891549455636199 tw1526635314409792692 tw2472245224353885459 tw13960107911165228276 tw11484734263465105143 tw345158603588938623 tw9603515302608307658 tw15017249072338649943 tw14198851914227937728 tw8065223112231082048 tw12517791786093583522 tw7780071756946762978 tw255433299909385054 tw7885552999304850025 tw11215197318824759589 tw10137346049498951091 tw16860736605167001779 tw1357046323968801146 tw10529783861759436732 tw14809084321001259667 tw1067612908817951715 tw10253369023950135883 tw5220415793062601692 tw3980564693613024768 tw15815971965278261518 tw4332807285627315856 tw7014001338665789142 tw14155284892366694520 tw9340608700173450551 tw16504565283402726487 tw1032258989710659819 tw815957833643783753 tw675442173868292337 tw15200602230989238765 tw14038995123955843822 tw17535282291718828740 tw16428344255182814493 tw10715175599381951101 tw7923606891390516983 tw12857111744482273960 tw9663239149287666704 tw1915576516190451950 tw3590752352827373418 tw12278445135312904469 tw13189133371506169121 tw11920936882329289026 tw9955840938905944968 tw6071522433672128697 tw5536893221044868830 tw11331911171618655706 tw4481159387021616840 tw3216747976657174997 tw9833524056132440323 tw8069783296368966674 tw3876360354270723463 tw17750332750881790223 tw7821694838093006221 tw9203342274435042434 tw3831423376281602265 tw16125007459250925269 tw14193166977812697832 tw13498458236550145795 tw15793943344556294120 tw8168613173287365416 tw8838271112286716583 tw13930727895144817653 tw14408710821090736509 tw10050753178155251267 tw2363004383741572255 tw6469031942509320092 tw14287758068745722844 tw6264757211760416215 tw430914917773074476 tw14125217447463425850 tw2101405298418913933 tw6881958953124506561 tw12661401680332181058 tw4725231316164523882 tw560166497294096971 tw15378866828849202141 tw796031622682536386 tw2887294529853412183 tw1349919507715562535 tw6268864840984717035 tw5841730872478191512 tw14824473553332900344 tw10044233163298032096 tw14874529778256933147 tw3227440136300929133 tw14807722133706821322 tw14387664677147682581 tw13863409435850230194 tw9861347286631410554 tw3988684053752726883 tw7969962320606422810 tw12333013895555945840 tw10595202401580191989 tw934122782155011256 tw5083667966523522248 tw8978776166639101961 tw13278853737501236043 tw12456637729679647393 tw2729832607413269065 tw8598651296490689659 tw13581138323336395990 tw15745070809157690794 tw13991016796165980822 tw8001479364789171985 tw1822455887896503406 tw936601012954727991 tw14506094301074709863 tw8174255150621179758 tw1597312790400588530 tw3042536100513541361 tw6017250414082093159 tw8311366355611551054 tw11724683557347631329 tw279452610450643510 tw6218585409634406059 tw10315332842910415346 tw2159577661888617731 tw424652761849369282 tw9510225689102222069 tw11676231281139661888 tw15476645867451076804 tw8039222771561465366 tw9996375341656712003 tw16692299090429614428 tw12348796999875617 tw1692385692270470168 tw2491550811714746348 tw3356656610793233873 tw4276074850023587019 tw4306144315035531940 tw14677408256557854521 tw16420294519723041609 tw5807131920365503440 tw10821779366363298973 tw5692535760064097331 tw1816418098953640172 tw4821096782437060122 tw3248534906128884811 tw14667773665467813767 tw3260733687066121675 tw3268056335374931583 tw17214470914985315720 tw14845704157716946447 tw8603911001123635804 tw3442819783978822503 tw14506653877817526019 tw18186767704530777643 tw6881895468344641903 tw9670788092915630974 tw1892372544885975387 tw11513947704130396326 tw7608079639374100444 tw12842422515137401368 tw366195173106560829 tw16922551628435476495 tw17652057322746593687 tw5695835333595298689 tw2015361318534388775 tw6937333586318916751 tw7025075949736496943 tw2669083001687898802 tw11016638398391195899 tw10757231280161463244 tw13343157502332200409 tw4449982938065874441 tw4340784720333375174 tw872668212462011281 tw2847968372409146156 tw18344657195032467615 tw13987702340516578881 tw11991790898915422092 tw1037475010412674713 tw3274756115523279457 tw14176373019687795877 tw13758135725373662624 tw18408753280336007866 tw14257399649767418826 tw16220471365092728526 tw13913253640229854840 tw1941902885660499158 tw1047008292947888293 tw10987569562999920287 tw13111951956328116564 tw10178196283466551345 tw3001978171810849774 tw17392492337428219253 tw12755787048281012182 tw11294609861260748260 tw4739792019543138151 tw13520081778960055122 tw7303896338850853258 tw2114353000667175543 tw10980182199354987632 tw5605647429736335335 tw4083942295541272733 tw2336300602342068627 tw2227155795949303324 tw17245239015385779429 tw13065383686668248957 tw2563686713129241922 tw3993557490676356992 tw2336676214483475018 tw13126973899242277669 tw5228529150483156122 tw1204256930787064763 tw5486658743527098242 tw5234711058409785696 tw17197415869232463125 tw8522188443377548764 tw6377575477173735195 tw5572720136355093664 tw17821921131017035960 tw13481326811353742070 tw13156070582835557489 tw6546358139031076596 tw6096504592263866789 tw6064086471406650976 tw4037170111769260215 tw1786088461782580924 tw1712682005215119626 tw13701412124892795165 tw935065609564724652 tw8921921576550906083 tw8172682014617789048 tw6861856590009924852 tw5129890594926732362 tw17662075424071244435 tw14612028487688033013 tw12887486546028134795 tw12813582169259699209 tw12284236937063663570 tw4775364950801182012 tw4768466251457602526 tw4565473949868173709 tw17520793158718386082 tw13349112243063322177 tw13209693093582222593 tw12324282339887730407 tw11503537175641545823 tw11166827912230207607 tw9930907734944416786 tw5764092437432543410 tw3093159559930338260 tw285309127078829657 tw16974281921130011195 tw1462170454080740752 tw13484894154476022352 tw13040049882438742359 tw11296751799708100089 tw1789175828297166729 tw5168508533577350505 tw4153625840323813987 tw15404000881751659871 tw14627951038472982638 tw11855251049114890515 tw11597977555026829504 tw3456436553413298395 tw2910798941977037114 tw5156161429948515903 tw2583752086621680396 tw1717831379783980079 tw16395080838783076020 tw13275446823259128907 tw13000056402586594336 tw9938885444329379037 tw15268966817682120406 tw2520534488608359800 tw2341383854823803946 tw16496583691548598449 tw9086245129249181816 tw12546532990391775644 tw7467660618972869475 tw7016611128686710297 tw5870334606517565012 tw14262791213750746620 tw13422480917887798796 tw481489344526834307 tw13328218647428968130 tw10046260188421250768 tw13604734035647443565 tw13925340047968738683 tw10619782330954575364 tw2057113214552563647 tw17771656397779296758 tw7970739269395370888 tw1925473505546660447 tw13554598816051671379 tw11581457749170355869 tw9656415309301530569 tw9361819445446985282 tw4620058481131706119 tw4191215586295533807 tw17385259865877141343 tw10724119661285731749 tw10010766458427190120 tw15929169783541309878 tw13983388577401219037 tw6802968412924539978 tw10075150224516390987 tw6803331463526476044 tw471553032947808129 tw2700732687954271439 tw15453170813635302031 tw8594220022705991421 tw6539581635286404465 tw2121462204200566363 tw4599869788493133332 tw9616599696214137999 tw12514413487159052682 tw10117360416764214814 tw10113636436715207077 tw8808903405974384120 tw2721584217339350779 tw10589564288095035956 tw12902572577863077773 tw4560966870194076334 tw15625667308581268693 tw15403802903980750074 tw3625924772787506887 tw15002842151218286908 tw2794769872069531667:True)
set_option maxHeartbeats 0 in
theorem PySem.Challenge.cw_anytree_s01_answers_holds : PySem.Challenge.rw_anytree_s01_answers.Holds := by
 w_on;k_headS; (case hw=>exact⟨[.list []],by decide+kernel,by decide+kernel⟩)
 k_fillS
 apply Ph rfl (λw h Y=>kIn_of Y) ?F
 case F=>
  intro w mg fa h KX G hmg;have e_is_point:Nonempty (Fn (L2.bJ KX) mg "is_point" "is_point" s_is_point ["number"]):=by refine' bq KX G bd_is_point ?a ?l ?c ?k;walk_at"f"
  have e_is_letter:Nonempty (Fn (L2.bJ KX) mg "is_letter" "is_letter" s_is_letter ["point"]):=by refine' bq KX G bd_is_letter ?a ?l ?c ?k;walk_at"f"
  have e_small:Nonempty (Fn (L2.bJ KX) mg "small" "small" s_small ["points"]):=by refine' bq KX G bd_small ?a ?l ?c ?k;walk_at"f"
  have e_points_of:Nonempty (Fn (L2.bJ KX) mg "points_of" "points_of" s_points_of ["text"]):=by refine' bq KX G bd_points_of ?a ?l ?c ?k;walk_at"f"
  have e_word_of:Nonempty (Fn (L2.bJ KX) mg "word_of" "word_of" s_word_of ["points"]):=by refine' bq KX G bd_word_of ?a ?l ?c ?k;walk_at"f"
  have e_sequence_length:Nonempty (Fn (L2.bJ KX) mg "sequence_length" "sequence_length" s_sequence_length ["lead"]):=by refine' bq KX G bd_sequence_length ?a ?l ?c ?k;walk_at"f"
  have e_sequence_point:Nonempty (Fn (L2.bJ KX) mg "sequence_point" "sequence_point" s_sequence_point ["sequence","length"]):=by refine' bq KX G bd_sequence_point ?a ?l ?c ?k;walk_at"f"
  have e_from_utf8:Nonempty (Fn (L2.bJ KX) mg "from_utf8" "from_utf8" s_from_utf8 ["came"]):=by refine' bq KX G bd_from_utf8 ?a ?l ?c ?k;walk_at"f"
  have e_with_plain_lines:Nonempty (Fn (L2.bJ KX) mg "with_plain_lines" "with_plain_lines" s_with_plain_lines ["points"]):=by refine' bq KX G bd_with_plain_lines ?a ?l ?c ?k;walk_at"f"
  have e_decoded:Nonempty (Fn (L2.bJ KX) mg "decoded" "decoded" s_decoded ["came"]):=by refine' bq KX G bd_decoded ?a ?l ?c ?k;walk_at"f"
  have e_encoded:Nonempty (Fn (L2.bJ KX) mg "encoded" "encoded" s_encoded ["points"]):=by refine' bq KX G bd_encoded ?a ?l ?c ?k;walk_at"f"
  have e_digit_of:Nonempty (Fn (L2.bJ KX) mg "digit_of" "digit_of" s_digit_of ["point"]):=by refine' bq KX G bd_digit_of ?a ?l ?c ?k;walk_at"f"
  have e_number_of:Nonempty (Fn (L2.bJ KX) mg "number_of" "number_of" s_number_of ["digits","base"]):=by refine' bq KX G bd_number_of ?a ?l ?c ?k;walk_at"f"
  have e_numbered_point:Nonempty (Fn (L2.bJ KX) mg "numbered_point" "numbered_point" s_numbered_point ["points"]):=by refine' bq KX G bd_numbered_point ?a ?l ?c ?k;walk_at"f"
  have e_told_at:Nonempty (Fn (L2.bJ KX) mg "told_at" "told_at" s_told_at ["points","place"]):=by refine' bq KX G bd_told_at ?a ?l ?c ?k;walk_at"f"
  have e_told:Nonempty (Fn (L2.bJ KX) mg "told" "told" s_told ["points"]):=by refine' bq KX G bd_told ?a ?l ?c ?k;walk_at"f"
  have e_plain_tag:Nonempty (Fn (L2.bJ KX) mg "plain_tag" "plain_tag" s_plain_tag ["word"]):=by refine' bq KX G bd_plain_tag ?a ?l ?c ?k;walk_at"f"
  have e_in_order:Nonempty (Fn (L2.bJ KX) mg "in_order" "in_order" s_in_order ["html"]):=by refine' bq KX G bd_in_order ?a ?l ?c ?k;walk_at"f"
  have e_take_text:Nonempty (Fn (L2.bJ KX) mg "take_text" "take_text" s_take_text ["tree","point"]):=by refine' bq KX G bd_take_text ?a ?l ?c ?k;walk_at"f"
  have e_take_remark:Nonempty (Fn (L2.bJ KX) mg "take_remark" "take_remark" s_take_remark ["tree","points"]):=by refine' bq KX G bd_take_remark ?a ?l ?c ?k;walk_at"f"
  have e_take_start:Nonempty (Fn (L2.bJ KX) mg "take_start" "take_start" s_take_start ["tree","tag"]):=by refine' bq KX G bd_take_start ?a ?l ?c ?k;walk_at"f"
  have e_start_in_body:Nonempty (Fn (L2.bJ KX) mg "start_in_body" "start_in_body" s_start_in_body ["tree","tag"]):=by refine' bq KX G bd_start_in_body ?a ?l ?c ?k;walk_at"f"
  have e_close_framing_table:Nonempty (Fn (L2.bJ KX) mg "close_framing_table" "close_framing_table" s_close_framing_table ["tree"]):=by refine' bq KX G bd_close_framing_table ?a ?l ?c ?k;walk_at"f"
  have e_start_part:Nonempty (Fn (L2.bJ KX) mg "start_part" "start_part" s_start_part ["tree","tag"]):=by refine' bq KX G bd_start_part ?a ?l ?c ?k;walk_at"f"
  have e_make_room:Nonempty (Fn (L2.bJ KX) mg "make_room" "make_room" s_make_room ["tree","word"]):=by refine' bq KX G bd_make_room ?a ?l ?c ?k;walk_at"f"
  have e_make_row_room:Nonempty (Fn (L2.bJ KX) mg "make_row_room" "make_row_room" s_make_row_room ["tree"]):=by refine' bq KX G bd_make_row_room ?a ?l ?c ?k;walk_at"f"
  have e_close_for:Nonempty (Fn (L2.bJ KX) mg "close_for" "close_for" s_close_for ["tree","word"]):=by refine' bq KX G bd_close_for ?a ?l ?c ?k;walk_at"f"
  have e_close_nearest_of:Nonempty (Fn (L2.bJ KX) mg "close_nearest_of" "close_nearest_of" s_close_nearest_of ["tree","words","limits"]):=by refine' bq KX G bd_close_nearest_of ?a ?l ?c ?k;walk_at"f"
  have e_take_end:Nonempty (Fn (L2.bJ KX) mg "take_end" "take_end" s_take_end ["tree","tag"]):=by refine' bq KX G bd_take_end ?a ?l ?c ?k;walk_at"f"
  have e_end_other:Nonempty (Fn (L2.bJ KX) mg "end_other" "end_other" s_end_other ["tree","word"]):=by refine' bq KX G bd_end_other ?a ?l ?c ?k;walk_at"f"
  have e_place_of_any:Nonempty (Fn (L2.bJ KX) mg "place_of_any" "place_of_any" s_place_of_any ["points","place","wanted"]):=by refine' bq KX G bd_place_of_any ?a ?l ?c ?k;walk_at"f"
  have e_place_behind:Nonempty (Fn (L2.bJ KX) mg "place_behind" "place_behind" s_place_behind ["points","place","passed"]):=by refine' bq KX G bd_place_behind ?a ?l ?c ?k;walk_at"f"
  have e_name_from:Nonempty (Fn (L2.bJ KX) mg "name_from" "name_from" s_name_from ["points"]):=by refine' bq KX G bd_name_from ?a ?l ?c ?k;walk_at"f"
  have e_read_value:Nonempty (Fn (L2.bJ KX) mg "read_value" "read_value" s_read_value ["points","place"]):=by refine' bq KX G bd_read_value ?a ?l ?c ?k;walk_at"f"
  have e_read_attribute:Nonempty (Fn (L2.bJ KX) mg "read_attribute" "read_attribute" s_read_attribute ["points","place","attributes"]):=by refine' bq KX G bd_read_attribute ?a ?l ?c ?k;walk_at"f"
  have e_read_tag:Nonempty (Fn (L2.bJ KX) mg "read_tag" "read_tag" s_read_tag ["points","place"]):=by refine' bq KX G bd_read_tag ?a ?l ?c ?k;walk_at"f"
  have e_read_text:Nonempty (Fn (L2.bJ KX) mg "read_text" "read_text" s_read_text ["points"]):=by refine' bq KX G bd_read_text ?a ?l ?c ?k;walk_at"f"
  have e_point_at:Nonempty (Fn (L2.bJ KX) mg "point_at" "point_at" s_point_at ["points","place"]):=by refine' bq KX G bd_point_at ?a ?l ?c ?k;walk_at"f"
  have e_read_piece:Nonempty (Fn (L2.bJ KX) mg "read_piece" "read_piece" s_read_piece ["tree","points","place"]):=by refine' bq KX G bd_read_piece ?a ?l ?c ?k;walk_at"f"
  have e_stands_nothing:Nonempty (Fn (L2.bJ KX) mg "stands_nothing" "stands_nothing" s_stands_nothing ["points","place"]):=by refine' bq KX G bd_stands_nothing ?a ?l ?c ?k;walk_at"f"
  have e_behind_nothing:Nonempty (Fn (L2.bJ KX) mg "behind_nothing" "behind_nothing" s_behind_nothing ["points","place"]):=by refine' bq KX G bd_behind_nothing ?a ?l ?c ?k;walk_at"f"
  have e_read_remark:Nonempty (Fn (L2.bJ KX) mg "read_remark" "read_remark" s_read_remark ["tree","points","place"]):=by refine' bq KX G bd_read_remark ?a ?l ?c ?k;walk_at"f"
  have e_read_end:Nonempty (Fn (L2.bJ KX) mg "read_end" "read_end" s_read_end ["tree","points","place"]):=by refine' bq KX G bd_read_end ?a ?l ?c ?k;walk_at"f"
  have e_read_start:Nonempty (Fn (L2.bJ KX) mg "read_start" "read_start" s_read_start ["tree","points","place"]):=by refine' bq KX G bd_read_start ?a ?l ?c ?k;walk_at"f"
  have e_raw_end:Nonempty (Fn (L2.bJ KX) mg "raw_end" "raw_end" s_raw_end ["points","place","name"]):=by refine' bq KX G bd_raw_end ?a ?l ?c ?k;walk_at"f"
  have e_raw_text:Nonempty (Fn (L2.bJ KX) mg "raw_text" "raw_text" s_raw_text ["word","points"]):=by refine' bq KX G bd_raw_text ?a ?l ?c ?k;walk_at"f"
  have e_behind_first_line_feed:Nonempty (Fn (L2.bJ KX) mg "behind_first_line_feed" "behind_first_line_feed" s_behind_first_line_feed ["points","place"]):=by refine' bq KX G bd_behind_first_line_feed ?a ?l ?c ?k;walk_at"f"
  have e_told_tree:Nonempty (Fn (L2.bJ KX) mg "told_tree" "told_tree" s_told_tree ["html"]):=by refine' bq KX G bd_told_tree ?a ?l ?c ?k;walk_at"f"
  have e_add_counted:Nonempty (Fn (L2.bJ KX) mg "add_counted" "add_counted" s_add_counted ["numbers","points"]):=by refine' bq KX G bd_add_counted ?a ?l ?c ?k;walk_at"f"
  have e_add_tag:Nonempty (Fn (L2.bJ KX) mg "add_tag" "add_tag" s_add_tag ["numbers","tag"]):=by refine' bq KX G bd_add_tag ?a ?l ?c ?k;walk_at"f"
  have e_written_tree:Nonempty (Fn (L2.bJ KX) mg "written_tree" "written_tree" s_written_tree ["html"]):=by refine' bq KX G bd_written_tree ?a ?l ?c ?k;walk_at"f"
  have e_escaped:Nonempty (Fn (L2.bJ KX) mg "escaped" "escaped" s_escaped ["points"]):=by refine' bq KX G bd_escaped ?a ?l ?c ?k;walk_at"f"
  have e_written_tag:Nonempty (Fn (L2.bJ KX) mg "written_tag" "written_tag" s_written_tag ["tag"]):=by refine' bq KX G bd_written_tag ?a ?l ?c ?k;walk_at"f"
  have e_written_start:Nonempty (Fn (L2.bJ KX) mg "written_start" "written_start" s_written_start ["element"]):=by refine' bq KX G bd_written_start ?a ?l ?c ?k;walk_at"f"
  have e_written_text:Nonempty (Fn (L2.bJ KX) mg "written_text" "written_text" s_written_text ["leaf","parent"]):=by refine' bq KX G bd_written_text ?a ?l ?c ?k;walk_at"f"
  have e_written_end:Nonempty (Fn (L2.bJ KX) mg "written_end" "written_end" s_written_end ["element"]):=by refine' bq KX G bd_written_end ?a ?l ?c ?k;walk_at"f"
  have e_answer_at:Nonempty (Fn (L2.bJ KX) mg "answer_at" "answer_at" s_answer_at ["page","calls","place"]):=by refine' bq KX G bd_answer_at ?a ?l ?c ?k;walk_at"f"
  have e_answers:Nonempty (Fn (L2.bJ KX) mg "answers" "answers" s_answers ["calls"]):=by refine' bq KX G bd_answers ?a ?l ?c ?k;walk_at"f"
  have k_Tag:∃C,mg "Tag"=some (.ref C)/\P_Tag (L2.bJ KX) C:=by
   refine' sg KX G ?a ?zz
   case a=>k_is
   case zz=>
    unfold P_Tag;dsimp only[L2.bJ];apply⟨⟨?_,?_,?_,?_⟩,?_,?_,?_,?_,?_,?_,?_⟩
    k_is
    k_is
    k_is
    k_is
    walk_at"n";walk_at"n";walk_at"n";walk_at"n";walk_at"n";walk_at"n";refine' zx bd_Tag_init ?a ?i ?l ?c ?k ?m ?n;walk_at"i"
  have k_Element:∃C,mg "Element"=some (.ref C)/\P_Element (L2.bJ KX) C:=by
   refine' sg KX G ?a ?zz
   case a=>k_is
   case zz=>
    unfold P_Element;dsimp only[L2.bJ];apply⟨⟨?_,?_,?_,?_⟩,?_,?_,?_,?_,?_,?_⟩
    k_is
    k_is
    k_is
    k_is
    walk_at"n";walk_at"n";walk_at"n";walk_at"n";walk_at"n";refine' zx bd_Element_init ?a ?i ?l ?c ?k ?m ?n;walk_at"i"
  have k_Leaf:∃C,mg "Leaf"=some (.ref C)/\P_Leaf (L2.bJ KX) C:=by
   refine' sg KX G ?a ?zz
   case a=>k_is
   case zz=>
    unfold P_Leaf;dsimp only[L2.bJ];apply⟨⟨?_,?_,?_,?_⟩,?_,?_,?_,?_⟩
    k_is
    k_is
    k_is
    k_is
    walk_at"n";walk_at"n";walk_at"n";refine' zx bd_Leaf_init ?a ?i ?l ?c ?k ?m ?n;walk_at"i"
  have k_Tree:∃C,mg "Tree"=some (.ref C)/\P_Tree (L2.bJ KX) C:=by
   refine' sg KX G ?a ?zz
   case a=>k_is
   case zz=>
    unfold P_Tree;dsimp only[L2.bJ];apply⟨⟨?_,?_,?_,?_⟩,?_,?_,?_,?_,?_,?_,?_,?_,?_,?_,?_,?_,?_,?_,?_,?_,?_,?_,?_,?_,?_,?_⟩
    k_is
    k_is
    k_is
    k_is
    walk_at"n";walk_at"n";walk_at"n";walk_at"n";walk_at"n";walk_at"n";refine' zx bd_Tree_init ?a ?i ?l ?c ?k ?m ?n;walk_at"i";refine' fz bd_Tree_current ?a ?i ?l ?c ?k;walk_at"m";refine' fz bd_Tree_nearest ?a ?i ?l ?c ?k;walk_at"m";refine' fz bd_Tree_within_walls ?a ?i ?l ?c ?k;walk_at"m";refine' fz bd_Tree_close ?a ?i ?l ?c ?k;walk_at"m";refine' fz bd_Tree_close_current ?a ?i ?l ?c ?k;walk_at"m";refine' fz bd_Tree_close_within_table ?a ?i ?l ?c ?k;walk_at"m";refine' fz bd_Tree_open_again ?a ?i ?l ?c ?k;walk_at"m";refine' fz bd_Tree_forget_last ?a ?i ?l ?c ?k;walk_at"m";refine' fz bd_Tree_forget_all ?a ?i ?l ?c ?k;walk_at"m";refine' fz bd_Tree_put_in ?a ?i ?l ?c ?k;walk_at"m";refine' fz bd_Tree_put ?a ?i ?l ?c ?k;walk_at"m";refine' fz bd_Tree_put_implying ?a ?i ?l ?c ?k;walk_at"m";refine' fz bd_Tree_put_remark ?a ?i ?l ?c ?k;walk_at"m";refine' fz bd_Tree_put_text ?a ?i ?l ?c ?k;walk_at"m";refine' fz bd_Tree_add_attributes ?a ?i ?l ?c ?k;walk_at"m"
  have k_Page:∃C,mg "Page"=some (.ref C)/\P_Page (L2.bJ KX) C:=by
   refine' sg KX G ?a ?zz
   case a=>k_is
   case zz=>
    unfold P_Page;dsimp only[L2.bJ];apply⟨⟨?_,?_,?_,?_⟩,?_,?_,?_,?_,?_,?_,?_,?_⟩
    k_is
    k_is
    k_is
    k_is
    walk_at"n";walk_at"n";refine' zx bd_Page_init ?a ?i ?l ?c ?k ?m ?n;walk_at"i";refine' fz bd_Page_begin ?a ?i ?l ?c ?k;walk_at"m";refine' fz bd_Page_feed ?a ?i ?l ?c ?k;walk_at"m";refine' fz bd_Page_root ?a ?i ?l ?c ?k;walk_at"m";refine' fz bd_Page_tell ?a ?i ?l ?c ?k;walk_at"m";refine' fz bd_Page_write ?a ?i ?l ?c ?k;walk_at"m"
  have c_REPLACEMENT:Cn mg "REPLACEMENT" (.int 65533):=by walk_at"c"
  have c_LAST_POINT:Cn mg "LAST_POINT" (.int 1114111):=by walk_at"c"
  have c_BLANKS:Nonempty (Tp (L2.bJ KX) mg "BLANKS" [.int 9,.int 10,.int 12,.int 32]):=by walk_at"t"
  have c_LINE_FEED:Cn mg "LINE_FEED" (.int 10):=by walk_at"c"
  have c_RETURN:Cn mg "RETURN" (.int 13):=by walk_at"c"
  have c_LETTERS:Cn mg "LETTERS" (.str "abcdefghijklmnopqrstuvwxyz"):=by walk_at"c"
  have c_DIGITS:Cn mg "DIGITS" (.str "0123456789"):=by walk_at"c"
  have c_LEAD_MARKS:Nonempty (Tp (L2.bJ KX) mg "LEAD_MARKS" [.int 0,.int 0,.int 192,.int 224,.int 240]):=by walk_at"t"
  have c_LEAST_POINTS:Nonempty (Tp (L2.bJ KX) mg "LEAST_POINTS" [.int 0,.int 0,.int 128,.int 2048,.int 65536]):=by walk_at"t"
  have c_VOID:Nonempty (Tp (L2.bJ KX) mg "VOID" [.str "area",.str "base",.str "br",.str "col",.str "embed",.str "hr",.str "img",.str "input",.str "link",.str "meta",.str "source",.str "track",.str "wbr"]):=by walk_at"t"
  have c_STYLED:Nonempty (Tp (L2.bJ KX) mg "STYLED" [.str "a",.str "b",.str "big",.str "code",.str "em",.str "font",.str "i",.str "s",.str "small",.str "strike",.str "strong",.str "tt",.str "u"]):=by walk_at"t"
  have c_BLOCKS:Nonempty (Tp (L2.bJ KX) mg "BLOCKS" [.str "address",.str "article",.str "aside",.str "blockquote",.str "center",.str "dd",.str "details",.str "dialog",.str "dir",.str "div",.str "dl",.str "dt",.str "fieldset",.str "figcaption",.str "figure",.str "footer",.str "form",.str "h1",.str "h2",.str "h3",.str "h4",.str "h5",.str "h6",.str "header",.str "hgroup",.str "hr",.str "li",.str "main",.str "menu",.str "nav",.str "ol",.str "p",.str "pre",.str "section",.str "table",.str "ul"]):=by walk_at"t"
  have c_HEADINGS:Nonempty (Tp (L2.bJ KX) mg "HEADINGS" [.str "h1",.str "h2",.str "h3",.str "h4",.str "h5",.str "h6"]):=by walk_at"t"
  have c_WALLS:Nonempty (Tp (L2.bJ KX) mg "WALLS" [.str "html",.str "body",.str "table",.str "td",.str "th",.str "caption",.str "button"]):=by walk_at"t"
  have c_FRAMES:Nonempty (Tp (L2.bJ KX) mg "FRAMES" [.str "table",.str "thead",.str "tbody",.str "tfoot",.str "tr",.str "colgroup"]):=by walk_at"t"
  have c_CELLS:Nonempty (Tp (L2.bJ KX) mg "CELLS" [.str "td",.str "th",.str "caption"]):=by walk_at"t"
  have c_PARTS:Nonempty (Tp (L2.bJ KX) mg "PARTS" [.str "thead",.str "tbody",.str "tfoot",.str "tr",.str "colgroup",.str "td",.str "th",.str "caption",.str "col"]):=by walk_at"t"
  have c_ROW_GROUPS:Nonempty (Tp (L2.bJ KX) mg "ROW_GROUPS" [.str "thead",.str "tbody",.str "tfoot"]):=by walk_at"t"
  have c_HEADS:Nonempty (Tp (L2.bJ KX) mg "HEADS" [.str "base",.str "link",.str "meta",.str "title",.str "style",.str "script"]):=by walk_at"t"
  have c_RAW:Nonempty (Tp (L2.bJ KX) mg "RAW" [.str "script",.str "style",.str "title",.str "textarea"]):=by walk_at"t"
  have c_RAW_WITHOUT_REFERENCES:Nonempty (Tp (L2.bJ KX) mg "RAW_WITHOUT_REFERENCES" [.str "script",.str "style"]):=by walk_at"t"
  have c_AMPERSAND:Cn mg "AMPERSAND" (.int 38):=by walk_at"c"
  have c_SEMICOLON:Cn mg "SEMICOLON" (.int 59):=by walk_at"c"
  have c_NUMBER_SIGN:Cn mg "NUMBER_SIGN" (.int 35):=by walk_at"c"
  have c_HEXADECIMAL_SIGNS:Nonempty (Tp (L2.bJ KX) mg "HEXADECIMAL_SIGNS" [.int 88,.int 120]):=by walk_at"t"
  have c_LONGEST:Cn mg "LONGEST" (.int 8):=by walk_at"c"
  have c_NAMED:Nonempty (Md w (L2.bJ KX) mg "NAMED" [(AW "amp",.int 38), (AW "lt",.int 60), (AW "gt",.int 62), (AW "quot",.int 34), (AW "apos",.int 39), (AW "nbsp",.int 160), (AW "copy",.int 169), (AW "reg",.int 174), (AW "deg",.int 176), (AW "para",.int 182), (AW "middot",.int 183), (AW "laquo",.int 171), (AW "raquo",.int 187), (AW "times",.int 215), (AW "divide",.int 247), (AW "ndash",.int 8211), (AW "mdash",.int 8212), (AW "lsquo",.int 8216), (AW "rsquo",.int 8217), (AW "ldquo",.int 8220), (AW "rdquo",.int 8221), (AW "bull",.int 8226), (AW "hellip",.int 8230), (AW "euro",.int 8364), (AW "trade",.int 8482), (AW "larr",.int 8592), (AW "uarr",.int 8593), (AW "rarr",.int 8594), (AW "darr",.int 8595), (AW "minus",.int 8722)]):=by walk_at"d"
  have c_ELEMENT:Cn mg "ELEMENT" (.int 1):=by walk_at"c"
  have c_TEXT:Cn mg "TEXT" (.int 2):=by walk_at"c"
  have c_REMARK:Cn mg "REMARK" (.int 3):=by walk_at"c"
  have c_ITEM_LIMITS:Nonempty (Tp (L2.bJ KX) mg "ITEM_LIMITS" [.str "li",.str "ul",.str "ol",.str "menu",.str "dir"]):=by walk_at"t"
  have c_DEFINITION_LIMITS:Nonempty (Tp (L2.bJ KX) mg "DEFINITION_LIMITS" [.str "dd",.str "dt",.str "dl"]):=by walk_at"t"
  have c_MOST_NAME_POINTS:Cn mg "MOST_NAME_POINTS" (.int 64):=by walk_at"c"
  have c_MOST_ATTRIBUTES:Cn mg "MOST_ATTRIBUTES" (.int 64):=by walk_at"c"
  have c_SLASH:Cn mg "SLASH" (.int 47):=by walk_at"c"
  have c_EQUALS:Cn mg "EQUALS" (.int 61):=by walk_at"c"
  have c_GREATER:Cn mg "GREATER" (.int 62):=by walk_at"c"
  have c_QUOTES:Nonempty (Tp (L2.bJ KX) mg "QUOTES" [.int 34,.int 39]):=by walk_at"t"
  have c_BLANKS_AND_SLASH:Nonempty (Tp (L2.bJ KX) mg "BLANKS_AND_SLASH" [.int 9,.int 10,.int 12,.int 32,.int 47]):=by walk_at"t"
  have c_NAME_ENDS:Nonempty (Tp (L2.bJ KX) mg "NAME_ENDS" [.int 9,.int 10,.int 12,.int 32,.int 47,.int 62]):=by walk_at"t"
  have c_ATTRIBUTE_NAME_ENDS:Nonempty (Tp (L2.bJ KX) mg "ATTRIBUTE_NAME_ENDS" [.int 9,.int 10,.int 12,.int 32,.int 47,.int 61,.int 62]):=by walk_at"t"
  have c_VALUE_ENDS:Nonempty (Tp (L2.bJ KX) mg "VALUE_ENDS" [.int 9,.int 10,.int 12,.int 32,.int 62]):=by walk_at"t"
  have c_MOST_DEPTH:Cn mg "MOST_DEPTH" (.int 199):=by walk_at"c"
  have c_MOST_REMEMBERED:Cn mg "MOST_REMEMBERED" (.int 8):=by walk_at"c"
  have c_LESS:Cn mg "LESS" (.int 60):=by walk_at"c"
  have c_EXCLAMATION:Cn mg "EXCLAMATION" (.int 33):=by walk_at"c"
  have c_QUESTION:Cn mg "QUESTION" (.int 63):=by walk_at"c"
  have c_ESCAPES:Nonempty (Md w (L2.bJ KX) mg "ESCAPES" [(CU 38,.str "&amp;"), (CU 60,.str "&lt;"), (CU 34,.str "&quot;"), (CU 13,.str "&#13;")]):=by walk_at"d"
  have c_BEGIN:Cn mg "BEGIN" (.int 0):=by walk_at"c"
  have c_FEED:Cn mg "FEED" (.int 1):=by walk_at"c"
  have c_TREE:Cn mg "TREE" (.int 2):=by walk_at"c"
  have c_MOST_BYTES:Cn mg "MOST_BYTES" (.int 65536):=by walk_at"c"
  have n_len:mg "len"=none:=by walk_at"b"
  have n_ord:mg "ord"=none:=by walk_at"b"
  have n_any:mg "any"=none:=by walk_at"b"
  have n_str:mg "str"=none:=by walk_at"b"
  have n_tuple:mg "tuple"=none:=by walk_at"b"
  have n_list:mg "list"=none:=by walk_at"b"
  obtain⟨UT,UQ,Pg,xQ,xO,ly,vb,xP,qG, ⟨xT⟩⟩:=k_Tag;obtain⟨Dm,Dk,xM,og,nE,qI,oe,lz, ⟨om⟩⟩:=k_Element;obtain⟨Qg,P9,L3,ve,tE,qH, ⟨vo⟩⟩:=k_Leaf;obtain⟨Qc,P7,L0,u7,u9,va,qF,tD,j5, ⟨vh⟩, ⟨oj⟩, ⟨oh⟩, ⟨iK⟩, ⟨tF⟩, ⟨g6⟩, ⟨fm⟩, ⟨j7⟩, ⟨jA⟩, ⟨j8⟩, ⟨qJ⟩, ⟨xS⟩, ⟨iM⟩, ⟨j6⟩, ⟨nF⟩, ⟨gM⟩⟩:=k_Tree;obtain⟨Qe,P8,L1,vd,vc, ⟨vm⟩, ⟨tH⟩, ⟨vn⟩, ⟨vk⟩, ⟨vj⟩, ⟨tG⟩⟩:=k_Page
  let g:An.G w (L2.bJ KX) mg:=⟨UT,Pg,UQ,xQ,xO,ly,vb,xP,qG,Dm,xM,Dk,og,nE,qI,oe,lz,Qg,L3,P9,ve,tE,qH,Qc,L0,P7,u7,u9,va,qF,tD,j5,Qe,L1,P8,vd,vc,nx e_is_point,nx e_is_letter,nx e_small,nx e_points_of,nx e_word_of,nx e_sequence_length,nx e_sequence_point,nx e_from_utf8,nx e_with_plain_lines,nx e_decoded,nx e_encoded,nx e_digit_of,nx e_number_of,nx e_numbered_point,nx e_told_at,nx e_told,xT,om,vo,nx e_plain_tag,nx e_in_order,nx e_take_text,nx e_take_remark,nx e_take_start,nx e_start_in_body,nx e_close_framing_table,nx e_start_part,nx e_make_room,nx e_make_row_room,nx e_close_for,nx e_close_nearest_of,nx e_take_end,nx e_end_other,nx e_place_of_any,nx e_place_behind,nx e_name_from,nx e_read_value,nx e_read_attribute,nx e_read_tag,vh,oj,oh,iK,tF,g6,fm,j7,jA,j8,qJ,xS,iM,j6,nF,gM,nx e_read_text,nx e_point_at,nx e_read_piece,nx e_stands_nothing,nx e_behind_nothing,nx e_read_remark,nx e_read_end,nx e_read_start,nx e_raw_end,nx e_raw_text,nx e_behind_first_line_feed,nx e_told_tree,nx e_add_counted,nx e_add_tag,nx e_written_tree,nx e_escaped,nx e_written_tag,nx e_written_start,nx e_written_text,nx e_written_end,vm,tH,vn,vk,vj,tG,nx e_answer_at,nx e_answers,c_REPLACEMENT,c_LAST_POINT,nx c_BLANKS,c_LINE_FEED,c_RETURN,c_LETTERS,c_DIGITS,nx c_LEAD_MARKS,nx c_LEAST_POINTS,nx c_VOID,nx c_STYLED,nx c_BLOCKS,nx c_HEADINGS,nx c_WALLS,nx c_FRAMES,nx c_CELLS,nx c_PARTS,nx c_ROW_GROUPS,nx c_HEADS,nx c_RAW,nx c_RAW_WITHOUT_REFERENCES,c_AMPERSAND,c_SEMICOLON,c_NUMBER_SIGN,nx c_HEXADECIMAL_SIGNS,c_LONGEST,nx c_NAMED,c_ELEMENT,c_TEXT,c_REMARK,nx c_ITEM_LIMITS,nx c_DEFINITION_LIMITS,c_MOST_NAME_POINTS,c_MOST_ATTRIBUTES,c_SLASH,c_EQUALS,c_GREATER,nx c_QUOTES,nx c_BLANKS_AND_SLASH,nx c_NAME_ENDS,nx c_ATTRIBUTE_NAME_ENDS,nx c_VALUE_ENDS,c_MOST_DEPTH,c_MOST_REMEMBERED,c_LESS,c_EXCLAMATION,c_QUESTION,nx c_ESCAPES,c_BEGIN,c_FEED,c_TREE,c_MOST_BYTES,n_len,n_ord,n_any,n_str,n_tuple,n_list⟩
  have e:g.answers.f=fa:=by
   have h1:=g.answers.at_;have h2:mg "answers"=some (.ref fa):=hmg;rw[h2]at h1;cases h1;rfl
  exact⟨g.answers.fd,λs u hK=>g.answers.bd s [u] hK rfl,λbase _ _=>e▸ok_A g⟩