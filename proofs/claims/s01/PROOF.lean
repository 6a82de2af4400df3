import PyProof.Rows.All
import Wide.All
import OpenK.AllK
import Wide.FinOn
import PyProof.EqAt
import PyProof.EqKinds
import PyProof.TupleCall
import KE.BitLaws
import Open.SpecLaws
import KE.OsHead
import KE.OsGo
import KE.KDictList
import PyProof.ListRange
import KE.KNestM
import KE.KLam
import KE.KSortTupG
import KE.KSortKeyAny
import KE.KMinKey
import PyWideLaws
import KE.IntBitsLaws
import PySem.Challenge.RW_heirshares_s01_answers
open And renaming intro->rD
open Array renaming length_toList->qw,getElem?_eq_getElem->vo,getElem?_toList->v9,toList->yR
open Bool renaming false_ne_true->Λ,and_eq_true->qm,eq_iff_iff->qV,true_and->sf,false_and->sZ,or_eq_true->t9,and_false->ue,false_or->uE,false_eq_true->uR,not_eq_true'->v5,or_false->wo,true_or->wX,and_true->yH
open False renaming elim->rL
open ForInStep renaming yield->wJ
open Int renaming toNat_natCast->sL,lt_trans->wW,lt_irrefl->yF,toNat->zD
open List renaming mem_cons_of_mem->θ,mem_cons_self->υ,length_map->χ,mem_map->Θ,mem_filter->d_,mem_singleton->i_,map_cons->k_,getElem?_eq_some_iff->l_,getElem?_map->m_,getElem?_eq_getElem->n_,length_cons->o_,mem_cons->pM,length_append->pP,mem_append->pT,length_filter_le->pU,range->pW,size_toArray->pZ,map_map->p6,mem_append_right->p9,sum_cons->qg,nodup_cons->qv,length_range->qx,filter_cons->qB,length_take_le'->qD,getElem_mem->qI,take_length->qL,mem_of_getElem?->qQ,mem_append_left->qT,mem_of_mem_take->qY,foldl_cons->q_,foldl_append->rj,eq_nil_of_length_eq_zero->rm,length_pos_iff->rA,filterMap_cons->rB,append_nil->rC,contains_iff_mem->rG,length_reverse->rH,getElem?_range->rJ,getD_eq_getElem?_getD->rK,not_mem_nil->rO,getElem?_cons_zero->rW,perm_ext_iff_of_nodup->r8,map_append->se,mem_flatMap->sC,length_take->sD,pairwise_iff_getElem->sE,getElem?_append_left->sF,map_congr_left->sI,mem_range->sQ,lookup_cons->sU,any_cons->sX,getElem?_append_right->sY,range'->tu,length_singleton->tD,mem_filterMap->tH,all_eq_true->tK,pairwise_map->tV,getElem?_cons_succ->tW,flatMap_cons->tX,find?_cons->t7,any_eq_true->uc,getElem?_reverse->uf,take_sublist->ux,lookup->uy,length_filterMap_le->uC,getElem?_take_of_lt->uD,nodup_nil->uJ,pairwise_cons->uO,length_pos_of_mem->uP,filter_append->uQ,length_nil->uT,mem_iff_getElem?->uW,getElem?_eq_none->uX,range_eq_range'->vc,map_nil->vj,mergeSort_perm->vp,of_mem_zip->vA,filter_nil->vB,zip_cons_cons->vI,pairwise_mergeSort->vL,take_of_length_le->vU,nodup_append->vV,getElem?_set_self->vW,cons_append->wg,getElem?_set_ne->wC,take_add_one->xw,all_cons->xE,range'_succ->xN,length_zip->x_,map_id->ym,map_take->yE,all_map->yP,nodup_range->yV,nil_append->y_,foldl->zA
open List.Pairwise renaming map->xy
open List.Perm renaming eq_of_pairwise->vv
open Nat renaming le_trans->a_,le_refl->b_,lt_of_le_of_lt->pN,mul_le_mul_right->pR,mul_pos->p7,lt_of_lt_of_le->p8,dvd_refl->qi,pow_le_pow_right->qj,zero_le->qG,add_sub_cancel->qH,ne_of_lt->qK,dvd_mul_right->rM,pow_succ->rN,lt_irrefl->r_,eq_zero_or_pos->sS,mul_assoc->sW,one_pos->s_,lt_succ_self->tG,le_of_lt->tN,mul_one->tT,add_mul->tU,two_pow_pos->uq,zero_add->uu,mul_dvd_mul_left->uv,mul_le_mul_left->uG,dvd_mul_left->uI,one_lt_two_pow->uM,gcd->uN,lt_succ_of_lt->uY,eq_of_mul_eq_mul_right->u_,mul_comm->vg,lt_or_ge->vh,pos_of_ne_zero->vH,le_of_succ_le->vR,le_of_eq->vS,one_mul->wA,le_succ->wB,min_eq_left->wI,zero_mul->wR,sub_self->wU,lt_trans->wV,add_le_add->w9,pow_add->xq,lt_trichotomy->xr,gcd_dvd_right->xu,succ_mul->xQ,ne_of_gt->xR,lt_asymm->xS,le_total->xT,add_comm->xU,sub_mul->yj,mul_le_mul->yk,pow_zero->yN,gcd_comm->yO,not_lt->zz
open Nat.Coprime renaming dvd_of_dvd_mul_left->uF,symm->xM
open Ne renaming symm->qk
open Option renaming map_eq_some_iff->rE,isSome_iff_exists->uB
open Option.some renaming inj->j_,injEq->yM
open Or renaming inl->qh,inr->zF
open Prod renaming ext->vQ,snd->xK
open Prod.mk renaming inj->yZ
open PyProof.Rows renaming callWith_type1->sV,IntsAre->ug,get?_update_seq->um,listUpdate_at->xD,AllBare->yu,Constant_none->yG,boot_range->zg,Subscript_->zh,IsTup->zM,Call_->zS
open PySem renaming Value->Δ,Addr->Ξ,Shared->Ω,wpAny_bind->c_,mainGlobals->h_,Program->pQ,wpAny_pure->pX,sizeLine->pY,wpAny->p_,Str->qf,World->qt,starEach->qy,mem_of_lookup->qF,Heap->qM,Around->qN,Expr->qU,Stmt->qX,wpAny_mono->rQ,wpAny_truthy_bool->rR,wpAny_Call_Name_kw->rX,Paired->sG,Obj->sR,FuncData->tE,wpAny_typeNameOfWhole_keyiter->tP,DictEntry->tY,Scope->ua,NameKind->ud,wpAny_passesOwn->uh,wpAny_typeNameOf_keyiter->uz,wpAny_holding->uU,attributeBase->uV,wpAny_tryCatch->uZ,codeAny_builtin->vz,tupleKind_room_in1->vD,wpAny_newObj_type->vM,codeAny_mono->vN,wpAny_call_entry->v_,Arguments->wk,wpAny_updateSeq->wF,wpAny_execs_nil->wG,pushCells_keeps->wH,BindsTo->wY,wpAny_pyIter_list->w_,wpAny_letGo->xg,wpAny_dictEntries->xh,wpAny_Call_method->xj,wpAny_newList->xB,plainId_quiet->xC,Tok->xF,wpAny_eqBool_int->xG,call_meetsIn->xO,Keyword->xV,wpAny_dictEpoch->xW,wpAny_seqItems->yb,sizeLine_eq->yc,IsRangeIter->yo,Env->yx,wpAny_standAt->yy,wpAny_attempt->yz,Within->yK,Pos->yT,Params->yU,wpAny_loadPart'->y9,Builtin->zb,wpAny_call->zc,wpAny_Name->ze,call_meets->zf,Result->zu,call->zv,CmpOp->zC,Sem->zH,Model->zJ
open PySem.Around renaming under_plainId->vd,under->yS
open PySem.Builtin.List renaming listTooLong->tO
open PySem.Builtin.Range renaming rangeSize->tZ
open PySem.Calls renaming spliced_cons->vJ,callWith_builtin->vZ,evalArgs_plain->wD,spliced_nil->xA
open PySem.Code renaming isFrame->yQ
open PySem.Data renaming seq->zB,dict->zE
open PySem.F renaming plainAttrs_list->rV,plain_min_loop->su,type_list_append->tL,slot_list_append->tM,slot_dict_keyiterator_next->t8,entry_min_loop->vP,slot_dict_get->v8
open PySem.Heap renaming get?_push_of_some->pq,get?_push_size->pV,lt_size->qu,size_push->r9,SameBut->vX
open PySem.Heap.SameBut renaming update->rP
open PySem.NameKind renaming free->vt,cell->yD
open PySem.Obj renaming mapSeq->qS
open PySem.Paired renaming length->rq
open PySem.PassesOwn renaming never->qA
open PySem.SeqAt renaming EqAt->zq
open PySem.Str renaming ofString->ur
open PySem.Value renaming ref->qR,int->rF,type->rY,none->uA,bool->wc,str->yp
open PySem.W renaming Frag->ξ,mg_of->qW,kla_obj->qZ,emptyDict->sJ,keepIn->sP,codeHdIn->tF,findIn->tS,instObj->t6,fnOf->vf,WData->vn,mg_none_of->vE,callWith_K->vG,methodCall_KW->v7,plainGet->we,plainGet_of->wM,callWith_K0->wN,envX->wQ,tabObj->w4,lookIn->w6,methodObj->xm,hasDictIn->xo,kat_cons->xJ,WellAll->xP,takerIn->xY,kat_yes->xZ,kat_no->yf,kat_go->yg,codeIn->yh,WalkOS->yi,isFn->yL,OpenSpec->zI
open PySem.W.Codec renaming encAll->vm,denoteAll->vC,app->wZ,withinAll->ya
open PySem.W.WData renaming weightAll->xX
open PySem.Walks renaming list->xH
open PySi49 renaming answers_asked->wz,answers->ye
open Rat renaming le_refl->r6,mul_le_mul_of_nonneg_left->tR,mul_pos->yd,inv_pos->yX,div_def->yY
open Si49 renaming Land->e_,step->f_,person->g_,Q->pO,Land->qa,there->qz,shares->qC,shareOf->qE,ok->qJ,fracOk->qO,Shares->qP,classOf->rS,zero->rT,setPerson->rZ,Gift->sM,q->sO,Shares->tQ,may->t_,dead->uo,Call->uH,all->uS,sharesOut->u5,opensLine->u6,ofDead->u7,liveAbove->u9,init->ve,children->vq,taker->vF,isLive->vK,one->vO,DEEP->vY,endsOn->wu,related->wO,kept->yr,spouseOf->yC,shareOf->yJ,Person->yW,sum->zj,byLaw->zo,Person->zy,Ans->zG
open Si49.Q renaming le->yt,add->yI,div->zK,add->zL,le->zT
open Si49Neutral renaming step->sj,callOf->uL,pairsOf->wK,natural->wL
open Sum renaming inl->pS,inr->yq
open True renaming intro->uK
theorem zqt{p:Prop}[Decidable p](k:p):decide p=true:=decide_eq_true k
theorem zdf{p:Prop}[Decidable p](k:¬p):decide p=false:=decide_eq_false k
theorem zod{p:Prop}[Decidable p](k:decide p=true):p:=of_decide_eq_true k
local macro_rules|`(tactic|walk_at "s")=>`(tactic|constructor<;>first|rfl|decide +kernel)
theorem ζ.{u}{c:Prop}{h:Decidable c}(k:¬c){α:Sort u}{t e:α}:ite c t e=e:=if_neg k
theorem η.{u}{c:Prop}{h:Decidable c}(k:c){α:Sort u}{t e:α}:ite c t e=t:=if_pos k
theorem z0z{α}{p:List α->Prop}(h:p []):∀us,us.length=0->p us|[],_=>h
theorem z1z{α}{p:List α->Prop}(h:∀a,p [a]):∀us,us.length=1->p us|[_],_=>h _
theorem z2z{α}{p:List α->Prop}(h:∀a b,p [a,b]):∀us,us.length=2->p us|[_,_],_=>h _ _
theorem z3z{α}{p:List α->Prop}(h:∀a b c,p [a,b,c]):∀us,us.length=3->p us|[_,_,_],_=>h _ _ _
theorem z4z{α}{p:List α->Prop}(h:∀a b c d,p [a,b,c,d]):∀us,us.length=4->p us|[_,_,_,_],_=>h _ _ _ _
theorem z5z{α}{p:List α->Prop}(h:∀a b c d e,p [a,b,c,d,e]):∀us,us.length=5->p us|[_,_,_,_,_],_=>h _ _ _ _ _
set_option compiler.extract_closed false
set_option bootstrap.genMatcherCode false
set_option maxRecDepth 100000
set_option maxHeartbeats 4000000
set_option Elab.async false
set_option linter.all false
namespace L2
open PySem PySem.Spec PyProof.Rows
abbrev Key:=Sum Int qf
def S4:Key -> Δ -> Bool
 |.inl k,v=>Value.isInt k v
 |.inr x,v=>Value.isStrOf x v
def AXj(w:qt):Key->Int
 |.inl k=>hashInt k
 |.inr x=>hashStr w x
theorem Dj:∀{k:Key}{v : Δ},S4 k v=true->(∃i t,k=pS i/\v=rF i t)\/(∃x t,k=yq x/\v=yp x t)
 |.inl i,v,h=>by obtain⟨t,e⟩:=Value.isInt_shape (k:=i) (v:=v) h;exact .inl ⟨i,t,rfl,e⟩
 |.inr x,v,h=>by obtain⟨t,e⟩:=Value.isStrOf_shape (x:=x) (v:=v) h;exact .inr ⟨x,t,rfl,e⟩
theorem AJz(i:Int)(t:xF):S4 (.inl i) (.int i t)=true:=by simp[S4,Value.isInt]
theorem APr(x:qf)(t:xF):S4 (.inr x) (.str x t)=true:=by simp[S4,Value.isStrOf]
theorem AVU(a b:Int):decide ((pS a:Key)=pS b)=(a==b):=by
 by_cases e:a=b
 .subst e;simp
 .have h:¬ (pS a:Key)=pS b:=λq=>e (Sum.inl.inj q);rw[zdf h];exact(beq_eq_false_iff_ne.mpr e).symm
theorem AVR(a b:qf):decide ((yq a:Key)=yq b)=decide (a=b):=by
 by_cases e:a=b
 .subst e;simp
 .have h:¬ (yq a:Key)=yq b:=λq=>e (Sum.inr.inj q);rw[zdf h,zdf e]
theorem AVT(a:Int)(b:qf):decide ((pS a:Key)=yq b)=false:=zdf (λq=>nomatch q)
theorem AVS(a:qf)(b:Int):decide ((yq a:Key)=pS b)=false:=zdf (λq=>nomatch q)
def BN(prog:pQ)(w:qt):PySem.KeyKind prog w Key where
 is:=S4
 hash:=AXj w
 inj:=λv a b ha hb=>by
  rcases Dj ha with⟨i,t,rfl,rfl⟩|⟨x,t,rfl,rfl⟩
  .rcases Dj hb with⟨j,u,rfl,e⟩|⟨y,u,rfl,e⟩
   .injection e with e1 _;rw[e1]
   .exact nomatch e
  .rcases Dj hb with⟨j,u,rfl,e⟩|⟨y,u,rfl,e⟩
   .exact nomatch e
   .injection e with e1 _;rw[e1]
 byValue:=λk v h=>by rcases Dj h with⟨i,t,rfl,rfl⟩|⟨x,t,rfl,rfl⟩<;>rfl
 pyHash:=λhv h=>by
  rcases Dj hv with⟨i,t,rfl,rfl⟩|⟨x,t,rfl,rfl⟩
  .exact wpAny_pyHash_int h
  .exact wpAny_pyHash_str h
 eqBool:=λhu hv h=>by
  rcases Dj hu with⟨i,t,rfl,rfl⟩|⟨x,t,rfl,rfl⟩
  .rcases Dj hv with⟨j,u,rfl,rfl⟩|⟨y,u,rfl,rfl⟩
   .rw[AVU] at h;exact xG h
   .rw[AVT] at h;exact SeqAt.EqAt.int_str i t y u _ _ _ _ h
  .rcases Dj hv with⟨j,u,rfl,rfl⟩|⟨y,u,rfl,rfl⟩
   .rw[AVS] at h;exact SeqAt.EqAt.str_int x t j u _ _ _ _ h
   .rw[AVR] at h;exact wpAny_eqBool_str h
 «strs»:=λk x t v h=>by
  rcases Dj h with⟨i,u,rfl,e⟩|⟨y,u,rfl,e⟩
  .exact nomatch e
  .injection e with e1 _;subst e1;cases v<;>rfl
theorem ANN(prog:pQ)(w:qt)(k:Key)(v : Δ):(BN prog w).is k v=S4 k v:=rfl
theorem ALw(prog:pQ)(w:qt)(i:Int)(t:xF):(BN prog w).is (.inl i) (.int i t)=true:=AJz i t
theorem ALv(prog:pQ)(w:qt)(x:qf)(t:xF):(BN prog w).is (.inr x) (.str x t)=true:=APr x t
inductive V where
 |Es|bl (b:Bool)|int (i:Int)|str (x:qf)|Yn (b:Array UInt8)|kX (b:UInt64)|ref (a : Ξ)|ty (n:String)
 deriving DecidableEq
def RelV:V -> Δ -> Prop
 |.Es,u=>u=uA
 |.bl b,u=>u=wc b
 |.int i,u=>∃t,u=rF i t
 |.str x,u=>∃t,u=yp x t
 |.Yn b,u=>∃t,u=Value.bytes b t
 |.kX b,u=>∃t,u=Value.float b t
 |.ref a,u=>u=qR a
 |.ty n,u=>u=rY n
abbrev Vals:List V->List Δ -> Prop:=sG RelV
theorem Vals.length{xs:List V}{us:List Δ}(r:Vals xs us):xs.length=us.length:=rq r
theorem Vals.get:∀{xs:List V}{us:List Δ}{i:Nat}{x:V},Vals xs us->xs[i]?=some x->∃u,us[i]?=some u/\RelV x u
 |_,_,_,_,.nil,e=>by simp at e
 |_,_,0,_,.cons r _,e=>by simp at e;subst e;exact⟨_,rfl,r⟩
 |_,_,i+1,x,.cons _ t,e=>by obtain⟨u,h1,h2⟩:=Vals.get (i:=i) (x:=x) t (by simpa using e);exact⟨u,by simpa using h1,h2⟩
theorem Vals.append:∀{xs ys:List V}{us ws:List Δ},Vals xs us->Vals ys ws->Vals (xs++ys) (us++ws)
 |_,_,_,_,.nil,s=>s
 |_,_,_,_,.cons r t,s=>.cons r (Vals.append t s)
theorem Vals.take:∀{xs:List V}{us:List Δ}(n:Nat),Vals xs us->Vals (xs.take n) (us.take n)
 |_,_,0,_=>.nil
 |_,_,_+1,.nil=>.nil
 |_,_,n+1,.cons r t=>.cons r (Vals.take n t)
theorem Vals.drop:∀{xs:List V}{us:List Δ}(n:Nat),Vals xs us->Vals (xs.drop n) (us.drop n)
 |_,_,0,r=>r
 |_,_,_+1,.nil=>.nil
 |_,_,n+1,.cons _ t=>Vals.drop n t
def Pk:Option V->Option Δ -> Prop
 |some v,some u=>RelV v u
 |none,none=>True
 |_,_=>False
def KV{κ:Type}:List (κ×V)->List (κ × Δ)->Prop:=sG λ(p:κ×V) (q:κ × Δ)=>p.1=q.1/\RelV p.2 q.2
def kV:Key->V
 |.inl i=>.int i
 |.inr x=>.str x
inductive HO where
 |lst (xs:List V)
 |tup (xs:List V)
 |dK (kvs:List (Key×V))|dT (kvs:List (List Key×V))
 |set (S:Int->Bool) (n:Nat)
 |ins (C dx : Ξ) (fs:List (qf×V))
 |own (x : Ξ)
 |xd (fs:List (qf×V))
 |met (f x : Ξ)
 |jM (lo hi:Int)
 |DK (o:sR) (u:HO)
 |P1 (ps:Array Δ)
 |ext (φ:qM->Prop)
abbrev Hp:=Ξ -> Option HO
def upd(H:Hp)(a : Ξ)(o:HO):Hp:=λb=>if b=a then some o else H b
theorem AD{H:Hp}{a : Ξ}{o:HO}:upd H a o a=some o:=by unfold upd;rw[η rfl]
theorem AH{H:Hp}{a b : Ξ}{o:HO}(h:b≠a):upd H a o b=H b:=by unfold upd;rw[ζ h]
theorem Q5{H:Hp}{a : Ξ}{o u:HO}:upd (upd H a o) a u=upd H a u:=by funext b;unfold upd;split<;>rfl
theorem D5{H:Hp}{a b : Ξ}{o u:HO}(h:H a=some o)(h':H b=some u)(d:o≠u):a≠b:=by intro e;subst e;rw[h] at h';exact d (j_ h')
theorem AO{H:Hp}{a b : Ξ}{o:HO}(h:H a=some o)(h':H b=none):a≠b:=by intro e;subst e;rw[h] at h';cases h'
section
variable (P:pQ) (w:qt)
def Fe(H:Hp)(h:qM)(a : Ξ):HO->Prop
 |.lst xs=>xs.length<=pY/\∃(Bc:List Δ) (n:Nat),Vals xs Bc/\h.get? a=some {cls:=.type "list",data:=.seq Bc.toArray n}
 |.tup xs=>xs.length<=pY/\∃Bc:List Δ,Vals xs Bc/\zM h a Bc.toArray
 |.dK kvs=>kvs.length<=pY/\(a==sysModules)=false/\∃vs,KV kvs vs/\h.DictOf (BN P w) a vs
 |.dT kvs=>kvs.length<=pY/\(a==sysModules)=false/\∃xs:List (List Key × Ξ × Δ),
   sG (λ(p:List Key×V) (q:List Key × Ξ × Δ)=>p.1=q.1/\H q.2.1=some (.tup (p.1.map kV))/\RelV p.2 q.2.2) kvs xs /\
   ∃o es ep,h.get? a=some o/\o.ExactDict/\o.data=.dict es ep/\es.toList=xs.map (entryOfKey (tupleKind (BN P w)))/\(xs.map (·.1)).Nodup
 |.set S n=>h.SetOf (intKind P w) a S n
 |.ins C dx fs=>H dx=some (.own a)/\fs.length<=1000/\dx≠a/\h.get? a=some (t6 C dx) /\
   ∃mA,h.Ns1 dx mA/\(∀f,Pk (fs.lookup f) (mA f))/\yK mA (fs.map (·.1))
 |.own _=>∃o,h.get? a=some o
 |.xd fs=>∃mA,h.Ns1 a mA/\∀f,Pk (fs.lookup f) (mA f)
 |.jM lo hi=>∃t u v,h.get? a=some {cls:=.type "range",data:=.fields #[.int lo t,.int hi u,.int 1 v]}
 |.DK o u=>h.get? a=some o/\Fe H h a u
 |.P1 ps=>h.get? a=some {cls:=.none,data:=.fields ps}
 |.met f x=>h.get? a=some (xm (.ref f) (.ref x))
 |.ext φ=>φ h/\(∃o,h.get? a=some o)/\∀h1 h2:qM,φ h1->(∀o,h1.get? a=some o->h2.get? a=some o)->φ h2
def Ot(H:Hp)(h:qM):Prop:=∀a o,H a=some o->Fe P w H h a o
end
section
variable {P:pQ}{w:qt}{H H':Hp}{h h':qM}{a : Ξ}{o:HO}
theorem Fe.lt(x:Fe P w H h a o):a<h.objs.size:=by
 cases o with
 |lst xs=>obtain⟨_,_,_,_,e⟩:=x;exact qu e
 |tup xs=>obtain⟨_,_,_,p⟩:=x;exact p.lt
 |dK kvs=>obtain⟨_,_,_,_,o,_,_,e,_⟩:=x;exact qu e
 |dT kvs=>obtain⟨_,_,_,_,o,_,_,e,_⟩:=x;exact qu e
 |set S n=>obtain⟨o,_,_,_,e,_⟩:=x;exact qu e
 |ins C dx fs=>obtain⟨_,_,_,e,_⟩:=x;exact qu e
 |own y=>obtain⟨_,e⟩:=x;exact qu e
 |xd fs=>obtain⟨_,⟨_,_,_,e,_⟩,_⟩:=x;exact qu e
 |jM lo hi=>obtain⟨_,_,_,e⟩:=x;exact qu e
 |DK ob u=>obtain⟨e,_⟩:=x;exact qu e
 |P1 ps=>exact qu (show h.get? a=some _ from x)
 |met f y=>exact qu (show h.get? a=some _ from x)
 |ext φ=>obtain⟨_,⟨_,e⟩,_⟩:=x;exact qu e
theorem Paired.SA{α β:Type}{F G:α->β->Prop}:∀{l₁:List α}{l₂:List β},sG F l₁ l₂->(∀a b,F a b->G a b)->sG G l₁ l₂
 |_,_,.nil,_=>.nil
 |_,_,.cons r t,f=>.cons (f _ _ r) (Paired.SA t f)
theorem Fe.Ws(x:Fe P w H h a o)(k:∀b u,(b=a\/H b=some (.own a))->h.get? b=some u->h'.get? b=some u)
  (ho:∀b,H b=some (.own a)->H' b=some (.own a)) (ht:∀b xs,H b=some (.tup xs)->H' b=some (.tup xs)):Fe P w H' h' a o:=by
 induction o with
 |lst xs=>obtain⟨z,Bc,n,r,e⟩:=x;exact⟨z,Bc,n,r,k _ _ (.inl rfl) e⟩
 |tup xs=>obtain⟨z,Bc,r,ob,e,c⟩:=x;exact⟨z,Bc,r,ob,k _ _ (.inl rfl) e,c⟩
 |dK kvs=>obtain⟨z,y,vs,r,ob,es,ep,e,c⟩:=x;exact⟨z,y,vs,r,ob,es,ep,k _ _ (.inl rfl) e,c⟩
 |dT kvs=>obtain⟨z,y,xs,r,ob,es,ep,e,c⟩:=x;exact⟨z,y,xs,Paired.SA r λp q z=>⟨z.1,ht _ _ z.2.1,z.2.2⟩,ob,es,ep,k _ _ (.inl rfl) e,c⟩
 |set S n=>obtain⟨ob,es,ep,t,e,c⟩:=x;exact⟨ob,es,ep,t,k _ _ (.inl rfl) e,c⟩
 |ins C dx fs=>obtain⟨d,z,ne,e,mA,⟨od,es,ep,e2,c⟩,r⟩:=x;exact⟨ho _ d,z,ne,k _ _ (.inl rfl) e,mA,⟨od,es,ep,k _ _ (.inr d) e2,c⟩,r⟩
 |own y=>obtain⟨ob,e⟩:=x;exact⟨ob,k _ _ (.inl rfl) e⟩
 |xd fs=>obtain⟨mA,⟨od,es,ep,e,c⟩,r⟩:=x;exact⟨mA,⟨od,es,ep,k _ _ (.inl rfl) e,c⟩,r⟩
 |jM lo hi=>obtain⟨t,u,v,e⟩:=x;exact⟨t,u,v,k _ _ (.inl rfl) e⟩
 |DK ob u ih=>obtain⟨e,q⟩:=x;exact⟨k _ _ (.inl rfl) e,ih q⟩
 |P1 ps=>have e:h.get? a=some {cls:=.none,data:=.fields ps}:=x;show h'.get? a=some {cls:=.none,data:=.fields ps};exact k a _ (.inl rfl) e
 |met f y=>have e:h.get? a=some (xm (.ref f) (.ref y)):=x;show h'.get? a=some (xm (.ref f) (.ref y));exact k a _ (.inl rfl) e
 |ext φ=>obtain⟨p,⟨o,e⟩,st⟩:=x;exact⟨st _ _ p λo q=>k _ _ (.inl rfl) q,⟨o,k _ _ (.inl rfl) e⟩,st⟩
theorem Ot.lt(x:Ot P w H h)(e:H a=some o):a<h.objs.size:=(x a o e).lt
theorem Ot.fresh(x:Ot P w H h)(e:h.objs.size<=a):H a=none:=by
 cases q:H a with
 |none=>rfl
 |some u=>exact absurd (p8 (x.lt q) e) (r_ _)
theorem Ot.kept(x:Ot P w H h)(k:∀b u,h.get? b=some u->h'.get? b=some u):Ot P w H h':=λa o e=>(x a o e).Ws (λb u _ q=>k b u q) (λ_ q=>q) λ_ _ q=>q
theorem Ot.laid(x:Ot P w H h)(k:∀b u,h.get? b=some u->h'.get? b=some u)(hp:h.objs.size<=a)(new:Fe P w (upd H a o) h' a o):Ot P w (upd H a o) h':=λb u e=>by
 have hn:=x.fresh hp;by_cases hb:b=a
 .subst hb;rw[AD] at e;cases e;exact new
 .rw[AH hb] at e;exact(x b u e).Ws (λc v _ q=>k c v q) (λc q=>by rw[AH (AO q hn)];exact q) λc xs q=>by rw[AH (AO q hn)];exact q
end
def Rd(H:Hp)(a : Ξ)(u:HO):Prop:=H a=some u\/∃o,H a=some (.DK o u)
theorem Rd.of{H:Hp}{a : Ξ}{u:HO}(h:H a=some u):Rd H a u:=.inl h
theorem Rd.ok{P:pQ}{w:qt}{H:Hp}{h:qM}{a : Ξ}{u:HO}(r:Rd H a u)(x:Ot P w H h):Fe P w H h a u:=by
 rcases r with r|⟨o,r⟩
 .exact x a u r
 .obtain⟨_,q⟩:=x a _ r;exact q
def gb:Option HO->Prop
 |some (.lst _)=>True
 |some (.dK _)=>True
 |some (.dT _)=>True
 |some (.set _ _)=>True
 |some (.ins _ _ _)=>True
 |some (.ext _)=>True
 |_=>False
section
variable {P:pQ}{w:qt}{H:Hp}{h h':qM}{x e : Ξ}{o':HO}
theorem Ot.write(ok:Ot P w H h)(mu:gb (H x))(he:e=x\/H e=some (.own x))(k:∀b u,b≠e->h.get? b=some u->h'.get? b=some u)(jY:∃u,h'.get? e=some u)
  (new:Fe P w (upd H x o') h' x o'):Ot P w (upd H x o') h':=λb u q=>by
 have AWT:∀c y,H c=some (.own y)->c≠x:=λc y r z=>by subst z;rw[r] at mu;exact mu
 have AXY:∀c xs,H c=some (.tup xs)->c≠x:=λc xs r z=>by subst z;rw[r] at mu;exact mu
 by_cases hb:b=x
 .subst hb;rw[AD] at q;cases q;exact new
 .rw[AH hb] at q;by_cases hbe:b=e
  .have q':H b=some (.own x):=by
    rcases he with z|z
    .exact absurd (hbe.trans z) hb
    .rw[hbe];exact z
   rw[q] at q';cases q';obtain⟨v,hv⟩:=jY;exact⟨v,by rw[hbe];exact hv⟩
  .refine(ok b u q).Ws (λc v hc r=>k c v ?_ r) (λc r=>by rw[AH (AWT c b r)];exact r) λc xs r=>by rw[AH (AXY c xs r)];exact r
   rcases hc with rfl|hc
   .exact hbe
   .rintro rfl;rcases he with z|z
    .exact AWT c b hc z
    .rw[hc] at z;cases z;exact hb rfl
end
structure Un(fs ex:List Ξ)(H H':Hp)(h h':qM):Prop where
 keep:∀b o,h.get? b=some o->H b=none->b∉fs->b∉ex->h'.get? b=some o
 slot:∀b o,h.get? b=some o->H b=none->b∈fs->b∉ex->∃sl,h'.get? b=some {o with slots:=sl}
 free:∀b o,h.get? b=some o->H b=none->b∉ex->H' b=none
 there:∀b o,h.get? b=some o->b∉ex->∃o',h'.get? b=some o'
 XS:∀b xs,H b=some (.tup xs)->H' b=some (.tup xs)
 WO:∀b o u,H b=some (.DK o u)->H' b=some (.DK o u)
 Wr:∀b ps,H b=some (.P1 ps)->∃more,H' b=some (.P1 (ps++more))
section
variable {fs fs' ex ex':List Ξ}{H H1 H2:Hp}{h h1 h2 h':qM}{a x e : Ξ}{o:HO}
theorem Un.any(u:Un fs ex H H1 h h1){b : Ξ}{ob:sR}(q:h.get? b=some ob)(n:H b=none)(hx:b∉ex):∃sl,h1.get? b=some {ob with slots:=sl}:=by
 by_cases hb:b∈fs
 .exact u.slot b ob q n hb hx
 .exact⟨ob.slots,u.keep b ob q n hb hx⟩
theorem Un.kept(k:∀b u,h.get? b=some u->h'.get? b=some u):Un fs ex H H h h':=⟨λb ob q _ _ _=>k b ob q,λb ob q _ _ _=>⟨ob.slots,k b ob q⟩,λ_ _ _ n _=>n,λb ob q _=>⟨ob,k b ob q⟩,λ_ _ q=>q,λ_ _ _ q=>q,λ_ ps q=>⟨#[],by rw[q];simp⟩⟩
theorem Un.refl:Un fs ex H H h h:=Un.kept λ_ _ q=>q
theorem Un.laid(k:∀b u,h.get? b=some u->h'.get? b=some u)(hp:h.objs.size<=a)(hn:H a=none):Un fs ex H (upd H a o) h h' where
 keep:=λb u q _ _ _=>k b u q
 slot:=λb u q _ _ _=>⟨u.slots,k b u q⟩
 free:=λb u q n _=>by rw[AH (qK (p8 (qu q) hp))];exact n
 there:=λb u q _=>⟨u,k b u q⟩
 XS:=λb xs q=>by rw[AH (AO q hn)];exact q
 WO:=λb u xs q=>by rw[AH (AO q hn)];exact q
 Wr:=λb ps q=>⟨#[],by rw[AH (AO q hn),q];simp⟩
theorem Un.write(mu:gb (H x))(he:e=x\/H e=some (.own x))(k:∀b u,b≠e->h.get? b=some u->h'.get? b=some u)(jY:∃u,h'.get? e=some u):Un fs ex H (upd H x o) h h':=by
 have hx:∀b,H b=none->b≠x:=λb n z=>by subst z;rw[n] at mu;exact mu
 have hb:∀b,H b=none->b≠e:=λb n z=>by
  subst z;rcases he with r|r
  .exact hx b n r
  .rw[n] at r;cases r
 have hm:∀b u,H b=some u->¬ gb (some u)->b≠x:=λb u q nm z=>by subst z;rw[q] at mu;exact nm mu
 refine⟨λb u q n _ _=>k b u (hb b n) q,λb u q n _ _=>⟨u.slots,k b u (hb b n) q⟩,λb u q n _=>by rw[AH (hx b n)];exact n,λb u q _=>?_,
  λb xs q=>by rw[AH (hm b _ q λz=>z)];exact q,λb u xs q=>by rw[AH (hm b _ q λz=>z)];exact q,λb ps q=>⟨#[],by rw[AH (hm b _ q λz=>z),q];simp⟩⟩
 by_cases hbe:b=e
 .subst hbe;exact jY
 .exact⟨u,k b u hbe q⟩
end
def k9(h:qM)(H:Hp):List Ξ:=(pW h.objs.size).filter λa=>(H a).isSome
def YI(h:qM)(H:Hp):qM:=PySem.W.hideAll h (k9 h H)
theorem AP1(h:qM)(H:Hp):(YI h H).objs.size=h.objs.size:=PySem.W.hideAll_size _ _
theorem ARs{h:qM}{H:Hp}{b : Ξ}{o:sR}(e:h.get? b=some o)(n:H b=none):(YI h H).get? b=some o:=PySem.W.hideAll_get _ e λhm=>by have q:(H b).isSome=true:=(d_.mp hm).2;rw[n] at q;simp at q
theorem ATG{h:qM}{H:Hp}{b : Ξ}{o:sR}(e:(YI h H).get? b=some o):h.get? b=some o/\H b=none:=by
 have e':h.get? b=some o:=PySem.W.of_hideAll (k9 h H) e;refine⟨e',?_⟩;cases q:H b with
 |none=>rfl
 |some x=>have hm:b∈k9 h H:=d_.mpr ⟨sQ.mpr (qu e'),by simp[q]⟩;have z:(YI h H).get? b=none:=PySem.W.hideAll_none (k9 h H) hm;rw[z] at e;cases e
structure Mod(K : ξ)(mg:qf->Option Δ)(AG:qM):Prop where
 jS:K.In AG
 glob:AG.Ns h_ mg
 blt:∃mb,AG.Ns builtinsNs mb/\∀x:qf,x ≠ "__name__" -> mb x=bootBuiltins x
 nolimit:AG.NoLimit
 seer:AG.NoSeer
 bmain:∃bm ob,mg "__builtins__" = some (.ref bm)/\bm≠builtinsNs/\AG.get? bm=some ob/\ob.cls=.type "module" /\ ob.dict=some builtinsNs/\ob.data=.plain
structure Cx where
 prog:pQ
 w:qt
 K : ξ
 mg:qf->Option Δ
 AG:qM
 A:qN
 N:List qf
 Wt : Ω
 gc:Hp
 env:yx
 AR:List yx
 stack:List yx
 ex:List Ξ
 fn:qf->Bool
 calm:Bool
 pn:List (Ξ × sR)
 xe : Δ -> Ω -> Prop
def dG(l:List yx):List Ξ:=l.filterMap (·.frame)
abbrev Cx.fs(X:Cx):List Ξ:=dG X.AR
def k6(sc:ua)(x:qf):Prop:=sc.names.lookup x=some .local\/sc.names.lookup x=some .cell\/sc.names.lookup x=some .free
def Loc(sc:ua)(x:qf):Prop:=sc.names.lookup x=some .local\/sc.names.lookup x=some .cell
def Look(env:yx)(h:qM)(m:qf->Option Δ)(x:qf)(u : Δ):Prop:=(env.kindOf x=some .local/\m x=some u)\/((env.kindOf x=some .cell\/env.kindOf x=some .free)/\∃c,env.cells.lookup x=some c/\h.IsCell c (some u))
structure Cx.Ok(X:Cx):Prop where
 mod:Mod X.K X.mg X.AG
 kind:X.env.scope.kind=.function
 glob:X.env.globals=h_
 blt:X.env.builtins=builtinsNs
 above:X.Wt.heap.objs.size<=X.env.locals
 inj:∀x y c,X.env.cells.lookup x=some c->X.env.cells.lookup y=some c->x=y
 has:∀x,(X.env.kindOf x=some .cell\/X.env.kindOf x=some .free)->∃c,X.env.cells.lookup x=some c
 ku:∀x c,X.fn x=true->X.env.cells.lookup x=some c->X.Wt.heap.objs.size<=c
 hd:X.calm=true->X.A.handled=none
 frames:X.A.frames=some X.stack
 lD:X.stack=X.AR\/(X.stack=X.env::X.AR/\X.env.frame=some X.env.locals)
 mJ:∀b∈X.ex,b≠X.env.locals/\∀x c,X.env.cells.lookup x=some c->c≠b
 bs:∀b o,X.AG.get? b=some o->X.Wt.heap.get? b=some o/\X.gc b=none
 bV:X.AG.objs.size<=X.Wt.heap.objs.size
 cF:∀b o,X.AG.get? b=some o->b∉X.ex
 dJ:∀b∈X.ex,b∉X.fs
 TM:X.Wt.heap.FunFrames X.AG X.AR
 fX:∀b∈X.fs,X.gc b=none
structure Inv(X:Cx)(AB:List (Ξ × sR))(σ:List (Option V))(H:Hp)(s : Ω):Prop where
 ok:X.Ok
 os:s.os=X.Wt.os
 bare:yu s.gens
 AG:Un X.fs X.ex X.gc H X.Wt.heap s.heap
 loc:∃m,s.heap.Ns X.env.locals m/\∀(i:Nat) (x:qf) (v:V),X.N[i]?=some x->σ[i]?=some (some v)->k6 X.env.scope x->∃u,RelV v u/\Look X.env s.heap m x u
 cell:∀x c,X.env.cells.lookup x=some c->∃v,s.heap.IsCell c v
 free:H X.env.locals=none
 Nb:∀x c,X.env.cells.lookup x=some c->H c=none
 pin:∀p∈X.pn++AB,s.heap.get? p.1=some p.2/\H p.1=none/\p.1≠X.env.locals/\p.1∉X.fs/\∀v,p.2.data≠.cell v
 CC:Ot X.prog X.w H s.heap
 len:σ.length=X.N.length
section
variable {X:Cx}{AB:List (Ξ × sR)}{σ:List (Option V)}{H H':Hp}{s : Ω}{h':qM}
theorem Cx.Ok.AXa(ok:X.Ok){b : Ξ}{o:sR}(e:X.AG.get? b=some o):b∉X.fs:=λhb=>by have:=(ok.TM.mem hb).1;rw[e] at this;cases this
theorem Inv.bs(I:Inv X AB σ H s):∀b o,X.AG.get? b=some o->s.heap.get? b=some o/\H b=none:=λb o e=>⟨I.AG.keep b o (I.ok.bs b o e).1 (I.ok.bs b o e).2 (I.ok.AXa e) (I.ok.cF b o e),I.AG.free b o (I.ok.bs b o e).1 (I.ok.bs b o e).2 (I.ok.cF b o e)⟩
theorem Inv.bk(I:Inv X AB σ H s):∀b o,X.AG.get? b=some o->s.heap.get? b=some o:=λb o e=>(I.bs b o e).1
theorem Inv.mod(I:Inv X AB σ H s):Mod X.K X.mg X.AG:=I.ok.mod
theorem Inv.YF(I:Inv X AB σ H s):X.K.In s.heap:=I.ok.mod.jS.keeps I.bk
theorem Inv.nolimit(I:Inv X AB σ H s):s.heap.NoLimit:=I.ok.mod.nolimit.keeps I.bk
theorem Inv.fr(I:Inv X AB σ H s):∃m,Fr X.AG X.env.locals s.heap m:=
 let ⟨m,hn,_⟩:=I.loc
 ⟨m,hn,I.bk,a_ I.ok.bV I.ok.above⟩
theorem Inv.lt(I:Inv X AB σ H s):X.env.locals<s.heap.objs.size:=let ⟨_,hn,_⟩:=I.loc;hn.lt
theorem Inv.sz(I:Inv X AB σ H s):X.Wt.heap.objs.size<=s.heap.objs.size:=a_ I.ok.above (tN I.lt)
theorem Inv.AXZ(I:Inv X AB σ H s){a : Ξ}(h:s.heap.objs.size<=a):a∉X.fs:=λhb=>by obtain⟨_,o,ho,_⟩:=I.ok.TM.mem hb;exact absurd (p8 (qu ho) (a_ I.sz h)) (r_ _)
theorem Inv.i9(I:Inv X AB σ H s):∀x c,X.env.cells.lookup x=some c->c≠X.env.locals:=λx c e z=>by obtain⟨v,o,ho,hd⟩:=I.cell x c e;obtain⟨m,⟨o',es,ep,Yk,Et,_⟩,_⟩:=I.loc;rw[z,Yk] at ho;cases ho;rw[Et] at hd;cases hd
theorem Inv.TM(I:Inv X AB σ H s):s.heap.FunFrames X.AG X.AR:=by
 have all:∀(l:List yx),(∀b∈dG l,b∈X.fs)->X.Wt.heap.FunFrames X.AG l->s.heap.FunFrames X.AG l:=by
  intro l
  induction l with
  |nil=>intro _ _;trivial
  |cons env r ih=>intro hs hl;obtain⟨hk,⟨L,o,hf,hn,ho,hd⟩,hr⟩:=hl;have hL:L∈X.fs:=hs L (by unfold dG;rw[rB,hf];exact υ);obtain⟨sl,e⟩:=I.AG.slot L o ho (I.ok.fX L hL) hL λz=>I.ok.dJ L z hL;exact⟨hk,⟨L,_,hf,hn,e,hd⟩,ih (λb hb=>hs b (by unfold dG;rw[rB,hf];exact θ _ hb)) hr⟩
 exact all X.AR (λ_ hb=>hb) I.ok.TM
theorem Inv.stack(I:Inv X AB σ H s):s.heap.FunFrames X.AG X.stack:=by
 rcases I.ok.lD with e|⟨e,hf⟩
 .rw[e];exact I.TM
 .rw[e];obtain⟨m,hn,_⟩:=I.loc;refine .cons (by rw[I.ok.kind];decide) hf hn ?_ I.TM;exact Heap.get?_none_of_le (a_ I.ok.bV I.ok.above)
theorem Inv.ZM(I:Inv X AB σ H s):∀b∈dG X.stack,b∈X.env.locals::X.fs:=λb hb=>by
 rcases I.ok.lD with e|⟨e,hf⟩
 .rw[e] at hb;exact θ _ hb
 .rw[e] at hb;unfold dG at hb;rw[rB,hf] at hb;exact hb
theorem Inv.AN1(I:Inv X AB σ H s):∀b∈dG X.stack,H b=none:=λb hb=>by
 rcases pM.mp (I.ZM b hb) with e|hb
 .rw[e];exact I.free
 .obtain⟨_,o,ho,_⟩:=I.ok.TM.mem hb;exact I.AG.free b o ho (I.ok.fX b hb) λz=>I.ok.dJ b z hb
theorem Inv.step{g':Array GenState}{t':Nat}{d':Drawn}{ch:List Ξ}(I:Inv X AB σ H s)
  (eW:∀b∈ch,(b∈X.ex\/X.Wt.heap.objs.size<=b)/\b≠X.env.locals/\(∀x c,X.env.cells.lookup x=some c->c≠b)/\∀p∈X.pn++AB,p.1≠b)
  (keep:∀b o,b≠X.env.locals->b∉X.fs->b∉ch->s.heap.get? b=some o->H b=none->h'.get? b=some o)
  (slot:∀b o,b≠X.env.locals->b∈X.fs->b∉ch->s.heap.get? b=some o->H b=none->∃sl,h'.get? b=some {o with slots:=sl}) (free:∀b o,b∉ch->s.heap.get? b=some o->H b=none->H' b=none)
  (there:∀b o,b∉ch->s.heap.get? b=some o->∃o',h'.get? b=some o')
  (XS:∀b xs,H b=some (.tup xs)->H' b=some (.tup xs)) (WO:∀b o u,H b=some (.DK o u)->H' b=some (.DK o u)) (Wr:∀b ps,H b=some (.P1 ps)->∃more,H' b=some (.P1 (ps++more)))
  (ns:∀m,s.heap.Ns X.env.locals m->h'.Ns X.env.locals m) (CC:Ot X.prog X.w H' h') (hg:yu g'):
  Inv X AB σ H' {s with heap:=h',gens:=g',drawn:=d',toks:=t'}:=by
 have neL:∀b o,X.Wt.heap.get? b=some o->b≠X.env.locals:=λb o e=>qK (p8 (qu e) I.ok.above);have lR:∀b o,X.Wt.heap.get? b=some o->b∉X.ex->b∉ch:=λb o e hx hb=>by
  rcases(eW b hb).1 with z|z
  .exact hx z
  .exact absurd (p8 (qu e) z) (r_ _)
 have cellK:∀x c,X.env.cells.lookup x=some c->∀v,s.heap.IsCell c v->h'.IsCell c v:=λx c e v ⟨o,ho,hd⟩=>by
  have jz:c∉ch:=λz=>(eW c z).2.2.1 x c e rfl;by_cases hc:c∈X.fs
  .obtain⟨sl,q⟩:=slot c o (I.i9 x c e) hc jz ho (I.Nb x c e);exact⟨_,q,hd⟩
  .exact⟨o,keep c o (I.i9 x c e) hc jz ho (I.Nb x c e),hd⟩
 refine⟨I.ok,I.os,hg,⟨λb o e n hb hx=>?_,λb o e n hb hx=>?_,λb o e n hx=>?_,λb o e hx=>?_,λb xs e=>XS b xs (I.AG.XS b xs e),λb o xs e=>WO b o xs (I.AG.WO b o xs e),λb ps e=>?_⟩,?_,λx c e=>?_,?_,λx c e=>?_,λp hp=>?_,CC,I.len⟩
 .exact keep b o (neL b o e) hb (lR b o e hx) (I.AG.keep b o e n hb hx) (I.AG.free b o e n hx)
 .obtain⟨sl,e1⟩:=I.AG.slot b o e n hb hx;obtain⟨sl',e2⟩:=slot b _ (neL b o e) hb (lR b o e hx) e1 (I.AG.free b o e n hx);exact⟨sl',e2⟩
 .obtain⟨o',e1⟩:=I.AG.there b o e hx;exact free b o' (lR b o e hx) e1 (I.AG.free b o e n hx)
 .obtain⟨o',e1⟩:=I.AG.there b o e hx;exact there b o' (lR b o e hx) e1
 .obtain⟨m1,e1⟩:=I.AG.Wr b ps e;obtain⟨m2,e2⟩:=Wr b _ e1;exact⟨m1++m2,by rw[e2,Array.append_assoc]⟩
 .obtain⟨m,hn,hl⟩:=I.loc;refine⟨m,ns m hn,λi x v e1 e2 e3=>?_⟩;obtain⟨u,r,l⟩:=hl i x v e1 e2 e3;refine⟨u,r,?_⟩;rcases l with l|⟨k,c,e,z⟩
  .exact .inl l
  .exact .inr ⟨k,c,e,cellK x c e _ z⟩
 .obtain⟨v,z⟩:=I.cell x c e;exact⟨v,cellK x c e v z⟩
 .obtain⟨m,⟨o,_,_,ho,_⟩,_⟩:=I.loc;exact free _ o (λz=>(eW _ z).2.1 rfl) ho I.free
 .obtain⟨v,o,ho,hd⟩:=I.cell x c e;exact free c o (λz=>(eW c z).2.2.1 x c e rfl) ho (I.Nb x c e)
 .obtain⟨e,n,ne,nf,d⟩:=I.pin p hp;have jz:p.1∉ch:=λz=>(eW p.1 z).2.2.2 p hp rfl;exact⟨keep p.1 p.2 ne nf jz e n,free p.1 p.2 jz e n,ne,nf,d⟩
theorem Inv.un{t':Nat}(I:Inv X AB σ H s)(u:Un X.fs [] H H' s.heap h')(CC:Ot X.prog X.w H' h'):Inv X AB σ H' {s with heap:=h',toks:=t'}:=by obtain⟨m,⟨o,es,ep,ho,r⟩,_⟩:=id I.loc;obtain⟨sl,hL⟩:=u.any ho I.free (by simp);exact I.step (g':=s.gens) (d':=s.drawn) (ch:=[]) (λ_ z=>nomatch z) (λb o _ hb _ e n=>u.keep b o e n hb (by simp)) (λb o _ hb _ e n=>u.slot b o e n hb (by simp)) (λb o _ e n=>u.free b o e n (by simp)) (λb o _ e=>u.there b o e (by simp)) u.XS u.WO u.Wr (λm' hm=>by obtain⟨o',Y0,eY,Yk,r'⟩:=hm;rw[ho] at Yk;cases Yk;exact⟨_,Y0,eY,hL,r'⟩) CC I.bare
theorem Inv.call{g':Array GenState}{t':Nat}{d':Drawn}{ch:List Ξ}(I:Inv X AB σ H s)(u:Un (dG X.stack) ch H H' s.heap h')(CC:Ot X.prog X.w H' h')(hg:yu g')
  (eW:∀b∈ch,(b∈X.ex\/X.Wt.heap.objs.size<=b)/\b≠X.env.locals/\(∀x c,X.env.cells.lookup x=some c->c≠b)/\∀p∈X.pn++AB,p.1≠b):
  Inv X AB σ H' {s with heap:=h',gens:=g',drawn:=d',toks:=t'}:=by
 obtain⟨m,⟨o,es,ep,ho,r⟩,_⟩:=id I.loc;obtain⟨sl,hL⟩:=u.any ho I.free λz=>(eW _ z).2.1 rfl;exact I.step (ch:=ch) eW (λb o hL hb hc e n=>u.keep b o e n (λz=>(pM.mp (I.ZM b z)).elim hL hb) hc) (λb o _ _ hc e n=>u.any e n hc) (λb o hc e n=>u.free b o e n hc) (λb o hc e=>u.there b o e hc) u.XS u.WO u.Wr (λm' hm=>by obtain⟨o',Y0,eY,Yk,r'⟩:=hm;rw[ho] at Yk;cases Yk;exact⟨_,Y0,eY,hL,r'⟩) CC hg
theorem Inv.turned{t':Nat}{it : Ξ}(I:Inv X AB σ H s)(k:∀b o,b≠it->s.heap.get? b=some o->h'.get? b=some o)(hn:H it=none)(hL:it≠X.env.locals)
  (h1:it∈X.ex\/X.Wt.heap.objs.size<=it) (h2:∀x c,X.env.cells.lookup x=some c->c≠it) (h3:∀p∈X.pn++AB,p.1≠it):Inv X AB σ H {s with heap:=h',toks:=t'}:=by
 have nit:∀b u,H b=some u->b≠it:=λb u e z=>by rw[z,hn] at e;cases e
 refine I.step (g':=s.gens) (d':=s.drawn) (ch:=[it]) (λb hb=>?_) (λb o _ _ hc e _=>k b o (λz=>hc (by simp[z])) e) (λb o _ _ hc e _=>⟨o.slots,k b o (λz=>hc (by simp[z])) e⟩) (λ_ _ _ _ n=>n)
  (λb o hc e=>⟨o,k b o (λz=>hc (by simp[z])) e⟩) (λ_ _ e=>e) (λ_ _ _ e=>e) (λb ps e=>⟨#[],by rw[e];simp⟩) (λm hm=>?_) (λb u e=>?_) I.bare
 .have e:b=it:=by simpa using hb
  subst e;exact⟨h1,hL,h2,h3⟩
 .obtain⟨o,es,ep,ho,r⟩:=hm;exact⟨o,es,ep,k _ o (qk hL) ho,r⟩
 .refine(I.CC b u e).Ws (λc v hc q=>k c v ?_ q) (λ_ q=>q) λ_ _ q=>q;rcases hc with z|z
  .rw[z];exact nit b u e
  .exact nit c _ z
theorem Inv.tok(I:Inv X AB σ H s)(t:Nat):Inv X AB σ H {s with toks:=t}:=I.un (h':=s.heap) (t':=t) Un.refl I.CC
theorem Inv.kept{t':Nat}(I:Inv X AB σ H s)(k:∀b u,s.heap.get? b=some u->h'.get? b=some u):Inv X AB σ H {s with heap:=h',toks:=t'}:=I.un (Un.kept k) (I.CC.kept k)
theorem Inv.laid{a : Ξ}{o:HO}{t':Nat}(I:Inv X AB σ H s)(k:∀b u,s.heap.get? b=some u->h'.get? b=some u)(hp:s.heap.objs.size<=a)(new:Fe X.prog X.w (upd H a o) h' a o):
  Inv X AB σ (upd H a o) {s with heap:=h',toks:=t'}:=I.un (Un.laid k hp (I.CC.fresh hp)) (I.CC.laid k hp new)
theorem Inv.write{x e : Ξ}{o:HO}{t':Nat}(I:Inv X AB σ H s)(mu:gb (H x))(he:e=x\/H e=some (.own x))(k:∀b u,b≠e->s.heap.get? b=some u->h'.get? b=some u)(jY:∃u,h'.get? e=some u)
  (new:Fe X.prog X.w (upd H x o) h' x o):Inv X AB σ (upd H x o) {s with heap:=h',toks:=t'}:=I.un (Un.write mu he k jY) (I.CC.write mu he k jY new)
theorem Inv.weak{σ':List (Option V)}(I:Inv X AB σ H s)(hl:σ'.length=σ.length)(w:∀(i:Nat) v,σ'[i]?=some (some v)->σ[i]?=some (some v)):Inv X AB σ' H s:=⟨I.ok,I.os,I.bare,I.AG,let ⟨m,hn,iT⟩:=I.loc;⟨m,hn,λi x v e1 e2 e3=>iT i x v e1 (w i v e2) e3⟩,I.cell,I.free,I.Nb,I.pin,I.CC,hl.trans I.len⟩
theorem Inv.VC{cE:List (Ξ × sR)}(I:Inv X AB σ H s)(h:∀p∈cE,s.heap.get? p.1=some p.2/\H p.1=none/\p.1≠X.env.locals/\p.1∉X.fs/\∀v,p.2.data≠.cell v):Inv X cE σ H s:=⟨I.ok,I.os,I.bare,I.AG,I.loc,I.cell,I.free,I.Nb,λp hp=>(pT.mp hp).elim (λz=>I.pin p (qT _ z)) (h p),I.CC,I.len⟩
theorem V4{N:List qf}(hN:N.Nodup){i j:Nat}{x:qf}(a:N[i]?=some x)(b:N[j]?=some x):i=j:=by obtain⟨h1,e1⟩:=l_.mp a;obtain⟨h2,e2⟩:=l_.mp b;exact(List.getElem_inj hN).mp (e1.trans e2.symm)
theorem AJX{M:zJ}{A:qN}{E : Δ -> Ω -> Prop}{i:Nat}{x:qf}{v:V}{u : Δ}{Q:Unit -> Ω -> Prop}(I:Inv X AB σ H s)(hN:X.N.Nodup)(hi:X.N[i]?=some x)(hx:Loc X.env.scope x)(r:RelV v u)
  (h:∀s',Inv X AB (σ.set i (some v)) H s'->(∃a,vX a s.heap s'.heap/\(a=X.env.locals\/X.env.cells.lookup x=some a))->Q () s') (hf:X.fn x=true\/X.env.scope.names.lookup x=some .local:=by first|exact .inl rfl|exact .inr rfl|assumption):p_ M A (storeName X.env x u) Q E s:=by
 obtain⟨m,hn,hl⟩:=id I.loc;have AYC:(X.env.scope.kind == .class||(X.env.scope.kind == .module&&X.env.locals != X.env.globals))=false:=by rw[I.ok.kind];rfl
 have hiσ:i<σ.length:=by rw[I.len];exact(l_.mp hi).1
 have i9:=I.i9;have tracked:∀{a : Ξ}{h':qM},(∃o,s.heap.get? a=some o/\H a=none)->vX a s.heap h'->Ot X.prog X.w H h':=λ{a h'} ha hs b ob e=>by
  obtain⟨_,_,Uq⟩:=ha;refine(I.CC b ob e).Ws (λc w' hc q=>(hs.2 c ?_).trans q) (λ_ q=>q) λ_ _ q=>q;rintro rfl;rcases hc with rfl|hc
  .rw[Uq] at e;cases e
  .rw[Uq] at hc;cases hc
 rcases hx with hk|hk
 .refine wpAny_storeName_local hk hn (λh' cT hs=>?_) AYC;obtain⟨oL,_,_,hoL,_⟩:=id hn;refine h _ ⟨I.ok,I.os,I.bare,⟨λb o e n hb hx=>?_,λb o e n hb hx=>?_,I.AG.free,λb o e hx=>?_,I.AG.XS,I.AG.WO,I.AG.Wr⟩,⟨_,cT,λj y v' e1 e2 e3=>?_⟩,λy c e=>?_,I.free,I.Nb,λp hp=>?_,tracked ⟨oL,hoL,I.free⟩ hs,by simpa using I.len⟩ ⟨_,hs,.inl rfl⟩
  .exact(hs.2 b (qK (p8 (qu e) I.ok.above))).trans (I.AG.keep b o e n hb hx)
  .obtain⟨sl,e1⟩:=I.AG.slot b o e n hb hx;exact⟨sl,(hs.2 b (qK (p8 (qu e) I.ok.above))).trans e1⟩
  .obtain⟨o',e1⟩:=I.AG.there b o e hx;exact⟨o',(hs.2 b (qK (p8 (qu e) I.ok.above))).trans e1⟩
  .by_cases hj:j=i
   .subst hj;rw[hi] at e1;cases e1;rw[vW hiσ] at e2;cases e2;exact⟨u,r,.inl ⟨hk,by simp⟩⟩
   .rw[wC (qk hj)] at e2;obtain⟨u',r',q⟩:=hl j y v' e1 e2 e3;refine⟨u',r',?_⟩;rcases q with⟨k,e⟩|⟨k,c,e,z⟩
    .refine .inl ⟨k,?_⟩;have:y≠x:=λe=>hj (V4 hN e1 (e▸hi));simp[this,e]
    .exact .inr ⟨k,c,e,z.sameBut hs (i9 y c e)⟩
  .obtain⟨w',z⟩:=I.cell y c e;exact⟨w',z.sameBut hs (i9 y c e)⟩
  .obtain⟨e,n,ne,nf,d⟩:=I.pin p hp;exact⟨(hs.2 p.1 ne).trans e,n,ne,nf,d⟩
 .have oH:X.fn x=true:=by
   rcases hf with z|z
   .exact z
   .rw[z] at hk;cases hk
  obtain⟨c,hc⟩:=I.ok.has x (.inl hk);obtain⟨w',z⟩:=I.cell x c hc;refine wpAny_storeName_cell I.ok.kind hk hc z (λh' mC hs=>?_);obtain⟨oc,iQ,AXr⟩:=id z;refine h {s with heap:=h'} ⟨I.ok,I.os,I.bare,⟨λb o e n hb hx=>?_,λb o e n hb hx=>?_,I.AG.free,λb o e hx=>?_,I.AG.XS,I.AG.WO,I.AG.Wr⟩,⟨m,hn.sameBut hs (qk (i9 x c hc)),λj y v' e1 e2 e3=>?_⟩,λy c' e=>?_,I.free,I.Nb,λp hp=>?_,tracked ⟨oc,iQ,I.Nb x c hc⟩ hs,by simpa using I.len⟩ ⟨c,hs,.inr hc⟩
  .exact(hs.2 b (qK (p8 (qu e) (I.ok.ku x c oH hc)))).trans (I.AG.keep b o e n hb hx)
  .obtain⟨sl,e1⟩:=I.AG.slot b o e n hb hx;exact⟨sl,(hs.2 b (qK (p8 (qu e) (I.ok.ku x c oH hc)))).trans e1⟩
  .obtain⟨o',e1⟩:=I.AG.there b o e hx;exact⟨o',(hs.2 b (qK (p8 (qu e) (I.ok.ku x c oH hc)))).trans e1⟩
  .by_cases hj:j=i
   .subst hj;rw[hi] at e1;cases e1;rw[vW hiσ] at e2;cases e2;exact⟨u,r,.inr ⟨.inl hk,c,hc,mC⟩⟩
   .rw[wC (qk hj)] at e2;obtain⟨u',r',q⟩:=hl j y v' e1 e2 e3;refine⟨u',r',?_⟩;rcases q with q|⟨k,c',e,z'⟩
    .exact .inl q
    .refine .inr ⟨k,c',e,z'.sameBut hs ?_⟩;rintro rfl;exact hj (V4 hN e1 (I.ok.inj _ _ _ e hc▸hi))
  .by_cases hcc:c'=c
   .subst hcc;exact⟨_,mC⟩
   .obtain⟨w2,z2⟩:=I.cell y c' e;exact⟨w2,z2.sameBut hs hcc⟩
  .obtain⟨e,n,ne,nf,d⟩:=I.pin p hp;refine⟨(hs.2 p.1 ?_).trans e,n,ne,nf,d⟩;intro q;rw[q,iQ] at e;have q':oc=p.2:=j_ e;exact d w' (by rw[<-q'];exact AXr)
theorem ALG{M:zJ}{A:qN}{E : Δ -> Ω -> Prop}{i:Nat}{x:qf}{v:V}{u : Δ}{Q:Unit -> Ω -> Prop}(I:Inv X AB σ H s)(hN:X.N.Nodup)(hi:X.N[i]?=some x)(hx:Loc X.env.scope x)(r:RelV v u)
  (h:∀s',Inv X AB (σ.set i (some v)) H s'->Q () s') (hf:X.fn x=true\/X.env.scope.names.lookup x=some .local:=by first|exact .inl rfl|exact .inr rfl|assumption):p_ M A (storeName X.env x u) Q E s:=
 AJX I hN hi hx r (λs' I' _=>h s' I') hf
theorem Inv.AW6{s' : Ω}{ch:List Ξ}(I:Inv X AB σ H s)(ho:s'.os=s.os)(u:Un (dG X.stack) ch H H' s.heap s'.heap)(CC:Ot X.prog X.w H' s'.heap)(hg:yu s'.gens)
  (eW:∀b∈ch,(b∈X.ex\/X.Wt.heap.objs.size<=b)/\b≠X.env.locals/\(∀x c,X.env.cells.lookup x=some c->c≠b)/\∀p∈X.pn++AB,p.1≠b):Inv X AB σ H' s':=by
 obtain⟨h',g',d',t',o'⟩:=s';have e:o'=s.os:=ho;subst e;exact I.call (g':=g') (t':=t') (d':=d') u CC hg eW
end
abbrev XK:=Δ -> Option Ξ -> Hp->Prop
abbrev St:=List (Option V)
abbrev VK:=V->Hp->Prop
abbrev TE:=St->Hp->VK->Prop
abbrev TT:=St->Hp->(Bool->Hp->Prop)->Prop
abbrev TA:=St->Hp->(List V->Hp->Prop)->Prop
structure Ends where
 nx:St->Hp->Prop
 rt:VK
 bk:St->Hp->Prop:=λ_ _=>False
 ct:St->Hp->Prop:=λ_ _=>False
abbrev TS:=Ends->St->Hp->Prop
inductive EP(X:Cx)(AB:List (Ξ × sR))(σ:St)(Q:VK)(u : Δ)(s' : Ω):Prop
 |mk (v:V) (H':Hp):Inv X AB σ H' s'->RelV v u->Q v H'->EP X AB σ Q u s'
inductive TP(X:Cx)(AB:List (Ξ × sR))(σ:St)(Q:Bool->Hp->Prop)(b:Bool)(s' : Ω):Prop
 |mk (H':Hp):Inv X AB σ H' s'->Q b H'->TP X AB σ Q b s'
inductive AP(X:Cx)(AB:List (Ξ × sR))(σ:St)(Q:List V->Hp->Prop)(us:List Δ)(s' : Ω):Prop
 |mk (vs:List V) (H':Hp):Inv X AB σ H' s'->Vals vs us->Q vs H'->AP X AB σ Q us s'
inductive NP(X:Cx)(AB:List (Ξ × sR))(R:St->Hp->Prop)(s' : Ω):Prop
 |mk (σ':St) (H':Hp):Inv X AB σ' H' s'->R σ' H'->NP X AB R s'
inductive RP(X:Cx)(AB:List (Ξ × sR))(R:VK)(u : Δ)(s' : Ω):Prop
 |mk (v:V) (σ':St) (H':Hp):Inv X AB σ' H' s'->RelV v u->R v H'->RP X AB R u s'
def SP(X:Cx)(AB:List (Ξ × sR))(D:Ends)(f:Flow)(s' : Ω):Prop:=
 match f with
 |.next=>NP X AB D.nx s'
 |.brk=>NP X AB D.bk s'
 |.cont=>NP X AB D.ct s'
 |.ret u=>RP X AB D.rt u s'
def PE(X:Cx)(e:qU)(t:TE):Prop:=∀(AB:List (Ξ × sR)) (s : Ω) (σ:St) (H:Hp) (Q:VK),Inv X AB σ H s->t σ H Q->p_ (model X.prog X.w) X.A (eval e X.env) (EP X AB σ Q) X.xe s
def PT(X:Cx)(e:qU)(t:TT):Prop:=∀(AB:List (Ξ × sR)) (s : Ω) (σ:St) (H:Hp) (Q:Bool->Hp->Prop),Inv X AB σ H s->t σ H Q->p_ (model X.prog X.w) X.A (isTrue e X.env (eval e X.env)) (TP X AB σ Q) X.xe s
def PW(X:Cx)(e:qU)(t:TT):Prop:=∀(whole:zH Δ) (AB:List (Ξ × sR)) (s : Ω) (σ:St) (H:Hp) (Q:Bool->Hp->Prop),Inv X AB σ H s->t σ H Q->p_ (model X.prog X.w) X.A (isTrue e X.env whole) (TP X AB σ Q) X.xe s
theorem PW.pt{X:Cx}{e:qU}{t:TT}(h:PW X e t):PT X e t:=h _
def PA(X:Cx)(es:List qU)(t:TA):Prop:=∀(pos:Pos) (AB:List (Ξ × sR)) (s : Ω) (σ:St) (H:Hp) (Q:List V->Hp->Prop),Inv X AB σ H s->t σ H Q->p_ (model X.prog X.w) X.A (spliced (backTo pos (qy es X.env))) (AP X AB σ Q) X.xe s
def PS(X:Cx)(st:qX)(t:TS):Prop:=∀(AB:List (Ξ × sR)) (s : Ω) (σ:St) (H:Hp) (D:Ends),Inv X AB σ H s->t D σ H->p_ (model X.prog X.w) X.A (exec st X.env) (SP X AB D) X.xe s
def aL(X:Cx)(st:List qX)(t:TS):Prop:=∀(AB:List (Ξ × sR)) (s : Ω) (σ:St) (H:Hp) (D:Ends),Inv X AB σ H s->t D σ H->p_ (model X.prog X.w) X.A (execs st X.env) (SP X AB D) X.xe s
theorem EC{α:Type}{t:zH α}{Q Q':α -> Ω -> Prop}{M:zJ}{A:qN}{E : Δ -> Ω -> Prop}{s : Ω}(h:p_ M A t Q E s)(hQ:∀a s,Q a s->Q' a s):p_ M A t Q' E s:=rQ h hQ λ_ _ x=>x
section
variable {X:Cx}
theorem bin{a b:qU}{ta tb:TE}(ha:PE X a ta)(hb:PE X b tb){AB:List (Ξ × sR)}{s : Ω}{σ:St}{H:Hp}{R:V->V->Hp->Prop}(I:Inv X AB σ H s)(h:ta σ H λx H1=>tb σ H1 λy H2=>R x y H2)
  {α:Type}{Q:α -> Ω -> Prop}{f : Δ -> Δ -> zH α}
  (hf:∀v u s2 x y H2,Inv X AB σ H2 s2->RelV x v->RelV y u->R x y H2->p_ (model X.prog X.w) X.A (f v u) Q X.xe s2):
  p_ (model X.prog X.w) X.A (eval a X.env) (λv s₁=>p_ (model X.prog X.w) X.A (eval b X.env) (λu s₂=>p_ (model X.prog X.w) X.A (f v u) Q X.xe s₂) X.xe s₁) X.xe s:=by
 refine EC (ha AB s σ H _ I h) λv s1 ⟨x,H1,I1,r1,q1⟩=>?_;refine EC (hb AB s1 σ H1 _ I1 q1) λu s2 ⟨y,H2,I2,r2,q2⟩=>?_;exact hf v u s2 x y H2 I2 r1 r2 q2
def lF(o:Option (Option V))(k:V->Prop):Prop:=match o with
 |some (some v)=>k v
 |_=>False
theorem Tz{o:Option (Option V)}{k:V->Prop}(h:lF o k):∃v,o=some (some v)/\k v:=by
 match o,h with
 |some (some v),h=>exact⟨v,rfl,h⟩
theorem Tw{o:Option (Option V)}{k:V->Prop}{v:V}(e:o=some (some v))(h:k v):lF o k:=by subst e;exact h
def app(vs:List V):List V->List V
 |[]=>vs
 |d::ds=>vs++d::ds
theorem Ug{vs:List V}:∀{ds:List V},app vs ds=vs++ds
 |[]=>(rC vs).symm
 |_::_=>rfl
def Sf(i:Nat):TE:=λσ H Q=>lF σ[i]? λv=>Q v H
def tC(v:V):TE:=λ_ H Q=>Q v H
theorem AU5{i:Nat}{x:qf}{pos:Pos}(hN:X.N[i]?=some x)(hv:k6 X.env.scope x)(hd:(x==("__debug__" : qf))=false:=by decide)(WK:(x==("__classdict__" : qf))=false:=by decide):PE X (.Name x pos) (Sf i):=by
 intro AB s σ H Q I h;obtain⟨v,e,h⟩:=Tz h;obtain⟨m,hn,hl⟩:=I.loc;obtain⟨u,r,l⟩:=hl i x v hN e hv;have fin:EP X AB σ Q u s:=⟨v,H,I,r,h⟩
 rcases l with⟨hk,hm⟩|⟨hk,c,hc,hcell⟩
 .exact ze (wpAny_loadName_local I.ok.kind hk hn hm fin) hd
 .rcases hk with hk|hk
  .exact ze (wpAny_loadName_cell I.ok.kind hk hc hcell fin) hd
  .exact ze (wpAny_loadName_free I.ok.kind hk hc hcell fin WK) hd
theorem Ac{i j pos}:PE X (.Constant (.int i) j pos) (tC (.int i)):=λ_ _ _ H _ I h=>wpAny_Constant_int ⟨.int i,H,I.tok _,⟨_,rfl⟩,h⟩
theorem V0{b j pos}:PE X (.Constant (.bool b) j pos) (tC (.bl b)):=λ_ _ _ H _ I h=>Constant_bool ⟨.bl b,H,I,rfl,h⟩
theorem ZY{j pos}:PE X (.Constant .none j pos) (tC .Es):=λ_ _ _ H _ I h=>yG ⟨.Es,H,I,rfl,h⟩
def Gl(X:Cx)(x:qf):Prop:=X.env.kindOf x=some .globalImplicit
theorem S3{E : Δ -> Ω -> Prop}{AB:List (Ξ × sR)}{s : Ω}{σ:St}{H:Hp}{x:qf}{u : Δ}{pos:Pos}{Q : Δ -> Ω -> Prop}(I:Inv X AB σ H s)(hg:Gl X x)(hm:X.mg x=some u)(h:Q u s)
  (hd:(x==("__debug__" : qf))=false:=by decide):p_ (model X.prog X.w) X.A (eval (.Name x pos) X.env) Q E s:=
 Calls.Name_function_global I.ok.kind hg (Calls.loadGlobal_global (by rw[I.ok.glob];exact I.mod.glob.keeps I.bk) hm h) hd
theorem Qe{E : Δ -> Ω -> Prop}{AB:List (Ξ × sR)}{s : Ω}{σ:St}{H:Hp}{x:qf}{u : Δ}{pos:Pos}{Q : Δ -> Ω -> Prop}(I:Inv X AB σ H s)(hg:Gl X x)(hm:X.mg x=none)(hv:bootBuiltins x=some u)(h:Q u s)
  (hn:x ≠ "__name__":=by decide) (hd:(x==("__debug__" : qf))=false:=by decide):p_ (model X.prog X.w) X.A (eval (.Name x pos) X.env) Q E s:=by
 obtain⟨mb,h1,h2⟩:=I.mod.blt;exact Calls.Name_function_global I.ok.kind hg (Calls.loadGlobal_builtin (by rw[I.ok.glob];exact I.mod.glob.keeps I.bk) hm (by rw[I.ok.blt];exact h1.keeps I.bk) ((h2 x hn).trans hv) h) hd
theorem AOO{x:qf}{v:V}{u : Δ}{pos:Pos}(hg:Gl X x)(hm:X.mg x=some u)(r:RelV v u)(hd:(x==("__debug__" : qf))=false:=by decide):PE X (.Name x pos) (tC v):=λ_ _ _ H _ I h=>S3 I hg hm ⟨v,H,I,r,h⟩ hd
variable {a b:qU}{ta tb:TE}{pos:Pos}
def PC(X:Cx)(op:zC)(a b:qU)(t:TE):Prop:=
 ∀(AB:List (Ξ × sR)) (s : Ω) (σ:St) (H:Hp) (Q:VK),Inv X AB σ H s->t σ H Q ->
  p_ (model X.prog X.w) X.A (eval a X.env) (λv s₁=>p_ (model X.prog X.w) X.A (eval b X.env) (λu s₂=>p_ (model X.prog X.w) X.A (compareOp op v u) (EP X AB σ Q) X.xe s₂) X.xe s₁) X.xe s
theorem V5(b:qU){op:zC}(h:op≠.In)(h2:op≠.NotIn):behindInMarks op b=false:=by
 have e1:(op==CmpOp.In)=false:=by cases op<;>first|rfl|exact absurd rfl h
 have e2:(op==CmpOp.NotIn)=false:=by cases op<;>first|rfl|exact absurd rfl h2
 cases b with
 |Set l k p=>show(k==0&&(op==CmpOp.In||op==CmpOp.NotIn)&&l.all (constantsAlone 8))=false;rw[e1,e2];cases (k==0)<;>rfl
 |_=>rfl
def AV4(ta:TE):TE:=λσ H Q=>ta σ H λx H1=>Q (.bl (decide (x=.Es))) H1
def AUA(ta:TE):TE:=λσ H Q=>ta σ H λx H1=>Q (.bl (!decide (x=.Es))) H1
theorem RelV.ALr{x:V}{v : Δ}(r:RelV x v):(v==uA)=decide (x=.Es):=by
 cases x with
 |Es=>cases r;rfl
 |bl _=>cases r;rfl
 |int _=>obtain⟨t,rfl⟩:=r;rfl
 |str _=>obtain⟨t,rfl⟩:=r;rfl
 |Yn _=>obtain⟨t,rfl⟩:=r;rfl
 |kX _=>obtain⟨t,rfl⟩:=r;rfl
 |ref _=>cases r;rfl
 |ty _=>cases r;rfl
theorem ARD{j pos'}(ha:PE X a ta):PC X .Is a (.Constant .none j pos') (AV4 ta):=by intro AB s σ H Q I h;refine EC (ha AB s σ H _ I h) λv s1 ⟨x,H1,I1,r1,q1⟩=>?_;exact yG (is_none_gen ⟨.bl _,H1,I1,by rw[r1.ALr];rfl,q1⟩)
theorem AOP{j pos'}(ha:PE X a ta):PC X .IsNot a (.Constant .none j pos') (AUA ta):=by intro AB s σ H Q I h;refine EC (ha AB s σ H _ I h) λv s1 ⟨x,H1,I1,r1,q1⟩=>?_;exact yG (isnot_none_gen ⟨.bl _,H1,I1,by rw[r1.ALr];rfl,q1⟩)
def tB(t:TE):TT:=λσ H Q=>t σ H λx H1=>∃c,x=.bl c/\Q c H1
theorem ARB{op:zC}{t:TE}(h:PC X op a b t)(h1:behindInMarks op b=false:=by first|exact V5 _ (by decide) (by decide)|rfl):PE X (.Compare a [op] [b] pos) t:=λAB s σ H Q I hw=>wpAny_Compare1 (h AB s σ H Q I hw) h1
theorem KI{op:zC}{t:TE}(h:PC X op a b t)(h1:behindInMarks op b=false:=by first|exact V5 _ (by decide) (by decide)|rfl):PT X (.Compare a [op] [b] pos) (tB t):=by intro AB s σ H Q I hw;refine wpAny_isTrue_Compare1 (EC (h AB s σ H _ I hw) λv s1 h1=>EC h1 λu s2 h2=>EC h2 λc s3 ⟨x,H1,I1,r1,q1⟩=>?_) h1;obtain⟨d,rfl,q⟩:=q1;cases r1;exact rR ⟨H1,I1,q⟩
theorem CD{e:qU}{t:TE}(h:PE X e t)(he:∀whole,isTrue e X.env whole=(do let v <-whole;standAt e.pos;holding [v] (truthy v)):=by intro _;rfl):PT X e (tB t):=by intro AB s σ H Q I hw;refine isTrue_plain (EC (h AB s σ H _ I hw) λv s1 ⟨x,H1,I1,r1,q1⟩=>?_) (he _);obtain⟨d,rfl,q⟩:=q1;cases r1;exact rR ⟨H1,I1,q⟩
variable {tA lA:TT}{rest:List qU}
def AV6(t u:TT):TT:=λσ H Q=>t σ H λc H1=>if c=true then u σ H1 Q else Q false H1
def tOr(t u:TT):TT:=λσ H Q=>t σ H λc H1=>if c=true then Q true H1 else u σ H1 Q
def AVz(t:TT):TT:=λσ H Q=>t σ H λc H1=>Q (!c) H1
theorem AOI(ha:PT X a tA):PW X (.BoolOp .And [a] pos) tA:=by
 intro wh AB s σ H Q I h;refine isTrue_and (EC (ha AB s σ H Q I h) λc s1 e=>?_);cases c with
 |true=>exact isTrue_and_nil e
 |false=>exact e
theorem O6(ha:PT X a tA):PW X (.BoolOp .Or [a] pos) tA:=by
 intro wh AB s σ H Q I h;refine isTrue_or (EC (ha AB s σ H Q I h) λc s1 e=>?_);cases c with
 |false=>exact isTrue_or_nil e
 |true=>exact e
theorem AQz(ha:PT X a tA)(hb:PW X (.BoolOp .And (b::rest) pos) lA):PW X (.BoolOp .And (a::b::rest) pos) (AV6 tA lA):=by
 intro wh AB s σ H Q I h;refine isTrue_and (EC (ha AB s σ H _ I h) λc s1 ⟨H1,I1,q1⟩=>?_);cases c with
 |true=>exact hb wh AB s1 σ H1 Q I1 q1
 |false=>exact⟨H1,I1,q1⟩
theorem Pq(ha:PT X a tA)(hb:PW X (.BoolOp .Or (b::rest) pos) lA):PW X (.BoolOp .Or (a::b::rest) pos) (tOr tA lA):=by
 intro wh AB s σ H Q I h;refine isTrue_or (EC (ha AB s σ H _ I h) λc s1 ⟨H1,I1,q1⟩=>?_);cases c with
 |true=>exact⟨H1,I1,q1⟩
 |false=>exact hb wh AB s1 σ H1 Q I1 q1
theorem Gf(ha:PT X a tA):PT X (.UnaryOp .Not a pos) (AVz tA):=by intro AB s σ H Q I h;exact isTrue_not (EC (ha AB s σ H (λc H1=>Q (!c) H1) I h) λ_ _ ⟨H1,I1,q1⟩=>⟨H1,I1,q1⟩)
def AUG(ta tb:TE):TE:=λσ H Q=>ta σ H λx H1=>∃c,x=.bl c/\if c=true then tb σ H1 Q else Q (.bl false) H1
def AVy(ta tb:TE):TE:=λσ H Q=>ta σ H λx H1=>∃c,x=.bl c/\if c=true then Q (.bl true) H1 else tb σ H1 Q
def AT9(ta:TE):TE:=λσ H Q=>ta σ H λx H1=>∃c,x=.bl c/\Q (.bl (!c)) H1
theorem Vw{op}{t:TE}(h:PE X a t):PE X (.BoolOp op [a] pos) t:=λAB s σ H Q I hw=>BoolOp_one (h AB s σ H Q I hw)
theorem Xs(ha:PE X a ta)(hb:PE X (.BoolOp .And (b::rest) pos) tb):PE X (.BoolOp .And (a::b::rest) pos) (AUG ta tb):=by
 intro AB s σ H Q I h;refine BoolOp_and (EC (ha AB s σ H _ I h) λv s1 ⟨x,H1,I1,r1,q1⟩=>?_);obtain⟨c,rfl,q1⟩:=q1;cases r1;refine rR ?_;cases c with
 |true=>exact hb AB s1 σ H1 Q I1 q1
 |false=>exact⟨.bl false,H1,I1,rfl,q1⟩
theorem AUL(ha:PE X a ta)(hb:PE X (.BoolOp .Or (b::rest) pos) tb):PE X (.BoolOp .Or (a::b::rest) pos) (AVy ta tb):=by
 intro AB s σ H Q I h;refine BoolOp_or (EC (ha AB s σ H _ I h) λv s1 ⟨x,H1,I1,r1,q1⟩=>?_);obtain⟨c,rfl,q1⟩:=q1;cases r1;refine rR ?_;cases c with
 |false=>exact hb AB s1 σ H1 Q I1 q1
 |true=>exact⟨.bl true,H1,I1,rfl,q1⟩
theorem AU6(ha:PE X a ta):PE X (.UnaryOp .Not a pos) (AT9 ta):=by intro AB s σ H Q I h;refine UnaryOp_ (EC (ha AB s σ H _ I h) λv s1 ⟨x,H1,I1,r1,q1⟩=>?_);obtain⟨c,rfl,q1⟩:=q1;cases r1;exact not_of (rR ⟨.bl (!c),H1,I1,rfl,q1⟩)
end
def Er(K : ξ)(H:Hp)(a : Ξ)(xs:List V):Prop:=
 Rd H a (.lst xs) \/
  ∃(o:sR) (Bc:Array Δ) (n:Nat),K.lookup a=some o/\o.cls=.type "list" /\ o.dict=none/\o.data=.seq Bc n/\Bc.size<=pY/\Vals xs Bc.toList
def J1(K : ξ)(H:Hp)(a : Ξ)(xs:List V):Prop:=
 Rd H a (.tup xs) \/
  ∃(o:sR) (Bc:Array Δ) (n:Nat),K.lookup a=some o/\o.cls=.type "tuple" /\ o.data=.seq Bc n/\Bc.size<=pY/\Vals xs Bc.toList
def AYW: Δ -> Option V
 |.none=>some .Es
 |.bool b=>some (.bl b)
 |.int i _=>some (.int i)
 |.str x _=>some (.str x)
 |.bytes b _=>some (.Yn b)
 |.float b _=>some (.kX b)
 |.ref a=>some (.ref a)
 |.type n=>some (.ty n)
 |_=>none
theorem RelV.abs{x:V}{u : Δ}(r:RelV x u):AYW u=some x:=by
 cases x with
 |Es=>cases r;rfl
 |bl _=>cases r;rfl
 |int _=>obtain⟨t,rfl⟩:=r;rfl
 |str _=>obtain⟨t,rfl⟩:=r;rfl
 |Yn _=>obtain⟨t,rfl⟩:=r;rfl
 |kX _=>obtain⟨t,rfl⟩:=r;rfl
 |ref _=>cases r;rfl
 |ty _=>cases r;rfl
theorem RelV.inj{x y:V}{u : Δ}(r:RelV x u)(q:RelV y u):x=y:=j_ (r.abs.symm.trans q.abs)
theorem Vals.inj:∀{xs ys:List V}{us:List Δ},Vals xs us->Vals ys us->xs=ys
 |_,_,_,.nil,.nil=>rfl
 |_,_,_,.cons r t,.cons r' t'=>by rw[r.inj r',Vals.inj t t']
section
variable {X:Cx}{AB:List (Ξ × sR)}{σ:St}{H:Hp}{s : Ω}{a : Ξ}{xs ys:List V}
theorem Er.of{K : ξ}(h:H a=some (.lst xs)):Er K H a xs:=.inl (.inl h)
theorem J1.of{K : ξ}(h:H a=some (.tup xs)):J1 K H a xs:=.inl (.inl h)
theorem Inv.list(I:Inv X AB σ H s)(h:Er X.K H a xs):∃Bc:List Δ,Vals xs Bc/\PlainL s.heap a Bc.toArray/\xs.length<=pY:=by
 rcases h with h|⟨o,Bc,n,hk,hc,hd,hs,hz,r⟩
 .obtain⟨z,Bc,n,r,e⟩:=h.ok I.CC;exact⟨Bc,r,⟨_,n,e,rfl,rfl,rfl⟩,z⟩
 .refine⟨Bc.toList,r,⟨o,n,I.YF a o hk,hc,hd,by simpa using hs⟩,?_⟩;have e:=r.length;simp only[qw] at e;omega
theorem Inv.tuple(I:Inv X AB σ H s)(h:J1 X.K H a xs):∃Bc:List Δ,Vals xs Bc/\zM s.heap a Bc.toArray/\xs.length<=pY:=by
 rcases h with h|⟨o,Bc,n,hk,hc,hs,hz,r⟩
 .obtain⟨z,Bc,r,p⟩:=h.ok I.CC;exact⟨Bc,r,p,z⟩
 .refine⟨Bc.toList,r,⟨o,I.YF a o hk,hc,n,by simpa using hs⟩,?_⟩;have e:=r.length;simp only[qw] at e;omega
theorem Inv.AL3(I:Inv X AB σ H s)(h:Er X.K H a xs)(h':Er X.K H a ys):xs=ys:=by
 obtain⟨Bc,r,⟨o,n,e,_,_,d⟩,_⟩:=I.list h;obtain⟨its',r',⟨o',n',e',_,_,d'⟩,_⟩:=I.list h';rw[e] at e';cases e';rw[d] at d';injection d' with d1 _;have:Bc=its':=by simpa using congrArg yR d1
 subst this;exact r.inj r'
theorem Inv.APA(I:Inv X AB σ H s)(h:J1 X.K H a xs)(h':J1 X.K H a ys):xs=ys:=by
 obtain⟨Bc,r,⟨o,e,_,n,d⟩,_⟩:=I.tuple h;obtain⟨its',r',⟨o',e',_,n',d'⟩,_⟩:=I.tuple h';rw[e] at e';cases e';rw[d] at d';injection d' with d1 _;have:Bc=its':=by simpa using congrArg yR d1
 subst this;exact r.inj r'
end
abbrev Cx.Wo(X:Cx)(E : Δ -> Ω -> Prop):Cx:={X with xe:=E}
abbrev Cx.eB(X:Cx):Cx:=X.Wo λ_ _=>False
theorem Cx.Ok.Wo{X:Cx}(ok:X.Ok)(E : Δ -> Ω -> Prop):(X.Wo E).Ok:=⟨ok.mod,ok.kind,ok.glob,ok.blt,ok.above,ok.inj,ok.has,ok.ku,ok.hd,ok.frames,ok.lD,ok.mJ,ok.bs,ok.bV,ok.cF,ok.dJ,ok.TM,ok.fX⟩
theorem Cx.Ok.QB{X:Cx}{E : Δ -> Ω -> Prop}(ok:(X.Wo E).Ok):X.Ok:=⟨ok.mod,ok.kind,ok.glob,ok.blt,ok.above,ok.inj,ok.has,ok.ku,ok.hd,ok.frames,ok.lD,ok.mJ,ok.bs,ok.bV,ok.cF,ok.dJ,ok.TM,ok.fX⟩
section
variable {X:Cx}{AB:List (Ξ × sR)}{σ:St}{H:Hp}{s : Ω}{E : Δ -> Ω -> Prop}
theorem Inv.Wo(I:Inv X AB σ H s)(E : Δ -> Ω -> Prop):Inv (X.Wo E) AB σ H s:=⟨I.ok.Wo E,I.os,I.bare,I.AG,I.loc,I.cell,I.free,I.Nb,I.pin,I.CC,I.len⟩
theorem Inv.QB(I:Inv (X.Wo E) AB σ H s):Inv X AB σ H s:=⟨I.ok.QB,I.os,I.bare,I.AG,I.loc,I.cell,I.free,I.Nb,I.pin,I.CC,I.len⟩
theorem SP.QB{D:Ends}{f:Flow}{s' : Ω}(h:SP (X.Wo E) AB D f s'):SP X AB D f s':=by
 cases f with
 |next=>obtain⟨σ',H',I,q⟩:=h;exact⟨σ',H',I.QB,q⟩
 |brk=>obtain⟨σ',H',I,q⟩:=h;exact⟨σ',H',I.QB,q⟩
 |cont=>obtain⟨σ',H',I,q⟩:=h;exact⟨σ',H',I.QB,q⟩
 |ret u=>obtain⟨v,σ',H',I,r,q⟩:=h;exact⟨v,σ',H',I.QB,r,q⟩
theorem aL.eB{st:List qX}{t:TS}(h:aL X.eB st t):aL X st t:=λAB s σ H D I hw=>rQ (h AB s σ H D (I.Wo _) hw) (λ_ _ q=>q.QB) λ_ _ z=>rL z
end
section
variable {X:Cx}{st:qX}{rest:List qX}{t u:TS}{e:qU}{te:TE}{pos:Pos}
def AUB:TS:=λD σ H=>D.nx σ H
def gh(t u:TS):TS:=λD σ H=>t {D with nx:=u D} σ H
theorem Ax:aL X [] AUB:=λ_ _ σ H _ I h=>wG ⟨σ,H,I,h⟩
theorem AE(h1:PS X st t)(h2:aL X rest u):aL X (st::rest) (gh t u):=by
 intro AB s σ H D I h;refine wpAny_execs_cons (EC (h1 AB s σ H {D with nx:=u D} I h) λf s1 q=>?_);cases f with
 |next=>obtain⟨σ',H',I',q⟩:=q;exact h2 AB s1 σ' H' D I' q
 |ret v=>exact q
 |brk=>exact q
 |cont=>exact q
theorem AI(h1:PS X st t):aL X [st] t:=by
 intro AB s σ H D I h;refine wpAny_execs_cons (EC (h1 AB s σ H D I h) λf s1 q=>?_);cases f with
 |next=>exact wG q
 |ret v=>exact q
 |brk=>exact q
 |cont=>exact q
theorem Inv.quiet{AB:List (Ξ × sR)}{σ:St}{H:Hp}{s : Ω}(I:Inv X AB σ H s):interactive X.env=false:=by simp[interactive,I.ok.kind]
def AUD(te:TE):TS:=λD σ H=>te σ H λ_ H1=>D.nx σ H1
theorem FN(he:PE X e te)(hs:swapsWith e none pos.line X.env=pure false:=by rfl):PS X (.Expr e pos) (AUD te):=by intro AB s σ H D I h;exact wpAny_Expr_any (EC (he AB s σ H _ I h) λv s1 ⟨x,H1,I1,r1,q1⟩=>⟨σ,H1,I1,q1⟩) I.quiet hs
def AVx(te:TE):TS:=λD σ H=>te σ H D.rt
theorem AV(he:PE X e te):PS X (.Return (some e) pos) (AVx te):=by intro AB s σ H D I h;exact wpAny_Return_some (EC (he AB s σ H _ I h) λv s1 ⟨x,H1,I1,r1,q1⟩=>⟨x,σ,H1,I1,r1,q1⟩)
def gm(c:TT)(t u:TS):TS:=λD σ H=>c σ H λb H1=>if b=true then t D σ H1 else u D σ H1
theorem Bv{c:qU}{a b:List qX}{tc:TT}(hc:PT X c tc)(ha:aL X a t)(hb:aL X b u):PS X (.If c a b pos) (gm tc t u):=by
 intro AB s σ H D I h;refine wpAny_If (EC (hc AB s σ H _ I h) λd s1 ⟨H1,I1,q1⟩=>?_);cases d with
 |true=>exact ha AB s1 σ H1 D I1 q1
 |false=>exact hb AB s1 σ H1 D I1 q1
end
abbrev TG:=V->St->Hp->(St->Hp->Prop)->Prop
def PG(X:Cx)(target:qU)(t:TG):Prop:=
 ∀(AB:List (Ξ × sR)) (s : Ω) (σ:St) (H:Hp) (v:V) (u : Δ) (Q:St->Hp->Prop),Inv X AB σ H s->RelV v u->t v σ H Q ->
  p_ (model X.prog X.w) X.A (assign target X.env u) (λ_ s'=>NP X AB Q s') X.xe s
section
variable {X:Cx}{pos:Pos}
def WN(i:Nat):TG:=λv σ H Q=>Q (σ.set i (some v)) H
theorem BU{i:Nat}{x:qf}(hN:X.N.Nodup)(hi:X.N[i]?=some x)(hx:Loc X.env.scope x)(hf:X.fn x=true\/X.env.scope.names.lookup x=some .local:=by first|exact .inl rfl|exact .inr rfl|assumption):PG X (.Name x pos) (WN i):=by intro AB s σ H v u Q I r h;exact wpAny_assign_Name (ALG I hN hi hx r (λs' I'=>⟨_,H,I',h⟩) hf)
def gw(te:TE)(g:TG):TS:=λD σ H=>te σ H λx H1=>g x σ H1 D.nx
theorem Al{i:Nat}{x:qf}{e:qU}{te:TE}{pos':Pos}(hN:X.N.Nodup)(hi:X.N[i]?=some x)(hx:Loc X.env.scope x)(he:PE X e te)(hs:swapsWith e (some (.Name x pos')) pos.line X.env=pure false:=by rfl)(hf:X.fn x=true\/X.env.scope.names.lookup x=some .local:=by first|exact .inl rfl|exact .inr rfl|assumption):
  PS X (.Assign [.Name x pos'] e pos) (gw te (WN i)):=by
 intro AB s σ H D I h;refine wpAny_Assign_Name (EC (he AB s σ H _ I h) λv s1 ⟨y,H1,I1,r1,q1⟩=>?_) hs;exact ALG I1 hN hi hx r1 (λs2 I2=>⟨_,H1,I2,q1⟩) hf
def AQX(c:TT)(tb:TS):TS:=λD σ H=>∃W:Nat->St->Hp->Prop,(∃m,W m σ H)/\∀m σ H,W m σ H ->
 c σ H λb H1=>if b=true then∃N:St->Hp->Prop,(∀σ' H',N σ' H'->∃m',m'<m/\W m' σ' H')/\tb {D with nx:=N,ct:=N,bk:=D.nx} σ H1 else D.nx σ H1
theorem Vr{c:qU}{body:List qX}{tc:TT}{tb:TS}(hp:PassesOwn (model X.prog X.w) X.A X.env X.xe)(hc:PT X c tc)(hb:aL X body tb):PS X (.While c body [] pos) (AQX tc tb):=by
 intro AB s σ H D I h;obtain⟨W,⟨m0,w0⟩,turn⟩:=h;refine wpAny_While (codeAny_whileLoop (λn s'=>NP X AB (W n) s') ?_ m0 ⟨σ,H,I,w0⟩);rintro n s1 ⟨σ1,H1,I1,w1⟩;refine uh hp (EC (hc AB s1 σ1 H1 _ I1 (turn n σ1 H1 w1)) λb s2 ⟨H2,I2,q2⟩=>?_);cases b with
 |true=>
  obtain⟨N,hN,q2⟩:=q2;rw[η rfl];refine uh hp (EC (hb AB s2 σ1 H2 _ I2 q2) λf s3 q3=>?_);cases f with
  |next=>obtain⟨σ3,H3,I3,n3⟩:=q3;obtain⟨m',hm,w3⟩:=hN σ3 H3 n3;exact⟨m',hm,σ3,H3,I3,w3⟩
  |cont=>obtain⟨σ3,H3,I3,n3⟩:=q3;obtain⟨m',hm,w3⟩:=hN σ3 H3 n3;exact⟨m',hm,σ3,H3,I3,w3⟩
  |brk=>exact q3
  |ret v=>exact q3
 |false=>rw[ζ Λ];exact wG ⟨σ1,H2,I2,q2⟩
end
structure It where
 go:Nat->Hp->Prop
 er:Nat->Hp->V->Hp->Prop
 stop:Nat->Hp->Prop
def Ri(X:Cx)(AB:List (Ξ × sR))(H:Hp)(b : Ξ):Prop:=H b=none/\b≠X.env.locals/\b∉X.fs/\(b∈X.ex\/X.Wt.heap.objs.size<=b)/\(∀x c,X.env.cells.lookup x=some c->c≠b)/\∀p∈X.pn++AB,p.1≠b
theorem Inv.bJ{X:Cx}{AB:List (Ξ × sR)}{σ:St}{H H':Hp}{s : Ω}{b : Ξ}(I:Inv X AB σ H s)(hb:s.heap.objs.size<=b)(hn:H' b=none):Ri X AB H' b:=by
 refine⟨hn,xR (p8 I.lt hb),I.AXZ hb,.inr (a_ I.sz hb),λx c e z=>?_,λp hp z=>?_⟩
 .obtain⟨v,q⟩:=I.cell x c e;exact absurd (p8 q.lt (by rw[z];exact hb)) (r_ _)
 .exact absurd (p8 (qu (I.pin p hp).1) (by rw[z];exact hb)) (r_ _)
structure Turn(P:pQ)(w:qt)(K : ξ)(tg:qU)(J:It)(fp:List Ξ)(it : Ξ)(tn:Nat->qM->Prop):Prop where
 mem:it∈fp
 obj:∀i h,tn i h->∀b∈fp,∃o,h.get? b=some o/\∀v,o.data≠.cell v
 keep:∀i h h',tn i h->(∀b∈fp,∀o,h.get? b=some o->h'.get? b=some o)->tn i h'
 item:∀(X:Cx),X.prog=P->X.w=w->X.K=K->X.calm=true->∀(i:Nat) (AB:List (Ξ × sR)) (s : Ω) (σ:St) (H:Hp) (E : Δ -> Ω -> Prop),Inv X AB σ H s->(∀b∈fp,Ri X AB H b)->tn i s.heap->J.go i H ->
  p_ (model P w) X.A (pyNext (.ref it)) (λr s1=>∃u,r=some u /\
   p_ (model P w) X.A (letOwnedTupleGo tg (.ref it) u) (λ_ s2=>∃x H',Inv X AB σ H' s2/\RelV x u/\J.er i H x H'/\tn (i+1) s2.heap/\∀b∈fp,H' b=none) E s1) E s
 done:∀(X:Cx),X.prog=P->X.w=w->X.K=K->X.calm=true->∀(i:Nat) (AB:List (Ξ × sR)) (s : Ω) (σ:St) (H:Hp) (E : Δ -> Ω -> Prop),Inv X AB σ H s->(∀b∈fp,Ri X AB H b)->tn i s.heap->J.stop i H ->
  p_ (model P w) X.A (pyNext (.ref it)) (λr s1=>r=none/\Inv X AB σ H s1) E s
 self:∀(A:qN) (i:Nat) (s : Ω) (Q : Δ -> Ω -> Prop) (E : Δ -> Ω -> Prop),tn i s.heap->Q (.ref it) s->p_ (model P w) A (pyIter (.ref it)) Q E s
abbrev TI:=St->Hp->(It->Hp->Prop)->Prop
inductive mT(X:Cx)(AB:List (Ξ × sR))(σ:St)(tg:qU)(R:It->Hp->Prop)(lW : Δ)(s2 : Ω):Prop
 |mk (it : Ξ) (fp:List Ξ) (tn:Nat->qM->Prop) (J:It) (H':Hp):lW=.ref it->Inv X AB σ H' s2->Turn X.prog X.w X.K tg J fp it tn->tn 0 s2.heap->(∀b∈fp,Ri X AB H' b)->R J H'->mT X AB σ tg R lW s2
def PI(X:Cx)(tg iter:qU)(wi:TI):Prop:=
 ∀(AB:List (Ξ × sR)) (s : Ω) (σ:St) (H:Hp) (R:It->Hp->Prop),Inv X AB σ H s->wi σ H R ->
  p_ (model X.prog X.w) X.A (eval iter X.env) (λv s1=>p_ (model X.prog X.w) X.A (pyIter v) (mT X AB σ tg R) X.xe s1) X.xe s
theorem WM{M:zJ}{A:qN}{E : Δ -> Ω -> Prop}{s : Ω}{tg:qU}{it : Ξ}{u : Δ}{o:sR}{n:String}{vs:Array Δ}{Q:Unit -> Ω -> Prop}(ho:s.heap.get? it=some o)(hc:o.cls=.type n)(hd:o.data=.fields vs)
  (hn:["enumerate","zip","dict_itemiterator","dict_reverseitemiterator","odict_iterator","itertools.zip_longest","itertools.pairwise"].contains n=false) (hQ:Q () s):p_ M A (letOwnedTupleGo tg (.ref it) u) Q E s:=by
 unfold letOwnedTupleGo;cases tg<;>first
  |exact pX hQ
  |(cases u<;>first
    |exact pX hQ
    |(refine c_ (wpAny_load ho ?_)
      rw[hc,hd];show p_ M A (if (["enumerate","zip","dict_itemiterator","dict_reverseitemiterator","odict_iterator","itertools.zip_longest","itertools.pairwise"].contains n&&vs[0]?==some (rawInt _))=true then _ else _) Q E s;rw[ζ (by intro h;rw[hn,sZ] at h;cases h)];exact pX hQ))
def dZ(K : ξ)(a : Ξ):It:=⟨λi H=>∃xs x,Er K H a xs/\xs[i]?=some x,λi H x H'=>H'=H/\∀xs,Er K H a xs->xs[i]?=some x,λi H=>∃xs,Er K H a xs/\xs.length<=i⟩
def jD(K : ξ)(a : Ξ):It:=⟨λi H=>∃xs x,J1 K H a xs/\xs[i]?=some x,λi H x H'=>H'=H/\∀xs,J1 K H a xs->xs[i]?=some x,λi H=>∃xs,J1 K H a xs/\xs.length<=i⟩
def mU(lo:Int)(n:Nat):It:=⟨λi _=>i<n,λi H x H'=>H'=H/\x=.int (lo+i),λi _=>n<=i⟩
theorem AO8{P:pQ}{w:qt}{K : ξ}{tg:qU}(a it : Ξ):Turn P w K tg (dZ K a) [it] it (λi h=>h.IsListIter it a i) where
 mem:=by simp
 obj:=λi h st b hb=>by
  have e:b=it:=by simpa using hb
  subst e;obtain⟨o,e,c,d⟩:=st;exact⟨o,e,λv z=>by rw[d] at z;cases z⟩
 keep:=λi h h' st k=>st.at λo e=>k it (by simp) o e
 item:=by intro X hP hw hK hc i AB s σ H E I hf st hg;subst hP hw hK;obtain⟨xs,x,hq,hx⟩:=hg;obtain⟨Bc,rv,p,hz⟩:=I.list hq;obtain⟨u,hu,ru⟩:=rv.get hx;obtain⟨f0,f1,f2,f3,f4,f5⟩:=hf it (by simp);refine wpAny_pyNext_list_item st p.isList (x:=u) (by simpa using hu) λh' Si sb=>?_;have I1:Inv X AB σ H {s with heap:=h'}:=I.turned (t':=s.toks) (λb o hb e=>(sb.2 b hb).trans e) f0 f1 f3 f4 f5;obtain⟨o,e,c,d⟩:=id Si;exact⟨u,rfl,WM (s:={s with heap:=h'}) e c d (by decide) ⟨x,H,I1,ru,⟨rfl,λys hy=>by rw[I.AL3 hy hq];exact hx⟩,Si,λb hb=>(hf b hb).1⟩⟩
 done:=by intro X hP hw hK hc i AB s σ H E I hf st hg;subst hP hw hK;obtain⟨xs,hq,hx⟩:=hg;obtain⟨Bc,rv,p,hz⟩:=I.list hq;obtain⟨f0,f1,f2,f3,f4,f5⟩:=hf it (by simp);have hl:=rv.length;exact wpAny_pyNext_list_end (I.ok.hd hc) st p.isList (by simp;omega) λh' eb=>⟨rfl,I.turned (t':=s.toks) (λb o hb e=>eb b o hb e) f0 f1 f3 f4 f5⟩
 self:=λ_ _ _ _ _ st h=>wpAny_pyIter_listiter st h
theorem AMp{P:pQ}{w:qt}{K : ξ}{tg:qU}(a it : Ξ):Turn P w K tg (jD K a) [it] it (λi h=>h.IsTupleIter it a i) where
 mem:=by simp
 obj:=λi h st b hb=>by
  have e:b=it:=by simpa using hb
  subst e;obtain⟨o,e,c,d⟩:=st;exact⟨o,e,λv z=>by rw[d] at z;cases z⟩
 keep:=λi h h' st k=>st.at λo e=>k it (by simp) o e
 item:=by intro X hP hw hK hc i AB s σ H E I hf st hg;subst hP hw hK;obtain⟨xs,x,hq,hx⟩:=hg;obtain⟨Bc,rv,p,hz⟩:=I.tuple hq;obtain⟨u,hu,ru⟩:=rv.get hx;obtain⟨f0,f1,f2,f3,f4,f5⟩:=hf it (by simp);refine wpAny_pyNext_tuple_item st (show s.heap.IsTuple a Bc.toArray from p) (x:=u) (by simpa using hu) λh' Si sb=>?_;have I1:Inv X AB σ H {s with heap:=h'}:=I.turned (t':=s.toks) (λb o hb e=>(sb.2 b hb).trans e) f0 f1 f3 f4 f5;obtain⟨o,e,c,d⟩:=id Si;exact⟨u,rfl,WM (s:={s with heap:=h'}) e c d (by decide) ⟨x,H,I1,ru,⟨rfl,λys hy=>by rw[I.APA hy hq];exact hx⟩,Si,λb hb=>(hf b hb).1⟩⟩
 done:=by intro X hP hw hK hc i AB s σ H E I hf st hg;subst hP hw hK;obtain⟨xs,hq,hx⟩:=hg;obtain⟨Bc,rv,p,hz⟩:=I.tuple hq;obtain⟨f0,f1,f2,f3,f4,f5⟩:=hf it (by simp);have hl:=rv.length;exact wpAny_pyNext_tuple_end (I.ok.hd hc) st (show s.heap.IsTuple a Bc.toArray from p) (by simp;omega) λh' eb=>⟨rfl,I.turned (t':=s.toks) (λb o hb e=>eb b o hb e) f0 f1 f3 f4 f5⟩
 self:=λ_ _ _ _ _ st h=>wpAny_pyIter_tupleiter st h
theorem AMq{P:pQ}{w:qt}{K : ξ}{tg:qU}(it : Ξ)(lo:Int)(n:Nat):Turn P w K tg (mU lo n) [it] it (λi h=>yo h it (lo+(i:Nat)*1) ((n:Int)-(i:Nat)) 1) where
 mem:=by simp
 obj:=λi h st b hb=>by
  have e:b=it:=by simpa using hb
  subst e;exact⟨_,st,λv z=>by have z':Data.fields _=Data.cell v:=z;cases z'⟩
 keep:=λi h h' st k=>k it (by simp) _ st
 item:=by intro X hP hw hK hc i AB s σ H E I hf st hg;subst hP hw hK;obtain⟨f0,f1,f2,f3,f4,f5⟩:=hf it (by simp);have W:=Walks.range (prog:=X.prog) (w:=X.w) (I.ok.hd hc) it lo 1 n;refine W.item i s _ _ hg st λv h' tk hv Si kk=>?_;obtain⟨t,rfl⟩:=hv;have I1:Inv X AB σ H {s with heap:=h',toks:=tk}:=I.turned (λb o hb e=>kk b o (by simpa using hb) e) f0 f1 f3 f4 f5;refine⟨_,rfl,WM (s:={s with heap:=h',toks:=tk}) (n:="range_iterator") Si rfl rfl (by decide) ⟨.int (lo+i),H,I1,⟨t,?_⟩,⟨rfl,rfl⟩,Si,λb hb=>(hf b hb).1⟩⟩;rw[Int.mul_one]
 done:=by intro X hP hw hK hc i AB s σ H E I hf st hg;subst hP hw hK;obtain⟨f0,f1,f2,f3,f4,f5⟩:=hf it (by simp);exact wpAny_pyNext_range_end (I.ok.hd hc) st (by have:n<=i:=hg;omega) λh' eb=>⟨rfl,I.turned (t':=s.toks) (λb o hb e=>eb b o hb e) f0 f1 f3 f4 f5⟩
 self:=λ_ _ _ _ _ st h=>wpAny_pyIter_rangeiter st h
section
variable {X:Cx}{tg:qU}
def cQ(K : ξ)(tl:TE):TI:=λσ H R=>tl σ H λx H1=>∃a,x=.ref a/\(∃xs,Er K H1 a xs)/\R (dZ K a) H1
def iH(K : ξ)(tl:TE):TI:=λσ H R=>tl σ H λx H1=>∃a,x=.ref a/\(∃xs,J1 K H1 a xs)/\R (jD K a) H1
theorem AON{l:qU}{tl:TE}(hl:PE X l tl):PI X tg l (cQ X.K tl):=by
 intro AB s σ H R I h;refine EC (hl AB s σ H _ I h) λv s1 ⟨x,H1,I1,r1,q1⟩=>?_;obtain⟨a,e,⟨xs,hq⟩,q⟩:=q1;subst e;cases r1;obtain⟨Bc,rv,p,hz⟩:=I1.list hq;refine w_ p.isList ?_;refine⟨s1.heap.objs.size,[s1.heap.objs.size],_,_,H1,rfl,I1.kept (t':=s1.toks) λb o e=>pq _ e,AO8 a _,⟨_,pV _ rfl,rfl,rfl⟩,λb hb=>?_,q⟩;have e:b=s1.heap.objs.size:=by simpa using hb
 subst e;exact I1.bJ (b_ _) (I1.CC.fresh (b_ _))
theorem ZW{l:qU}{tl:TE}(hl:PE X l tl):PI X tg l (iH X.K tl):=by
 intro AB s σ H R I h;refine EC (hl AB s σ H _ I h) λv s1 ⟨x,H1,I1,r1,q1⟩=>?_;obtain⟨a,e,⟨xs,hq⟩,q⟩:=q1;subst e;cases r1;obtain⟨Bc,rv,p,hz⟩:=I1.tuple hq;refine wpAny_pyIter_tuple (show s1.heap.IsTuple a Bc.toArray from p) ?_;refine⟨s1.heap.objs.size,[s1.heap.objs.size],_,_,H1,rfl,I1.kept (t':=s1.toks) λb o e=>pq _ e,AMp a _,⟨_,pV _ rfl,rfl,rfl⟩,λb hb=>?_,q⟩;have e:b=s1.heap.objs.size:=by simpa using hb
 subst e;exact I1.bJ (b_ _) (I1.CC.fresh (b_ _))
theorem AQy{AB:List (Ξ × sR)}{σ:St}{H:Hp}{s : Ω}{R:It->Hp->Prop}{E : Δ -> Ω -> Prop}{lo hi:Int}{t u v:xF}{tk:Nat}(I:Inv X AB σ H s)(h1 : -(2^62)<=lo)(h2:lo<2^62)(h3 : -(2^62)<=hi)(h4:hi<2^62)
  (q:R (mU lo (hi-lo).toNat) H):p_ (model X.prog X.w) X.A (pyIter (.ref s.heap.objs.size)) (mT X AB σ tg R) E {s with heap:=s.heap.push {cls:=.type "range",data:=.fields #[.int lo t,.int hi u,.int 1 v]},toks:=tk}:=by
 refine wpAny_pyIter_range (IsRange.new ..) (small_one h1 h2 h3 h4) ?_;have I1:Inv X AB σ H {s with heap:=s.heap.push {cls:=.type "range",data:=.fields #[.int lo t,.int hi u,.int 1 v]},toks:=tk}:=I.kept λb o e=>pq _ e;refine⟨(s.heap.push {cls:=.type "range",data:=.fields #[.int lo t,.int hi u,.int 1 v]}).objs.size,[(s.heap.push {cls:=.type "range",data:=.fields #[.int lo t,.int hi u,.int 1 v]}).objs.size],_,_,H,rfl,
  I1.kept (t':=tk) λb o e=>pq _ e,AMq _ lo (hi-lo).toNat,?_,λb hb=>?_,q⟩
 .have e1:lo+((0:Nat):Int)*1=lo:=by simp
  have e2:(((hi-lo).toNat:Nat):Int)-((0:Nat):Int)=tZ lo hi 1:=by rw[rangeSize_one];split<;>omega
  show yo _ _ (lo+((0:Nat):Int)*1) ((((hi-lo).toNat:Nat):Int)-((0:Nat):Int)) 1;rw[e1,e2];exact pV _ rfl
 .have e:b=(s.heap.push {cls:=.type "range",data:=.fields #[.int lo t,.int hi u,.int 1 v]}).objs.size:=by simpa using hb
  subst e;exact I1.bJ (b_ _) (I1.CC.fresh (b_ _))
def AUR(ta:TA):TI:=λσ H R=>ta σ H λvs H1=>∃j:Int,vs=[.int j] /\ -(2^62)<=j/\j<2^62/\R (mU 0 j.toNat) H1
theorem APT{a:qU}{ta:TA}{p pos:Pos}(hg:Gl X "range")(hm:X.mg "range" = none)(ha:PA X [a] ta)(hs:qy [a] X.env=[(false,eval a X.env)]:=by rfl):PI X tg (.Call (.Name "range" p) [a] [] pos) (AUR ta):=by
 intro AB s σ H R I h;refine zS (Qe I hg hm zg (sV (EC (ha pos AB s σ H _ I h) λus s1 ⟨vs,H1,I1,r1,q1⟩=>?_) hs rfl));obtain⟨j,e,q1,q2,q⟩:=q1;subst e;cases r1 with
 |cons r rr=>cases rr;obtain⟨t,rfl⟩:=r;exact call_range_1 (AQy I1 (by omega) (by omega) q1 q2 (by simpa using q))
def AV5(wi:TI)(g:TG)(tb:TS):TS:=λD σ H=>wi σ H λJ H1=>∃W:Nat->Nat->St->Hp->Prop,(∃m,W 0 m σ H1)/\∀i m σ H,W i m σ H ->
 (J.stop i H/\D.nx σ H)\/(J.go i H/\∃N:St->Hp->Prop,(∀σ' H',N σ' H'->∃m',m'<m/\W (i+1) m' σ' H')/\∀x H',J.er i H x H'->g x σ H' λσ2 H2=>tb {D with nx:=N,ct:=N,bk:=D.nx} σ2 H2)
def Vt(fp:List Ξ)(h:qM):List (Ξ × sR):=fp.filterMap λb=>(h.get? b).map λo=>(b,o)
theorem R8{fp:List Ξ}{h:qM}{b : Ξ}{o:sR}(hb:b∈fp)(e:h.get? b=some o):(b,o)∈Vt fp h:=tH.mpr ⟨b,hb,by rw[e];rfl⟩
theorem APc{fp:List Ξ}{h:qM}{p : Ξ × sR}(hp:p∈Vt fp h):p.1∈fp/\h.get? p.1=some p.2:=by
 obtain⟨b,hb,e⟩:=tH.mp hp;cases q:h.get? b with
 |none=>rw[q] at e;cases e
 |some o=>rw[q] at e;have e':(b,o)=p:=j_ e;subst e';exact⟨hb,q⟩
theorem Inv.pinned{AB:List (Ξ × sR)}{σ:St}{H:Hp}{s : Ω}{fp:List Ξ}(I:Inv X AB σ H s)(hf:∀b∈fp,Ri X AB H b)(ho:∀b∈fp,∃o,s.heap.get? b=some o/\∀v,o.data≠.cell v):Inv X (AB++Vt fp s.heap) σ H s:=I.VC λp hp=>(pT.mp hp).elim (λz=>I.pin p (p9 _ z)) λz=>by obtain⟨hb,e⟩:=APc z;obtain⟨f0,f1,f2,_⟩:=hf p.1 hb;obtain⟨o,e',d⟩:=ho p.1 hb;rw[e] at e';cases e';exact⟨e,f0,f1,f2,d⟩
theorem Inv.Se{AB pl:List (Ξ × sR)}{σ:St}{H:Hp}{s : Ω}(I:Inv X (AB++pl) σ H s):Inv X AB σ H s:=I.VC λp hp=>I.pin p (p9 _ (qT _ hp))
theorem Fo{iter:qU}{body:List qX}{wi:TI}{g:TG}{tb:TS}{pos:Pos}(hp:PassesOwn (model X.prog X.w) X.A X.env X.xe)(hc:X.calm=true)(hi:PI X tg iter wi)(hg:PG X tg g)(hb:aL X body tb)
  (hs:∀x,foldedSetIterable iter X.env x=pure x:=by intro _;rfl):PS X (.For tg iter body [] pos) (AV5 wi g tb):=by
 intro AB s σ H D I h;refine wpAny_For (EC (hi AB s σ H _ I h) λv s1 h1=>EC h1 λlW s2 h2=>?_) hs;obtain⟨it,fp,tn,J,H2,e,I2,T,f6,f2,W,⟨m0,w0⟩,turn⟩:=h2;subst e;have ZN:∀{H':Hp},(∀b∈fp,H' b=none)->∀b∈fp,Ri X AB H' b:=λhn b hb=>⟨hn b hb,(f2 b hb).2⟩
 refine codeAny_forLoop_any (λn s'=>∃i σ' H',Inv X AB σ' H' s'/\tn i s'.heap/\(∀b∈fp,H' b=none)/\W i n σ' H') ?_ m0 ⟨0,σ,H2,I2,f6,λb hb=>(f2 b hb).1,w0⟩;rintro n s3 ⟨i,σ3,H3,I3,lE,fr3,w3⟩;rcases turn i n σ3 H3 w3 with⟨stop,qn⟩|⟨go,N,hN,step⟩
 .refine uh hp (EC (T.done X rfl rfl rfl hc i AB s3 σ3 H3 X.xe I3 (ZN fr3) lE stop) λr s4 ⟨hr,I4⟩=>?_);subst hr;exact wG ⟨σ3,H3,I4,qn⟩
 .refine uh hp (EC (T.item X rfl rfl rfl hc i AB s3 σ3 H3 X.xe I3 (ZN fr3) lE go) λr s4 ⟨u,hr,h4⟩=>?_);subst hr;refine uh hp (EC h4 λ_ s5 ⟨x,H5,I5,r5,y5,st5,fr5⟩=>?_);have I5':=I5.pinned (ZN fr5) (T.obj _ _ st5);refine uh hp (EC (hg _ s5 σ3 H5 x u _ I5' r5 (step x H5 y5)) λ_ s6 ⟨σ6,H6,I6,q6⟩=>?_);refine uh hp (EC (hb _ s6 σ6 H6 _ I6 q6) λf s7 q7=>?_);have again:∀{σ7:St}{H7:Hp},Inv X (AB++Vt fp s5.heap) σ7 H7 s7->N σ7 H7->∃m,m<n/\∃i σ' H',Inv X AB σ' H' s7/\tn i s7.heap/\(∀b∈fp,H' b=none)/\W i m σ' H':=λ{σ7 H7} I7 n7=>by obtain⟨m',hm,w7⟩:=hN σ7 H7 n7;refine⟨m',hm,i+1,σ7,H7,I7.Se,T.keep _ _ _ st5 λb hb o e=>(I7.pin (b,o) (p9 _ (p9 _ (R8 hb e)))).1,λb hb=>?_,w7⟩;obtain⟨o,e,d⟩:=T.obj _ _ st5 b hb;exact(I7.pin (b,o) (p9 _ (p9 _ (R8 hb e)))).2.1
  cases f with
  |next=>obtain⟨σ7,H7,I7,n7⟩:=q7;exact again I7 n7
  |cont=>obtain⟨σ7,H7,I7,n7⟩:=q7;exact again I7 n7
  |brk=>obtain⟨σ7,H7,I7,q7⟩:=q7;exact⟨σ7,H7,I7.Se,q7⟩
  |ret v=>obtain⟨x7,σ7,H7,I7,r7,q7⟩:=q7;exact⟨x7,σ7,H7,I7.Se,r7,q7⟩
end
theorem AWx{K : ξ}{a : Ξ}{xs:List V}{g:TG}{tb:TS}{D:Ends}{σ:St}{H:Hp}(Pv:Nat->St->Hp->Prop)(h0:Pv 0 σ H)(hl:∀i σ H,i<=xs.length->Pv i σ H->Er K H a xs)
  (hs:∀i x σ H,xs[i]?=some x->Pv i σ H->g x σ H λσ2 H2=>tb {D with nx:=Pv (i+1),ct:=Pv (i+1),bk:=D.nx} σ2 H2) (hd:∀σ H,Pv xs.length σ H->D.nx σ H):
  ∃W:Nat->Nat->St->Hp->Prop,(∃m,W 0 m σ H)/\∀i m σ H,W i m σ H ->
   ((dZ K a).stop i H/\D.nx σ H)\/((dZ K a).go i H/\∃N:St->Hp->Prop,(∀σ' H',N σ' H'->∃m',m'<m/\W (i+1) m' σ' H')/\∀x H',(dZ K a).er i H x H'->g x σ H' λσ2 H2=>tb {D with nx:=N,ct:=N,bk:=D.nx} σ2 H2):=by
 refine⟨λi m σ H=>m=xs.length-i/\i<=xs.length/\Pv i σ H,⟨xs.length,by simp,qG _,h0⟩,?_⟩;rintro i m σ H ⟨rfl,hi,p⟩;have q:=hl i σ H hi p;by_cases Na:i<xs.length
 .refine .inr ⟨⟨xs,xs[i],q,by simp[Na]⟩,Pv (i+1),λσ' H' p'=>⟨xs.length-(i+1),by omega,rfl,Na,p'⟩,λx H' y=>?_⟩;obtain⟨e,y⟩:=y;subst e;exact hs i x σ _ (y xs q) p
 .have e:i=xs.length:=by omega
  subst e;exact .inl ⟨⟨xs,q,b_ _⟩,hd σ H p⟩
theorem VY{c:TT}{tb:TS}{D:Ends}{σ:St}{H:Hp}(Pv:St->Hp->Prop)(μ:St->Hp->Nat)(h0:Pv σ H)
  (hs:∀σ H,Pv σ H->c σ H λb H1=>if b=true then tb {D with nx:=λσ' H'=>Pv σ' H'/\μ σ' H'<μ σ H,ct:=λσ' H'=>Pv σ' H'/\μ σ' H'<μ σ H,bk:=D.nx} σ H1 else D.nx σ H1)
  (mono:∀σ H Q Q',(∀b H1,Q b H1->Q' b H1)->c σ H Q->c σ H Q'):AQX c tb D σ H:=by
 refine⟨λm σ H=>m=μ σ H/\Pv σ H,⟨_,rfl,h0⟩,?_⟩;rintro m σ H ⟨rfl,p⟩;refine mono σ H _ _ (λb H1 q=>?_) (hs σ H p);cases b with
 |true=>exact⟨_,λσ' H' ⟨p',l⟩=>⟨_,l,rfl,p'⟩,q⟩
 |false=>exact q
abbrev R2:=V->V->Hp->VK->Prop
def W4(X:Cx)(f : Δ -> Δ -> zH Δ)(r:R2):Prop:=
 ∀(AB:List (Ξ × sR)) (s : Ω) (σ:St) (H:Hp) (x y:V) (v u : Δ) (Q:VK),Inv X AB σ H s->RelV x v->RelV y u->r x y H Q ->
  p_ (model X.prog X.w) X.A (f v u) (EP X AB σ Q) X.xe s
def pD(X:Cx)(f : Δ -> zH Δ)(r:V->Hp->VK->Prop):Prop:=
 ∀(AB:List (Ξ × sR)) (s : Ω) (σ:St) (H:Hp) (x:V) (v : Δ) (Q:VK),Inv X AB σ H s->RelV x v->r x H Q ->
  p_ (model X.prog X.w) X.A (f v) (EP X AB σ Q) X.xe s
def Om(X:Cx)(f : Δ)(r:List V->Hp->VK->Prop):Prop:=
 ∀(AB:List (Ξ × sR)) (s : Ω) (σ:St) (H:Hp) (xs:List V) (us:List Δ) (Q:VK),Inv X AB σ H s->Vals xs us->r xs H Q ->
  p_ (model X.prog X.w) X.A (call f us) (EP X AB σ Q) X.xe s
def jf(r:R2)(ta tb:TE):TE:=λσ H Q=>ta σ H λx H1=>tb σ H1 λy H2=>r x y H2 Q
def tUn(r:V->Hp->VK->Prop)(ta:TE):TE:=λσ H Q=>ta σ H λx H1=>r x H1 Q
def rI(C:Int->Int->Prop)(g:Int->Int->V):R2:=λx y H Q=>∃i j,x=.int i/\y=.int j/\C i j/\Q (g i j) H
def gB(g:Int->Int->V):R2:=λx y H Q=>∃i j,x=.int i/\y=.int j/\Q (g i j) H
def rU(g:Int->V):V->Hp->VK->Prop:=λx H Q=>∃i,x=.int i/\Q (g i) H
section
variable {X:Cx}{a b c:qU}{ta tb tc:TE}{pos:Pos}
theorem jA(ha:PE X a ta)(hb:PE X b tb){AB:List (Ξ × sR)}{s : Ω}{σ:St}{H:Hp}{R:V->V->Hp->Prop}(I:Inv X AB σ H s)
  (h:ta σ H λx H1=>tb σ H1 λy H2=>R x y H2) {Q : Δ -> Ω -> Prop}{f : Δ -> Δ -> zH Δ}
  (hf:∀v u s2 x y H2,Inv X AB σ H2 s2->RelV x v->RelV y u->R x y H2->p_ (model X.prog X.w) X.A (f v u) Q X.xe s2):
  p_ (model X.prog X.w) X.A (eval a X.env) (λv s₁=>p_ (model X.prog X.w) X.A (eval b X.env) (λu s₂=>p_ (model X.prog X.w) X.A (f v u) Q X.xe s₂) X.xe s₁) X.xe s:=by
 refine EC (ha AB s σ H _ I h) λv s1 ⟨x,H1,I1,r1,q1⟩=>?_;refine EC (hb AB s1 σ H1 _ I1 q1) λu s2 ⟨y,H2,I2,r2,q2⟩=>?_;exact hf v u s2 x y H2 I2 r1 r2 q2
theorem F0{op:Operator}{r:R2}(ho:W4 X (binaryOp op) r)(ha:PE X a ta)(hb:PE X b tb):PE X (.BinOp a op b pos) (jf r ta tb):=by intro AB s σ H Q I h;exact wpAny_BinOp (jA ha hb I h λv u s2 x y H2 I2 rx ry q=>ho AB s2 σ H2 x y v u Q I2 rx ry q)
theorem AWN{op:UnaryOp}{r:V->Hp->VK->Prop}(ho:pD X (unaryOp op) r)(ha:PE X a ta):PE X (.UnaryOp op a pos) (tUn r ta):=by intro AB s σ H Q I h;exact UnaryOp_ (EC (ha AB s σ H _ I h) λv s1 ⟨x,H1,I1,r1,q1⟩=>ho AB s1 σ H1 x v Q I1 r1 q1)
theorem opI{f : Δ -> Δ -> zH Δ}{C:Int->Int->Prop}{g:Int->Int->Int}
  (rule:∀(i j:Int) (t u:xF) (s : Ω) (Q : Δ -> Ω -> Prop) (E : Δ -> Ω -> Prop),C i j->Q (.int (g i j) s.toks) {s with toks:=s.toks+1}->p_ (model X.prog X.w) X.A (f (.int i t) (.int j u)) Q E s):
  W4 X f (rI C λi j=>.int (g i j)):=by
 intro AB s σ H x y v u Q I rx ry h;obtain⟨i,j,rfl,rfl,hc,q⟩:=h;obtain⟨t,rfl⟩:=rx;obtain⟨t',rfl⟩:=ry;exact rule i j t t' s _ _ hc ⟨.int (g i j),H,I.tok _,⟨_,rfl⟩,q⟩
theorem AWO{f : Δ -> Δ -> zH Δ}{g:Int->Int->Int}
  (rule:∀(i j:Int) (t u:xF) (s : Ω) (Q : Δ -> Ω -> Prop) (E : Δ -> Ω -> Prop),Q (.int (g i j) s.toks) {s with toks:=s.toks+1}->p_ (model X.prog X.w) X.A (f (.int i t) (.int j u)) Q E s):
  W4 X f (gB λi j=>.int (g i j)):=by
 intro AB s σ H x y v u Q I rx ry h;obtain⟨i,j,rfl,rfl,q⟩:=h;obtain⟨t,rfl⟩:=rx;obtain⟨t',rfl⟩:=ry;exact rule i j t t' s _ _ ⟨.int (g i j),H,I.tok _,⟨_,rfl⟩,q⟩
theorem iB{f : Δ -> Δ -> zH Δ}{g:Int->Int->Bool}
  (rule:∀(i j:Int) (t u:xF) (s : Ω) (Q : Δ -> Ω -> Prop) (E : Δ -> Ω -> Prop),Q (.bool (g i j)) s->p_ (model X.prog X.w) X.A (f (.int i t) (.int j u)) Q E s):
  W4 X f (gB λi j=>.bl (g i j)):=by
 intro AB s σ H x y v u Q I rx ry h;obtain⟨i,j,rfl,rfl,q⟩:=h;obtain⟨t,rfl⟩:=rx;obtain⟨t',rfl⟩:=ry;exact rule i j t t' s _ _ ⟨.bl (g i j),H,I,rfl,q⟩
theorem O9:W4 X (binaryOp .Add) (gB λi j=>.int (i+j)):=AWO λ_ _ _ _ _ _ _ q=>add_int q
theorem ARH:W4 X (binaryOp .Sub) (gB λi j=>.int (i-j)):=AWO λ_ _ _ _ _ _ _ q=>sub_int q
theorem AU7:W4 X (binaryOp .Mod) (rI (λ_ j=>0<j) λi j=>.int (i%j)):=opI λi j _ _ _ _ _ hc q=>by have h1:(0:Int)<j:=hc;exact mod_int' (by omega) (by rw[Int.fmod_eq_emod_of_nonneg i (by omega)];exact q)
theorem unI{f : Δ -> zH Δ}{g:Int->Int}
  (rule:∀(i:Int) (t:xF) (s : Ω) (Q : Δ -> Ω -> Prop) (E : Δ -> Ω -> Prop),Q (.int (g i) s.toks) {s with toks:=s.toks+1}->p_ (model X.prog X.w) X.A (f (.int i t)) Q E s):
  pD X f (rU λi=>.int (g i)):=by
 intro AB s σ H x v Q I rx h;obtain⟨i,rfl,q⟩:=h;obtain⟨t,rfl⟩:=rx;exact rule i t s _ _ ⟨.int (g i),H,I.tok _,⟨_,rfl⟩,q⟩
theorem AUc:pD X (unaryOp .USub) (rU λi=>.int (-i)):=unI λ_ _ _ _ _ q=>neg_int q
end
def aU:V->V->Bool
 |.Es,.Es=>true|.Es,.int _=>true|.int _,.Es=>true|.Es,.bl _=>true|.bl _,.Es=>true|.Es,.str _=>true|.str _,.Es=>true
 |.int _,.int _=>true|.bl _,.bl _=>true|.str _,.str _=>true|.Yn _,.Yn _=>true
 |.int _,.str _=>true|.str _,.int _=>true|.bl _,.str _=>true|.str _,.bl _=>true
 |_,_=>false
def rEq:R2:=λx y H Q=>aU x y=true/\Q (.bl (decide (x=y))) H
def rNe:R2:=λx y H Q=>aU x y=true/\Q (.bl (!decide (x=y))) H
theorem AOw{i j:Int}:decide (V.int i=V.int j)=(i==j):=by rw[qV];simp
theorem ASG{i j:Bool}:decide (V.bl i=V.bl j)=(i==j):=by rw[qV];simp
theorem AOv{i j:qf}:decide (V.str i=V.str j)=(i==j):=by rw[qV];simp
theorem AOx{i j:Array UInt8}:decide (V.Yn i=V.Yn j)=(i.toList==j.toList):=by rw[qV];cases i;cases j;simp
section
variable {X:Cx}{a b c:qU}{ta tb tc:TE}{pos:Pos}
theorem Co{AB:List (Ξ × sR)}{σ:St}{H:Hp}{s : Ω}{Q:VK}{k k':Bool}(I:Inv X AB σ H s)(q:Q (.bl k) H)(e:k=k'):EP X AB σ Q (.bool k') s:=by subst e;exact⟨.bl k,H,I,rfl,q⟩
theorem M0:W4 X (compareOp .Eq) rEq:=by
 intro AB s σ H x y v u Q I rx ry h;obtain⟨hs,q⟩:=h;cases x with
 |Es=>
  cases rx;cases y with
  |Es=>cases ry;exact PySem.EqNone.eq_none_none (Co I q (by simp))
  |bl j=>cases ry;exact PySem.EqNone.eq_none_bool (Co I q (by simp))
  |int j=>obtain⟨t',rfl⟩:=ry;exact PySem.EqNone.eq_none_int (Co I q (by simp))
  |str j=>obtain⟨t',rfl⟩:=ry;exact PySem.EqNone.eq_none_str (Co I q (by simp))
  |_=>exact absurd (show false=true from hs) Λ
 |bl i=>
  cases rx;cases y with
  |Es=>cases ry;exact PySem.EqNone.eq_bool_none (Co I q (by simp))
  |bl j=>cases ry;exact eq_bool (Co I q ASG)
  |str j=>obtain⟨t',rfl⟩:=ry;exact PySem.EqMixed.eq_bool_str (Co I q (by simp))
  |_=>exact absurd (show false=true from hs) Λ
 |int i=>
  obtain⟨t,rfl⟩:=rx;cases y with
  |Es=>cases ry;exact PySem.EqNone.eq_int_none (Co I q (by simp))
  |int j=>obtain⟨t',rfl⟩:=ry;exact eq_int (Co I q AOw)
  |str j=>obtain⟨t',rfl⟩:=ry;exact PySem.EqMixed.eq_int_str (Co I q (by simp))
  |_=>exact absurd (show false=true from hs) Λ
 |str i=>
  obtain⟨t,rfl⟩:=rx;cases y with
  |Es=>cases ry;exact PySem.EqNone.eq_str_none (Co I q (by simp))
  |bl j=>cases ry;exact PySem.EqMixed.eq_str_bool (Co I q (by simp))
  |int j=>obtain⟨t',rfl⟩:=ry;exact PySem.EqMixed.eq_str_int (Co I q (by simp))
  |str j=>obtain⟨t',rfl⟩:=ry;exact eq_str (Co I q AOv)
  |_=>exact absurd (show false=true from hs) Λ
 |Yn i=>
  obtain⟨t,rfl⟩:=rx;cases y with
  |Yn j=>obtain⟨t',rfl⟩:=ry;exact PySem.W.eq_bytes (Co I q AOx)
  |_=>exact absurd (show false=true from hs) Λ
 |_=>cases y<;>exact absurd (show false=true from hs) Λ
theorem W8:W4 X (compareOp .NotEq) rNe:=by
 intro AB s σ H x y v u Q I rx ry h;obtain⟨hs,q⟩:=h;cases x with
 |Es=>
  cases rx;cases y with
  |Es=>cases ry;exact PySem.EqNone.ne_none_none (Co I q (by simp))
  |bl j=>cases ry;exact PySem.EqNone.ne_none_bool (Co I q (by simp))
  |int j=>obtain⟨t',rfl⟩:=ry;exact PySem.EqNone.ne_none_int (Co I q (by simp))
  |str j=>obtain⟨t',rfl⟩:=ry;exact PySem.EqNone.ne_none_str (Co I q (by simp))
  |_=>exact absurd (show false=true from hs) Λ
 |bl i=>
  cases rx;cases y with
  |Es=>cases ry;exact PySem.EqNone.ne_bool_none (Co I q (by simp))
  |bl j=>cases ry;exact ne_bool (Co I q (congrArg not ASG))
  |str j=>obtain⟨t',rfl⟩:=ry;exact PySem.EqMixed.ne_bool_str (Co I q (by simp))
  |_=>exact absurd (show false=true from hs) Λ
 |int i=>
  obtain⟨t,rfl⟩:=rx;cases y with
  |Es=>cases ry;exact PySem.EqNone.ne_int_none (Co I q (by simp))
  |int j=>obtain⟨t',rfl⟩:=ry;exact ne_int (Co I q (congrArg not AOw))
  |str j=>obtain⟨t',rfl⟩:=ry;exact PySem.EqMixed.ne_int_str (Co I q (by simp))
  |_=>exact absurd (show false=true from hs) Λ
 |str i=>
  obtain⟨t,rfl⟩:=rx;cases y with
  |Es=>cases ry;exact PySem.EqNone.ne_str_none (Co I q (by simp))
  |bl j=>cases ry;exact PySem.EqMixed.ne_str_bool (Co I q (by simp))
  |int j=>obtain⟨t',rfl⟩:=ry;exact PySem.EqMixed.ne_str_int (Co I q (by simp))
  |str j=>obtain⟨t',rfl⟩:=ry;exact ne_str (Co I q (congrArg not AOv))
  |_=>exact absurd (show false=true from hs) Λ
 |Yn i=>
  obtain⟨t,rfl⟩:=rx;cases y with
  |Yn j=>obtain⟨t',rfl⟩:=ry;exact PySem.W.ne_bytes (Co I q (congrArg not AOx))
  |_=>exact absurd (show false=true from hs) Λ
 |_=>cases y<;>exact absurd (show false=true from hs) Λ
theorem AUM:W4 X (compareOp .Lt) (gB λi j=>.bl (decide (i<j))):=iB λ_ _ _ _ _ _ _ q=>lt_int q
theorem W9:W4 X (compareOp .LtE) (gB λi j=>.bl (decide (i<=j))):=iB λ_ _ _ _ _ _ _ q=>le_int q
theorem Yr:W4 X (compareOp .Gt) (gB λi j=>.bl (decide (j<i))):=iB λ_ _ _ _ _ _ _ q=>gt_int q
theorem Cn(b:qU){op:zC}(h:op≠.In:=by decide)(h2:op≠.NotIn:=by decide):behindInMarks op b=false:=V5 b h h2
theorem Mb{op:zC}{r:R2}(ho:W4 X (compareOp op) r)(ha:PE X a ta)(hb:PE X b tb)(hm:behindInMarks op b=false):PE X (.Compare a [op] [b] pos) (jf r ta tb):=by intro AB s σ H Q I h;exact wpAny_Compare1 (jA ha hb I h λv u s2 x y H2 I2 rx ry q=>ho AB s2 σ H2 x y v u Q I2 rx ry q) hm
def AT6(t:TE):TT:=λσ H Q=>t σ H λx H'=>∃k,x=.bl k/\Q k H'
theorem Cy{op:zC}{r:R2}(ho:W4 X (compareOp op) r)(ha:PE X a ta)(hb:PE X b tb)(hm:behindInMarks op b=false):PT X (.Compare a [op] [b] pos) (AT6 (jf r ta tb)):=by
 intro AB s σ H Q I h;refine wpAny_isTrue_Compare1 (EC (ha AB s σ H _ I h) λv s1 ⟨x,H1,I1,r1,q1⟩=>EC (hb AB s1 σ H1 _ I1 q1) λu s2 ⟨y,H2,I2,r2,q2⟩=>EC (ho AB s2 σ H2 x y v u _ I2 r1 r2 q2) λc s3 ⟨z,H3,I3,r3,k,e,q3⟩=>?_) hm
 subst e;cases r3;exact rR ⟨H3,I3,q3⟩
def AQc(r r':R2)(ta tb tc:TE):TE:=λσ H Q=>ta σ H λx H1=>tb σ H1 λy H2=>r x y H2 λz H3=>∃k,z=.bl k /\
 (if k=true then tc σ H3 λw' H4=>r' y w' H4 Q else Q (.bl false) H3)
theorem ALc{op nH:zC}{r r':R2}(ho:W4 X (compareOp op) r)(Yk:W4 X (compareOp nH) r')(ha:PE X a ta)(hb:PE X b tb)(hc:PE X c tc)
  (hm:lastMarks [op,nH] [b,c]=false:=by with_unfolding_all rfl):PE X (.Compare a [op,nH] [b,c] pos) (AQc r r' ta tb tc):=by
 intro AB s σ H Q I h;refine Compare_chain (EC (ha AB s σ H _ I h) λv s1 ⟨x,H1,I1,r1,q1⟩=>chain_link (EC (hb AB s1 σ H1 _ I1 q1) λu s2 ⟨y,H2,I2,r2,q2⟩=>EC (ho AB s2 σ H2 x y v u _ I2 r1 r2 q2) λd s3 ⟨z,H3,I3,r3,k,e,q3⟩=>?_)) hm
 subst e;cases r3;refine rR ?_;cases k with
 |false=>exact ite_ff ⟨.bl false,H3,I3,rfl,q3⟩
 |true=>exact ite_tt (chain_last (EC (hc AB s3 σ H3 _ I3 q3) λw' s4 ⟨z',H4,I4,r4,q4⟩=>Yk AB s4 σ H4 y z' u w' Q I4 r2 r4 q4))
theorem Zf:(pY:Nat)<2^63:=by rw[yc];decide
theorem vals1{x:V}{us:List Δ}(r:Vals [x] us):∃u,us=[u]/\RelV x u:=by
 cases r with
 |cons r1 r2=>cases r2;exact⟨_,rfl,r1⟩
theorem vals2{x y:V}{us:List Δ}(r:Vals [x,y] us):∃u w',us=[u,w']/\RelV x u/\RelV y w':=by
 cases r with
 |cons r1 r2=>
  cases r2 with
  |cons r3 r4=>cases r4;exact⟨_,_,rfl,r1,r3⟩
theorem AQC(hc:X.calm=true):Om X (.builtin "min") (λxs H Q=>∃i j,xs=[.int i,.int j]/\Q (.int (if j<i then j else i)) H):=by
 intro AB s σ H xs us Q I r h;obtain⟨i,j,rfl,q⟩:=h;obtain⟨u,w',rfl,⟨t,rfl⟩,⟨t',rfl⟩⟩:=vals2 r;refine min_two_ints (I.ok.hd hc) λh' tk k=>⟨_,H,I.kept k,?_,q⟩
 by_cases hj:j<i
 .rw[η hj,η hj];exact⟨_,rfl⟩
 .rw[ζ hj,ζ hj];exact⟨_,rfl⟩
end
structure Z2(h:qM)(x dx C : Ξ)(mA:qf->Option Δ):Prop where
 obj:h.get? x=some (t6 C dx)
 ns:h.Ns1 dx mA
 ne:dx≠x
theorem APl{h:qM}{dx : Ξ}{mA:qf->Option Δ}(n:h.Ns1 dx mA):∃od,h.get? dx=some od/\∀name,w6 name od=some (mA name):=by
 obtain⟨o,es,ep,ho,hd,hk,_,hm⟩:=n;refine⟨o,ho,λname=>?_⟩;have e:=hm name;unfold nsFind findBy at e;rw[<-Array.find?_toList] at e;unfold w6;rw[hd];dsimp only;split
 .rename_i y q;rw[q] at e;exact congrArg some e
 .rename_i q;rw[q] at e;have a:es.toList.any (·.refKey)=false:=by rw[List.any_eq_false];intro y hy;obtain⟨z,t,cY⟩:=hk y (Array.mem_toList_iff.mp hy);simp[DictEntry.refKey,cY]
  have a':¬ es.toList.any (·.refKey)=true:=by rw[a];exact Λ
  rw[ζ a'];exact congrArg some e
theorem Z2.look{h:qM}{x dx C : Ξ}{mA:qf->Option Δ}(I:Z2 h x dx C mA):∃od,PySem.W.InstAt h x (t6 C dx) C (some od)/\∀name,w6 name od=some (mA name):=
 let ⟨od,ho,hl⟩:=APl I.ns
 ⟨od,⟨I.obj,rfl,rfl,ho⟩,hl⟩
section
variable {prog:pQ}{w:qt}{A:qN}{E : Δ -> Ω -> Prop}{s : Ω}{K : ξ}{x dx C f : Ξ}{mA:qf->Option Δ}{name:qf}{v : Δ}
theorem get_map{expr:Bool}{Q : Δ -> Ω -> Prop}(X:K.In s.heap)(I:Z2 s.heap x dx C mA)(hg:we K C name=true)(hh:xo K C=true)
  (ha:tS K (.ref C) name=some none) (hv:mA name=some v) (ly:PySem.W.handedIn v=true) (h:Q v {s with toks:=s.toks+1}):
  p_ (model prog w) A (getAttr (.ref x) name expr) Q E s:=by
 obtain⟨od,J,hl⟩:=I.look;exact PySem.W.get_value X J (wM hg).1 (PySem.W.findObj_own hh ha rfl (by rw[hl,hv])) ly h
theorem ARz{pl:zH Bool}{Q : Δ × List Δ -> Ω -> Prop}(X:K.In s.heap)(I:Z2 s.heap x dx C mA)(hg:we K C name=true)
  (hf:tS K (.ref C) name=some (some (.ref f))) (ht:yL K (.ref f)=true) (hv:mA name=none) (h:Q (.ref f,[.ref x]) s):
  p_ (model prog w) A (getMethod (.ref x) name pl) Q E s:=by
 obtain⟨od,J,hl⟩:=I.look;exact PySem.W.method_fn X J (wM hg).1 (wM hg).2 hf (beq_iff_eq.mp ht) (by show(w6 name od).map (·.isSome)=some false;rw[hl,hv];rfl) h
theorem ASt{ns:List qf}{Q:Unit -> Ω -> Prop}(X:K.In s.heap)(I:Z2 s.heap x dx C mA)
  (hs:tS K (.ref C) "__setattr__" = some (some (.builtin "object.__setattr__"))) (hp:PySem.W.plainOver K C=true) (ht:xY K C name=some none) (hh:xo K C=true)
  (hw:yK mA ns) (hsz:ns.length<=pY)
  (h:∀h',Z2 h' x dx C (λy=>if y=name then some v else mA y)->vX dx s.heap h'->Q () {s with heap:=h',toks:=s.toks+2}):
  p_ (model prog w) A (setAttr (.ref x) name v) Q E s:=by
 obtain⟨od,J,hl⟩:=I.look;refine PySem.W.set_plain X J hs (PySem.W.osa_open (s:={s with toks:=s.toks+1}) (r:=none) X J hp ht λb=>?_);obtain⟨cd,hc,Et⟩:=PySem.W.any_some hh;have hx:s.heap.get? x=some ⟨.ref C,some dx,.plain,#[]⟩:=I.obj;refine c_ (pX (c_ (c_ (wpAny_loadPart hx (c_ (PySem.W.Looks.here (s:={s with toks:=s.toks+1}) (PySem.W.looks_clsIn X hc) ?_))))));rw[Et];refine pX (a:=some dx) (c_ (pX (c_ ?_)));refine wpAny_nsSet1 (s:={s with toks:=s.toks+1}) I.ns λh' hn2 iK=>?_;obtain⟨oD,esD,epD,hoD,hdD,hcD⟩:=hn2.count (PySem.Within.cons name v hw);refine c_ (wpAny_lookBehind hoD (by rw[hdD];exact pastItsLine_dict (a_ hcD (by rw[o_];omega))) ?_);exact pX (h _ ⟨(iK.2 _ (qk I.ne)).trans I.obj,hn2,I.ne⟩ iK)
theorem ARW{R:zu -> Ω -> Prop}{vs:List Δ}{kw:List (qf × Δ)}(X:K.In s.heap)(hm:PySem.W.makesIn K C=true)
  (hi:tS K (.ref C) "__init__" = some (some (.ref f))) (hf:PySem.W.typeIn K (.ref f)=some (.type "function"))
  (h:codeAny (model prog w) (A.under (.builtin "type.__call__" ⟨.ref C::vs,kw⟩)) (.call (.ref f) ⟨.ref (s.heap.objs.size+1)::vs,kw⟩) (PySem.W.InitBack (s.heap.objs.size+1) R)
   {s with heap:=(s.heap.push sJ).push (t6 C s.heap.objs.size)}):
  codeAny (model prog w) A (.call (.ref C) ⟨vs,kw⟩) R s:=by
 obtain⟨hh,g,d,t,os⟩:=s;exact PySem.W.make_core (PySem.W.makes_of X hm) (PySem.W.looks_findIn X hi) (λself=>PySem.W.bind_fn X self hf) (.inl rfl) h
end
def CT(f:qf)(v:V):List (qf×V)->List (qf×V)
 |[]=>[(f,v)]
 |(g,x)::r=>if g=f then(g,v)::r else(g,x)::CT f v r
theorem AGN(f g:qf)(v:V):∀fs:List (qf×V),(CT f v fs).lookup g=if g=f then some v else fs.lookup g
 |[]=>by
  show uy g [(f,v)]=_;by_cases h:g=f
  .have hb:(g==f)=true:=beq_iff_eq.mpr h;simp only[uy,hb,η h]
  .have hb:(g==f)=false:=beq_eq_false_iff_ne.mpr h;simp only[uy,hb,ζ h]
 |(k,x)::r=>by
  have ih:=AGN f g v r;rw[show CT f v ((k,x)::r)=(if k=f then(k,v)::r else(k,x)::CT f v r) from rfl];by_cases hk:k=f
  .rw[η hk];by_cases h:g=k
   .have hb:(g==k)=true:=beq_iff_eq.mpr h;simp only[uy,hb,η (h.trans hk)]
   .have hb:(g==k)=false:=beq_eq_false_iff_ne.mpr h;simp only[uy,hb,ζ (λe:g=f=>h (e.trans hk.symm))]
  .rw[ζ hk];by_cases h:g=k
   .have hb:(g==k)=true:=beq_iff_eq.mpr h;simp only[uy,hb,ζ (λe:g=f=>hk (h.symm.trans e))]
   .have hb:(g==k)=false:=beq_eq_false_iff_ne.mpr h;simp only[uy,hb];exact ih
theorem UP(f:qf)(v:V):∀fs:List (qf×V),f∈(CT f v fs).map (·.1)/\∀g,g∈fs.map (·.1)->g∈(CT f v fs).map (·.1)
 |[]=>⟨by simp[CT],λg h=>by simp at h⟩
 |(k,x)::r=>by
  obtain⟨i1,i2⟩:=UP f v r;rw[show CT f v ((k,x)::r)=(if k=f then(k,v)::r else(k,x)::CT f v r) from rfl];by_cases hk:k=f
  .rw[η hk];subst hk;exact⟨by simp,λg h=>by simpa using h⟩
  .rw[ζ hk];refine⟨?_,λg h=>?_⟩
   .rw[k_];exact θ _ i1
   .rw[k_] at h ⊢;rcases pM.mp h with e|e
    .exact pM.mpr (.inl e)
    .exact θ _ (i2 g e)
theorem Qc(f:qf)(v:V):∀fs:List (qf×V),(CT f v fs).length<=fs.length+1
 |[]=>by simp[CT]
 |(k,x)::r=>by
  have ih:=Qc f v r;rw[show CT f v ((k,x)::r)=(if k=f then(k,v)::r else(k,x)::CT f v r) from rfl];by_cases hk:k=f
  .rw[η hk,o_,o_];omega
  .rw[ζ hk,o_,o_];omega
theorem Pk.some_of{v:V}{o:Option Δ}(r:Pk (some v) o):∃u,o=some u/\RelV v u:=by
 cases o with
 |none=>exact(show False from r).elim
 |some u=>exact⟨u,rfl,r⟩
theorem Pk.none_of{o:Option Δ}(r:Pk none o):o=none:=by
 cases o with
 |none=>rfl
 |some u=>exact(show False from r).elim
theorem AP4{v:V}{u : Δ}(r:RelV v u):PySem.W.handedIn u=true:=by
 cases v with
 |Es=>cases (show u=uA from r);rfl
 |bl b=>cases (show u=wc b from r);rfl
 |int i=>obtain⟨t,e⟩:=(show∃t,u=rF i t from r);cases e;rfl
 |str x=>obtain⟨t,e⟩:=(show∃t,u=yp x t from r);cases e;rfl
 |Yn b=>obtain⟨t,e⟩:=(show∃t,u=Value.bytes b t from r);cases e;rfl
 |kX b=>obtain⟨t,e⟩:=(show∃t,u=Value.float b t from r);cases e;rfl
 |ref a=>cases (show u=qR a from r);rfl
 |ty n=>cases (show u=rY n from r);rfl
section
variable {P:pQ}{w:qt}{H H':Hp}{h h':qM}{a C dx : Ξ}{fs fs':List (qf×V)}
theorem YG(CC:Ot P w H h)(e:H a=some (.ins C dx fs)):∃mA,Z2 h a dx C mA/\(∀f,Pk (fs.lookup f) (mA f))/\yK mA (fs.map (·.1))/\fs.length<=1000/\H dx=some (.own a):=by
 obtain⟨d,z,ne,ob,mA,n,r,q⟩:=(show Fe P w H h a (.ins C dx fs) from CC a _ e)
 exact⟨mA,⟨ob,n,ne⟩,r,q,z,d⟩
end
structure Tj(K : ξ)(C : Ξ):Prop where
 pg:we K C Str.empty=true
 hd:xo K C=true
 po:PySem.W.plainOver K C=true
 sa:tS K (.ref C) "__setattr__" = some (some (.builtin "object.__setattr__"))
theorem Tj.get{K : ξ}{C : Ξ}(c:Tj K C)(f:qf):we K C f=true:=c.pg
def Cp(K : ξ)(C : Ξ)(f:qf):Prop:=tS K (.ref C) f=some none
theorem Cp.taker{K : ξ}{C : Ξ}{f:qf}(n:Cp K C f):xY K C f=some none:=by unfold xY;rw[show tS K (.ref C) f=some none from n];rfl
structure Meth(K : ξ)(C : Ξ)(m:qf)(f : Ξ):Prop where
 at_:tS K (.ref C) m=some (some (.ref f))
 fn:yL K (.ref f)=true
 kp:sP K (.ref f)=true
section
variable {X:Cx}{AB:List (Ξ × sR)}{σ:St}{H:Hp}{s : Ω}{a C dx : Ξ}{fs:List (qf×V)}{f:qf}{v:V}{A:qN}{E : Δ -> Ω -> Prop}
theorem ANa{b:Bool}{Q : Δ -> Ω -> Prop}(I:Inv X AB σ H s)(e:H a=some (.ins C dx fs))(c:Tj X.K C)(n:Cp X.K C f)(l:fs.lookup f=some v)
  (h:∀u s',Inv X AB σ H s'->RelV v u->Q u s'):p_ (model X.prog X.w) A (getAttr (.ref a) f b) Q E s:=by
 obtain⟨mA,O,r,_,_,_⟩:=YG I.CC e;obtain⟨u,hu,ru⟩:=Pk.some_of (v:=v) (o:=mA f) (by rw[<-l];exact r f);exact get_map I.YF O (c.get f) c.hd n hu (AP4 ru) (h u _ (I.tok _) ru)
theorem SH{m:qf}{g : Ξ}{pl:zH Bool}{Q : Δ × List Δ -> Ω -> Prop}(I:Inv X AB σ H s)(e:H a=some (.ins C dx fs))(c:Tj X.K C)(k:Meth X.K C m g)(l:fs.lookup m=none)
  (h:Q (.ref g,[.ref a]) s):p_ (model X.prog X.w) A (getMethod (.ref a) m pl) Q E s:=by
 obtain⟨mA,O,r,_,_,_⟩:=YG I.CC e;have hn:mA m=none:=Pk.none_of (by rw[<-l];exact r m);exact ARz I.YF O (c.get m) k.at_ k.fn hn h
theorem AM9{y:V}{u : Δ}{Q:Unit -> Ω -> Prop}(I:Inv X AB σ H s)(e:H a=some (.ins C dx fs))(c:Tj X.K C)(n:Cp X.K C f)(hl:fs.length<1000)(ry:RelV y u)
  (h:∀s',Inv X AB σ (upd H a (.ins C dx (CT f y fs))) s'->Q () s'):p_ (model X.prog X.w) A (setAttr (.ref a) f u) Q E s:=by
 obtain⟨mA,O,r,wi,_,ho⟩:=YG I.CC e;have hz:(fs.map (·.1)).length<=pY:=by rw[χ,yc];omega
 refine ASt I.YF O c.sa c.po n.taker c.hd wi hz λh' O' sb=>h _ ?_;have hd:∃o,h'.get? dx=some o:=let ⟨o,_,_,e',_⟩:=O'.ns;⟨o,e'⟩
 refine I.write (x:=a) (e:=dx) (by rw[e];exact uK) (.inr ho) (λb q hb z=>(sb.2 b hb).trans z) hd ?_;refine⟨by rw[AH O.ne];exact ho,?_,O.ne,O'.obj,_,O'.ns,λg=>?_,λg hg=>?_⟩
 .have:=Qc f y fs;omega
 .show Pk ((CT f y fs).lookup g) (if g=f then some u else mA g);rw[AGN];by_cases q:g=f
  .rw[η q,η q];exact ry
  .rw[ζ q,ζ q];exact r g
 .by_cases q:g=f
  .rw[q];exact(UP f y fs).1
  .refine(UP f y fs).2 g (wi g λz=>hg ?_);show(if g=f then some u else mA g)=none;rw[ζ q];exact z
theorem Inv.made(I:Inv X AB σ H s):Inv X AB σ (upd (upd H s.heap.objs.size (.own (s.heap.objs.size+1))) (s.heap.objs.size+1) (.ins C s.heap.objs.size []))
  {s with heap:=(s.heap.push sJ).push (t6 C s.heap.objs.size)}:=by
 have e1:(s.heap.push sJ).get? s.heap.objs.size=some sJ:=pV s.heap rfl;have e2:((s.heap.push sJ).push (t6 C s.heap.objs.size)).get? (s.heap.objs.size+1)=some (t6 C s.heap.objs.size):=by have:=pV (s.heap.push sJ) (o:=t6 C s.heap.objs.size) rfl;rwa[r9] at this
 have e3:(s.heap.push sJ).Ns s.heap.objs.size (λ_=>none):=⟨sJ,#[],_,e1,rfl,(λe he=>absurd he (by simp)),λ_=>rfl⟩
 have I1:=I.laid (a:=s.heap.objs.size) (o:=.own (s.heap.objs.size+1)) (h':=s.heap.push sJ) (t':=s.toks) (λb u q=>pq _ q) (b_ _) ⟨_,e1⟩;refine I1.laid (a:=s.heap.objs.size+1) (o:=.ins C s.heap.objs.size []) (t':=s.toks) (λb u q=>pq _ q) (vS (r9 _ _)) ?_;have ne:s.heap.objs.size≠s.heap.objs.size+1:=qK (tG _);refine⟨by rw[AH ne,AD],qG _,ne,e2,λ_=>none,(Heap.Ns1.of_empty e3).at λo q=>pq _ q,λ_=>uK,λy hy=>absurd rfl hy⟩
theorem ATx{prog:pQ}{w:qt}{env:yx}{e:qU}{f:qf}{pos:Pos}{s : Ω}{Q : Δ -> Ω -> Prop}(hb:uV e f env (eval e env)=eval e env)
  (h:p_ (model prog w) A (eval e env) (λo s₁=>p_ (model prog w) A (getAttr o f true) Q E s₁) E s):p_ (model prog w) A (eval (.Attribute e f pos) env) Q E s:=
 Attribute_any_ h (by rw[arm_eval_Attribute,hb])
end
def gn(K : ξ)(ta:TE)(f:qf):TE:=λσ H Q=>ta σ H λx H1=>∃a C dx fs v,x=.ref a/\H1 a=some (.ins C dx fs)/\Tj K C/\Cp K C f/\fs.lookup f=some v/\Q v H1
def AWB(K : ξ)(ta tv:TE)(f:qf):TS:=λD σ H=>tv σ H λy H1=>ta σ H1 λx H2=>∃a C dx fs,x=.ref a/\H2 a=some (.ins C dx fs)/\Tj K C/\Cp K C f/\fs.length<1000 /\
 D.nx σ (upd H2 a (.ins C dx (CT f y fs)))
section
variable {X:Cx}{o e value:qU}{f:qf}{pos pos' AXJ:Pos}{ta tv:TE}
theorem Mz(he:PE X e ta)(hb:uV e f X.env (eval e X.env)=eval e X.env):PE X (.Attribute e f pos) (gn X.K ta f):=by intro AB s σ H Q I h;refine ATx hb (EC (he AB s σ H _ I h) λu s1 ⟨x,H1,I1,rx,a,C,dx,fs,v,ex,ea,c,n,l,q⟩=>?_);subst ex;obtain rfl:u=qR a:=rx;exact ANa I1 ea c n l λu' s2 I2 ru=>⟨v,H1,I2,ru,q⟩
theorem Dh(ha:PE X o ta)(hv:PE X value tv)(hs:swapsWith value (some (.Attribute o f pos')) pos.line X.env=pure false):PS X (.Assign [.Attribute o f pos'] value pos) (AWB X.K ta tv f):=by intro AB s σ H D I h;refine plainObj_wpAny_Assign_Attribute (EC (hv AB s σ H _ I h) λu s1 ⟨y,H1,I1,ry,q⟩=>EC (ha AB s1 σ H1 _ I1 q) λov s2 ⟨x,H2,I2,rx,a,C,dx,fs,ex,ea,c,n,l,q2⟩=>?_) hs;subst ex;obtain rfl:ov=qR a:=rx;exact AM9 I2 ea c n l ry λs3 I3=>⟨σ,_,I3,q2⟩
theorem AUO{pl:zH Bool}{m:qf}{apos:Pos}{args:List qU}{AB:List (Ξ × sR)}{s : Ω}{σ:St}{H:Hp}{Q : Δ -> Ω -> Prop}{te:TE}(he:PE X e te)(I:Inv X AB σ H s)
  (h:te σ H λx H1=>∃a C dx fs g,x=.ref a/\H1 a=some (.ins C dx fs)/\Tj X.K C/\Meth X.K C m g/\fs.lookup m=none /\
   ∀s1,Inv X AB σ H1 s1->p_ (model X.prog X.w) X.A (callWith pos (.ref g) [.ref a] (backTo pos (qy args X.env)) (backToKw pos (keywordEach [] X.env))) Q X.xe s1)
  (ht:eval (.Call (.Attribute e m apos) args [] pos) X.env=(do
   let ov <-eval e X.env
   standAt apos.atName
   let (f,first) <-holding [ov] (getMethod ov m pl)
   callWith pos f first (backTo pos (qy args X.env)) (backToKw pos (keywordEach [] X.env)))):
  p_ (model X.prog X.w) X.A (eval (.Call (.Attribute e m apos) args [] pos) X.env) Q X.xe s:=by
 refine v7 (pl:=pl) (EC (he AB s σ H _ I h) λu s1 ⟨x,H1,I1,rx,a,C,dx,fs,g,ex,ea,c,k,l,q⟩=>?_) ht;subst ex;obtain rfl:u=qR a:=rx;exact SH I1 ea c k l (q s1 I1)
end
section
variable {X:Cx}{AB:List (Ξ × sR)}{σ:St}{H:Hp}{s : Ω}{A:qN}{E : Δ -> Ω -> Prop}{Q : Δ -> Ω -> Prop}{c : Δ}{b:Bool}
end
structure EI(k:Nat)(A:qN):Prop where
 hd:A.handled=none
 dp:A.depth+3*k+5<recursionLimit
 un:A.units+16*k+200<cLine
theorem EI.mono{j k:Nat}{A:qN}(r:EI k A)(h:j<=k):EI j A:=⟨r.hd,by have:=r.dp;omega,by have:=r.un;omega⟩
theorem EI.deeper{k:Nat}{A:qN}(r:EI (k+1) A)(env:yx):EI k (A.deeper env):=⟨r.hd,by have:=r.dp;show A.depth+1+3*k+5<_;omega,by have:=r.un;show A.units+3+16*k+200<_;omega⟩
theorem EI.in1{k:Nat}{A:qN}(r:EI (k+1) A):EI k A.in1:=⟨r.hd,by have:=r.dp;show A.depth+3*k+5<_;omega,by have:=r.un;show A.units+1+16*k+200<_;omega⟩
theorem ANQ{A:qN}{C : Ξ}{us:List Δ}{kw:List (qf × Δ)}:(A.under (.builtin "type.__call__" ⟨.ref C::us,kw⟩)).depth=A.depth+1:=by first|rfl|simp[yS,Code.weight,Code.isCreation,Code.isGuard,Code.isCaller,Code.frames,yQ,guardIds]
theorem ANP{A:qN}{C : Ξ}{us:List Δ}{kw:List (qf × Δ)}:(A.under (.builtin "type.__call__" ⟨.ref C::us,kw⟩)).units=A.units+1:=by first|rfl|simp[yS,Code.cUnits,Code.frames,yQ]
theorem EI.make{k:Nat}{A:qN}(r:EI (k+1) A)(C : Ξ)(us:List Δ)(kw:List (qf × Δ)):EI k (A.under (.builtin "type.__call__" ⟨.ref C::us,kw⟩)):=⟨r.hd,by have:=r.dp;rw[ANQ];omega,by have:=r.un;rw[ANP];omega⟩
theorem EI.depth{k:Nat}{A:qN}(r:EI k A):A.depth<recursionLimit:=by have:=r.dp;omega
theorem EI.units{k:Nat}{A:qN}(r:EI k A):A.units+64<cLine:=by have:=r.un;omega
theorem EI.AUb{k:Nat}{A:qN}(r:EI k A):A.units<cLine:=by have:=r.un;omega
def aQ:TA:=λ_ H Q=>Q [] H
def bu(ta:TE)(tr:TA):TA:=λσ H Q=>ta σ H λx H1=>tr σ H1 λxs H2=>Q (x::xs) H2
section
variable {X:Cx}{e:qU}{es:List qU}{te:TE}{t:TA}{pos:Pos}
theorem AF:PA X [] aQ:=λ_ _ _ _ H Q I h=>xA ⟨[],H,I,.nil,h⟩
theorem AA(ha:PE X e te)(hr:PA X es t)(hs:qy (e::es) X.env=(false,eval e X.env)::qy es X.env:=by rfl):PA X (e::es) (bu te t):=by intro pos AB s σ H Q I h;rw[hs];show p_ _ _ (spliced ((false,eval e X.env)::backTo pos (qy es X.env))) _ _ s;refine vJ (EC (ha AB s σ H _ I h) λu s1 ⟨x,H1,I1,r1,q1⟩=>?_);exact EC (hr pos AB s1 σ H1 _ I1 q1) λus s2 ⟨xs,H2,I2,r2,q2⟩=>⟨x::xs,H2,I2,.cons r1 r2,q2⟩
def AVw(t:TA):TE:=λσ H Q=>t σ H λxs H1=>xs.length<=pY/\∀p,H1 p=none->Q (.ref p) (upd H1 p (.tup xs))
def AV1(t:TA):TE:=λσ H Q=>t σ H λxs H1=>xs.length<=pY/\∀p,H1 p=none->Q (.ref p) (upd H1 p (.lst xs))
theorem I0{x1}(h:PA X es t):PE X (.Tuple es x1 pos) (AVw t):=by intro AB s σ H Q I hq;refine wpAny_Tuple_spliced (EC (h pos AB s σ H _ I hq) λus s1 ⟨xs,H1,I1,r,z,q⟩=>⟨by rw[<-r.length];exact z,?_⟩);have hf:H1 s1.heap.objs.size=none:=I1.CC.fresh (b_ _);refine⟨.ref s1.heap.objs.size,upd H1 s1.heap.objs.size (.tup xs),I1.laid (t':=s1.toks) (λb u e=>pq _ e) (b_ _) ?_,rfl,q _ hf⟩;exact⟨z,us,r,⟨_,pV _ rfl,rfl,_,rfl⟩⟩
theorem EV(h:PA X es t):PE X (.List es pos) (AV1 t):=by intro AB s σ H Q I hq;refine wpAny_List_spliced (EC (h pos AB s σ H _ I hq) λus s1 ⟨xs,H1,I1,r,z,q⟩=>⟨by rw[<-r.length];exact z,?_⟩);have hf:H1 s1.heap.objs.size=none:=I1.CC.fresh (b_ _);refine⟨.ref s1.heap.objs.size,upd H1 s1.heap.objs.size (.lst xs),I1.laid (t':=s1.toks) (λb u e=>pq _ e) (b_ _) ?_,rfl,q _ hf⟩;exact⟨z,us,0,r,pV _ rfl⟩
end
abbrev Sp:=List V->Hp->VK->XK->Prop
abbrev Y6:=List yx->Hp -> Ω -> XK -> Δ -> Ω -> Prop
structure Uz(P:pQ)(w:qt)(K : ξ)(mg:qf->Option Δ)(AG:qM)(A:qN)(AR:List yx)(s : Ω)(H:Hp):Prop where
 frames:A.frames=some AR
 mod:Mod K mg AG
 bs:∀b o,AG.get? b=some o->s.heap.get? b=some o/\H b=none
 bV:AG.objs.size<=s.heap.objs.size
 TM:s.heap.FunFrames AG AR
 fX:∀b∈dG AR,H b=none
 CC:Ot P w H s.heap
 bare:yu s.gens
inductive CE(AR:List yx)(P:pQ)(w:qt)(H:Hp)(s : Ω)(Q:VK)(u : Δ)(s' : Ω):Prop
 |mk (v:V) (H':Hp):s'.os=s.os->yu s'.gens->Un (dG AR) [] H H' s.heap s'.heap->Ot P w H' s'.heap->RelV v u->Q v H'->CE AR P w H s Q u s'
def CR(CX:Y6)(AR:List yx)(P:pQ)(w:qt)(H:Hp)(s : Ω)(Q:VK)(E:XK)(r:zu)(s' : Ω):Prop:=
 match r with
 |.ok (.ret u)=>CE AR P w H s Q u s'
 |.ok _=>False
 |.error e=>CX AR H s E e s'
structure A2(P:pQ)(w:qt)(K : ξ)(mg:qf->Option Δ)(AG:qM)(CX:Y6)(k:Nat)(f : Ξ)(fd:tE)(ps:List qf)(sp:Sp):Prop where
 len:∀vs H Q E,sp vs H Q E->vs.length=ps.length
 run:∀(A:qN) (AR:List yx) (s : Ω) (H:Hp) (args:Args) (us:List Δ) (vs:List V) (Q:VK) (E:XK),EI k A->Uz P w K mg AG A AR s H->wY s fd args (ps.zip us)->Vals vs us->sp vs H Q E ->
  codeAny (model P w) A (.call (.ref f) args) (CR CX AR P w H s Q E) s
theorem A2.mono{P:pQ}{w:qt}{K : ξ}{mg:qf->Option Δ}{AG:qM}{CX:Y6}{j k:Nat}{f : Ξ}{fd:tE}{ps:List qf}{sp:Sp}(F:A2 P w K mg AG CX j f fd ps sp)(h:j<=k):
  A2 P w K mg AG CX k f fd ps sp:=⟨F.len,λA AR s H args us vs Q E hr=>F.run A AR s H args us vs Q E (hr.mono h)⟩
theorem A2.imp{P:pQ}{w:qt}{K : ξ}{mg:qf->Option Δ}{AG:qM}{CX:Y6}{k:Nat}{f : Ξ}{fd:tE}{ps:List qf}{sp sp':Sp}(F:A2 P w K mg AG CX k f fd ps sp)
  (h:∀vs H Q E,sp' vs H Q E->sp vs H Q E):A2 P w K mg AG CX k f fd ps sp':=
 ⟨λvs H Q E q=>F.len vs H Q E (h _ _ _ _ q),λA AR s H args us vs Q E hr he hb hv hs=>F.run A AR s H args us vs Q E hr he hb hv (h _ _ _ _ hs)⟩
theorem Uz.make{P:pQ}{w:qt}{K : ξ}{mg:qf->Option Δ}{AG:qM}{A:qN}{AR:List yx}{s : Ω}{H:Hp}(e:Uz P w K mg AG A AR s H)(C : Ξ)(us:List Δ)(kw:List (qf × Δ)):
  Uz P w K mg AG (A.under (.builtin "type.__call__" ⟨.ref C::us,kw⟩)) AR s H:=⟨by first|exact e.frames|(simpa[yS,Code.envs,yQ,pushEnvs] using e.frames),e.mod,e.bs,e.bV,e.TM,e.fX,e.CC,e.bare⟩
theorem Uz.in1{P:pQ}{w:qt}{K : ξ}{mg:qf->Option Δ}{AG:qM}{A:qN}{AR:List yx}{s : Ω}{H:Hp}(e:Uz P w K mg AG A AR s H):
  Uz P w K mg AG A.in1 AR s H:=⟨e.frames,e.mod,e.bs,e.bV,e.TM,e.fX,e.CC,e.bare⟩
section
variable {X:Cx}{AB:List (Ξ × sR)}{σ:St}{H:Hp}{s s' : Ω}
theorem Inv.fh(I:Inv X AB σ H s):Uz X.prog X.w X.K X.mg X.AG X.A X.stack s H:=⟨I.ok.frames,I.ok.mod,I.bs,a_ I.ok.bV I.sz,I.stack,I.AN1,I.CC,I.bare⟩
theorem Inv.after{Q:VK}{u : Δ}(I:Inv X AB σ H s)(h:CE X.stack X.prog X.w H s Q u s'):EP X AB σ Q u s':=by obtain⟨v,H',os,bare,un,CC,r,q⟩:=h;obtain⟨hh,g,d,t,os'⟩:=s';obtain rfl:os'=s.os:=os;exact⟨v,H',I.call (h':=hh) (g':=g) (d':=d) (t':=t) (ch:=[]) un CC bare (λb z=>absurd z (by simp)),r,q⟩
end
def bx(sp:Sp)(Us:List V)(E:XK)(t:TA):TE:=λσ H Q=>t σ H λvs H1=>sp (app vs Us) H1 Q E
def bh(C : Ξ)(m:qf)(sp:Sp)(Us:List V)(E:XK)(ta:TE)(t:TA):TE:=λσ H Q=>ta σ H λx H1=>∃a dx fs,x=.ref a/\H1 a=some (.ins C dx fs)/\fs.lookup m=none /\
 t σ H1 λvs H2=>sp (x::app vs Us) H2 Q E
def bq(C : Ξ)(sp:Sp)(Us:List V)(E:XK)(t:TA):TE:=λσ H Q=>t σ H λvs H1=>∀x dx,H1 x=none->H1 dx=none->dx≠x ->
 sp (.ref x::app vs Us) (upd (upd H1 dx (.own x)) x (.ins C dx [])) (λv H2=>v=.Es/\Q (.ref x) H2) E
def Binds(K : ξ)(fd:tE)(ps:List qf)(ds:List Δ):Prop:=∀(s : Ω) (us:List Δ),K.In s.heap->(us++ds).length=ps.length->wY s fd ⟨us,[]⟩ (ps.zip (us++ds))
theorem Binds.all{K : ξ}{fd:tE}{ps:List qf}(h:∀us:List Δ,us.length=ps.length->bindArgs fd ⟨us,[]⟩=pure (ps.zip us)):Binds K fd ps []:=λs us _ hl=>by rw[rC] at hl ⊢;exact .of_eq (h us hl)
def Passes(CX:Y6)(X:Cx)(E:XK):Prop:=∀(AB:List (Ξ × sR)) (σ:St) (H:Hp) (s : Ω) (e : Δ) (s' : Ω),Inv X AB σ H s->CX X.stack H s E e s'->X.xe e s'
section
variable {X:Cx}{CX:Y6}{k:Nat}{f C : Ξ}{fd:tE}{ps:List qf}{sp:Sp}{Us:List V}{ds:List Δ}{E:XK}{x m:qf}{p pos apos:Pos}{e o:qU}{es:List qU}{ta:TE}{t:TA}
theorem Vm{AB:List (Ξ × sR)}{σ:St}{H:Hp}{s : Ω}{Q:VK}{us:List Δ}{vs:List V}(F:A2 X.prog X.w X.K X.mg X.AG CX k f fd ps sp)(hr:EI k X.A)(hb:Binds X.K fd ps ds)(hd:Vals Us ds)(hx:Passes CX X E)
  (I:Inv X AB σ H s) (r:Vals vs us) (h:sp (vs++Us) H Q E):p_ (model X.prog X.w) X.A (call (.ref f) us) (EP X AB σ Q) X.xe s:=by
 have r2:Vals (vs++Us) (us++ds):=r.append hd;have hl:(us++ds).length=ps.length:=by rw[<-r2.length];exact F.len _ _ _ _ h
 refine zc (vN (F.run X.A X.stack s H ⟨us,[]⟩ (us++ds) (vs++Us) Q E hr I.fh (hb s us I.YF hl) r2 h) λr s' hq=>?_);cases r with
 |error e=>exact hx AB σ H s e s' I hq
 |ok fl=>
  cases fl with
  |ret u=>exact I.after hq
  |next=>exact rL hq
  |brk=>exact rL hq
  |cont=>exact rL hq
theorem Af(F:A2 X.prog X.w X.K X.mg X.AG CX k f fd ps sp)(hr:EI k X.A)(hg:Gl X x)(hm:X.mg x=some (.ref f))(hk:sP X.K (.ref f)=true)(hb:Binds X.K fd ps ds)(hd:Vals Us ds)(hx:Passes CX X E)
  (ha:PA X (e::es) t) (cg:(x==("__debug__" : qf))=false:=by decide) (he:qy (e::es) X.env=(false,eval e X.env)::qy es X.env:=by rfl) (RM:(backTo pos (qy es X.env)).any (·.1)=false:=by rfl):
  PE X (.Call (.Name x p) (e::es) [] pos) (bx sp Us E t):=by
 intro AB s σ H Q I h;refine rX (S3 I hg hm ?_ cg);refine vG (h₀:=X.AG) I.ok.mod.jS hk (EC (ha pos AB s σ H _ I h) λus s1 ⟨vs,H1,I1,r,q⟩=>⟨I1.YF,?_⟩) he RM;exact Vm F hr hb hd hx I1 r (by rw[<-Ug];exact q)
theorem ARC(F:A2 X.prog X.w X.K X.mg X.AG CX k f fd ps sp)(hr:EI k X.A)(hg:Gl X x)(hm:X.mg x=some (.ref f))(hk:sP X.K (.ref f)=true)(hb:Binds X.K fd ps ds)(hd:Vals Us ds)(hx:Passes CX X E)
  (cg:(x==("__debug__" : qf))=false:=by decide):PE X (.Call (.Name x p) [] [] pos) (bx sp Us E aQ):=by
 intro AB s σ H Q I h;refine rX (S3 I hg hm ?_ cg);exact wN I.YF hk (Vm (us:=[]) F hr hb hd hx I .nil (by rw[<-Ug];exact h))
theorem Aj{pl:zH Bool}(he:PE X o ta)(c:Tj X.K C)(hm:Meth X.K C m f)(F:A2 X.prog X.w X.K X.mg X.AG CX k f fd ps sp)(hr:EI k X.A)(hb:Binds X.K fd ps ds)(hd:Vals Us ds)(hx:Passes CX X E)(ha:PA X (e::es) t)
  (Wm:qy (e::es) X.env=(false,eval e X.env)::qy es X.env:=by rfl) (RM:(backTo pos (qy es X.env)).any (·.1)=false:=by rfl)
  (ht:eval (.Call (.Attribute o m apos) (e::es) [] pos) X.env=(do
   let ov <-eval o X.env
   standAt apos.atName
   let (f,first) <-holding [ov] (getMethod ov m pl)
   callWith pos f first (backTo pos (qy (e::es) X.env)) (backToKw pos (keywordEach [] X.env))):=by rfl):
  PE X (.Call (.Attribute o m apos) (e::es) [] pos) (bh C m sp Us E ta t):=by
 intro AB s σ H Q I h;refine v7 (pl:=pl) (EC (he AB s σ H _ I h) λu s1 ⟨x,H1,I1,rx,a,dx,fs,ex,ea,l,q⟩=>?_) ht;subst ex;obtain rfl:u=qR a:=rx;refine SH I1 ea c hm l ?_;refine vG (first:=[.ref a]) (h₀:=X.AG) I.ok.mod.jS hm.kp (EC (ha pos AB s1 σ H1 _ I1 q) λus s2 ⟨vs,H2,I2,r,q2⟩=>⟨I2.YF,?_⟩) Wm RM;exact Vm (us:=.ref a::us) (vs:=.ref a::vs) F hr hb hd hx I2 (.cons rfl r) (by rw[wg,<-Ug];exact q2)
theorem Cc{pl:zH Bool}(he:PE X o ta)(c:Tj X.K C)(hm:Meth X.K C m f)(F:A2 X.prog X.w X.K X.mg X.AG CX k f fd ps sp)(hr:EI k X.A)(hb:Binds X.K fd ps ds)(hd:Vals Us ds)(hx:Passes CX X E)
  (ht:eval (.Call (.Attribute o m apos) [] [] pos) X.env=(do
   let ov <-eval o X.env
   standAt apos.atName
   let (f,first) <-holding [ov] (getMethod ov m pl)
   callWith pos f first (backTo pos (qy [] X.env)) (backToKw pos (keywordEach [] X.env))):=by rfl):
  PE X (.Call (.Attribute o m apos) [] [] pos) (bh C m sp Us E ta aQ):=by
 intro AB s σ H Q I h;refine v7 (pl:=pl) (EC (he AB s σ H _ I h) λu s1 ⟨x,H1,I1,rx,a,dx,fs,ex,ea,l,q⟩=>?_) ht;subst ex;obtain rfl:u=qR a:=rx;refine SH I1 ea c hm l ?_;exact wN (first:=[.ref a]) I1.YF hm.kp (Vm (us:=[.ref a]) (vs:=[.ref a]) F hr hb hd hx I1 (.cons rfl .nil) (by rw[wg,<-Ug];exact q))
structure Mk(K : ξ)(C f : Ξ):Prop where
 makes:PySem.W.makesIn K C=true
 init:tS K (.ref C) "__init__" = some (some (.ref f))
 fn:yL K (.ref f)=true
 kp:sP K (.ref C)=true
theorem ALS{AB:List (Ξ × sR)}{σ:St}{H:Hp}{s : Ω}{Q:VK}{us:List Δ}{vs:List V}(M:Mk X.K C f)(F:A2 X.prog X.w X.K X.mg X.AG CX k f fd ps sp)(hr:EI (k+1) X.A)(hb:Binds X.K fd ps ds)(hd:Vals Us ds)
  (hx:Passes CX X E) (I:Inv X AB σ H s) (r:Vals vs us)
  (h:∀x dx,H x=none->H dx=none->dx≠x->sp (.ref x::(vs++Us)) (upd (upd H dx (.own x)) x (.ins C dx [])) (λv H2=>v=.Es/\Q (.ref x) H2) E):
  p_ (model X.prog X.w) X.A (call (.ref C) us) (EP X AB σ Q) X.xe s:=by
 have hq:=h (s.heap.objs.size+1) s.heap.objs.size (I.CC.fresh (wB _)) (I.CC.fresh (b_ _)) (qK (tG _));have I2:=Inv.made (C:=C) I;have r2:Vals (V.ref (s.heap.objs.size+1)::(vs++Us)) (qR (s.heap.objs.size+1)::(us++ds)):=.cons rfl (r.append hd);have hl:(qR (s.heap.objs.size+1)::us++ds).length=ps.length:=by have e:=r2.length;rw[F.len _ _ _ _ hq] at e;exact e.symm
 refine zc (ARW (f:=f) I.YF M.makes M.init (beq_iff_eq.mp M.fn) (vN (F.run _ X.stack _ _ ⟨qR (s.heap.objs.size+1)::us,[]⟩ (qR (s.heap.objs.size+1)::(us++ds)) _ _ E (hr.make C us [])
  (I2.fh.make C us []) (hb _ (qR (s.heap.objs.size+1)::us) I2.YF hl) r2 hq) λr s' YH=>?_))
 cases r with
 |error e=>exact hx AB σ _ _ e s' I2 YH
 |ok fl=>
  cases fl with
  |ret u=>obtain⟨v,H',I3,rv,ev,q3⟩:=I2.after YH;subst ev;exact⟨rv,⟨V.ref (s.heap.objs.size+1),H',I3,rfl,q3⟩⟩
  |next=>exact rL YH
  |brk=>exact rL YH
  |cont=>exact rL YH
theorem Sn(M:Mk X.K C f)(F:A2 X.prog X.w X.K X.mg X.AG CX k f fd ps sp)(hr:EI (k+1) X.A)(hg:Gl X x)(hm:X.mg x=some (.ref C))(hb:Binds X.K fd ps ds)(hd:Vals Us ds)(hx:Passes CX X E)
  (ha:PA X (e::es) t) (cg:(x==("__debug__" : qf))=false:=by decide) (he:qy (e::es) X.env=(false,eval e X.env)::qy es X.env:=by rfl) (RM:(backTo pos (qy es X.env)).any (·.1)=false:=by rfl):
  PE X (.Call (.Name x p) (e::es) [] pos) (bq C sp Us E t):=by
 intro AB s σ H Q I h;refine rX (S3 I hg hm ?_ cg);refine vG (h₀:=X.AG) I.ok.mod.jS M.kp (EC (ha pos AB s σ H _ I h) λus s1 ⟨vs,H1,I1,r,q⟩=>⟨I1.YF,?_⟩) he RM;exact ALS M F hr hb hd hx I1 r (λx dx h1 h2 h3=>by rw[<-Ug];exact q x dx h1 h2 h3)
theorem Vx(M:Mk X.K C f)(F:A2 X.prog X.w X.K X.mg X.AG CX k f fd ps sp)(hr:EI (k+1) X.A)(hg:Gl X x)(hm:X.mg x=some (.ref C))(hb:Binds X.K fd ps ds)(hd:Vals Us ds)(hx:Passes CX X E)
  (cg:(x==("__debug__" : qf))=false:=by decide):PE X (.Call (.Name x p) [] [] pos) (bq C sp Us E aQ):=by
 intro AB s σ H Q I h;refine rX (S3 I hg hm ?_ cg);exact wN I.YF M.kp (ALS (us:=[]) M F hr hb hd hx I .nil (λx dx h1 h2 h3=>by rw[<-Ug];exact h x dx h1 h2 h3))
end
def PK(X:Cx)(j8:List xV)(t:TA):Prop:=∀(pos:Pos) (AB:List (Ξ × sR)) (s : Ω) (σ:St) (H:Hp) (Q:List V->Hp->Prop),Inv X AB σ H s->t σ H Q->p_ (model X.prog X.w) X.A (evalAll ((backToKw pos (keywordEach j8 X.env)).map (·.2))) (AP X AB σ Q) X.xe s
section
variable {X:Cx}{CX:Y6}{k:Nat}{f C : Ξ}{fd:tE}{ps ks:List qf}{sp:Sp}{E:XK}{x m:qf}{p pos apos kpos:Pos}{e o:qU}{es:List qU}{j8:List xV}{te ta:TE}{t tk:TA}{nm:Option qf}
theorem AQ4:PK X [] aQ:=λ_ _ _ _ H Q I h=>wpAny_evalAll_nil ⟨[],H,I,.nil,h⟩
theorem AOM(ha:PE X e te)(hr:PK X j8 t):PK X (⟨nm,e,kpos⟩::j8) (bu te t):=by intro pos AB s σ H Q I h;show p_ _ _ (evalAll ((do let v <-eval e X.env;standAt pos;pure v)::(backToKw pos (keywordEach j8 X.env)).map (·.2))) _ _ s;refine wpAny_evalAll_cons (c_ (EC (ha AB s σ H _ I h) λu s1 ⟨x,H1,I1,r1,q1⟩=>c_ (yy (pX ?_))));exact EC (hr pos AB s1 σ H1 _ I1 q1) λus s2 ⟨xs,H2,I2,r2,q2⟩=>⟨x::xs,H2,I2,.cons r1 r2,q2⟩
variable {g:List Δ -> List Δ -> List Δ}{gV:List V->List V->List V}
end
structure AU(N P:List qf)(sc:ua):Prop where
 kind:sc.kind=.function
 co:sc.isCoroutine=false
 gen:sc.isGenerator=false
 nd:N.Nodup
 pre:N.take P.length=P
 par:∀x∈P,sc.names.lookup x=some .local\/sc.names.lookup x=some .cell
 AVB:∀y∈sc.names,y.2≠.free
theorem AKC{kindOf:qf->Option ud}{x:qf}:∀{binds:List (qf × Δ)}{m:qf->Option Δ},(∀v,(x,v)∉binds)->bindL kindOf binds m x=m x
 |[],_,_=>rfl
 |(n,v)::r,m,h=>by
  unfold bindL;rw[AKC λw hw=>h w (θ _ hw)];split
  .have:x≠n:=by rintro rfl;exact h v υ
   simp[this]
  .rfl
theorem AKE{kindOf:qf->Option ud}{x:qf}:∀{binds:List (qf × Δ)}{m:qf->Option Δ},(∀v,(x,v)∉binds)->bindC kindOf binds m x=m x
 |[],_,_=>rfl
 |(n,v)::r,m,h=>by
  unfold bindC;rw[AKE λw hw=>h w (θ _ hw)];split
  .rfl
  .have:x≠n:=by rintro rfl;exact h v υ
   simp[this]
theorem AKD{kindOf:qf->Option ud}{x:qf}{v : Δ}:∀{P:List qf}{vs:List Δ}{i:Nat}{m:qf->Option Δ},P.Nodup->P[i]?=some x->vs[i]?=some v->kindOf x=some .local ->
  bindL kindOf (P.zip vs) m x=some v
 |[],_,_,_,_,h,_,_=>by simp at h
 |_::_,[],_,_,_,_,h,_=>by simp at h
 |p::P,w::vs,0,m,nd,h1,h2,hk=>by simp at h1 h2;subst h1;subst h2;show bindL kindOf ((p,w)::P.zip vs) m p=_;unfold bindL;rw[AKC λv hv=>(qv.mp nd).1 (vA hv).1,η hk];simp
 |p::P,w::vs,i+1,m,nd,h1,h2,hk=>by show bindL kindOf ((p,w)::P.zip vs) m x=_;unfold bindL;exact AKD (i:=i) (qv.mp nd).2 (by simpa using h1) (by simpa using h2) hk
theorem AKF{kindOf:qf->Option ud}{x:qf}{v : Δ}:∀{P:List qf}{vs:List Δ}{i:Nat}{m:qf->Option Δ},P.Nodup->P[i]?=some x->vs[i]?=some v->kindOf x≠some .local ->
  bindC kindOf (P.zip vs) m x=some v
 |[],_,_,_,_,h,_,_=>by simp at h
 |_::_,[],_,_,_,_,h,_=>by simp at h
 |p::P,w::vs,0,m,nd,h1,h2,hk=>by simp at h1 h2;subst h1;subst h2;show bindC kindOf ((p,w)::P.zip vs) m p=_;unfold bindC;rw[AKE λv hv=>(qv.mp nd).1 (vA hv).1,ζ hk];simp
 |p::P,w::vs,i+1,m,nd,h1,h2,hk=>by show bindC kindOf ((p,w)::P.zip vs) m x=_;unfold bindC;exact AKF (i:=i) (qv.mp nd).2 (by simpa using h1) (by simpa using h2) hk
def start(N:List qf)(vs:List V):St:=vs.map some++List.replicate (N.length-vs.length) none
def YO(CX:Y6)(P:pQ)(w:qt)(K : ξ)(mg:qf->Option Δ)(AG:qM)(N:List qf)(qual:qf)(scope:ua)(f : Ξ)(cd : Δ)(A:qN)(AR:List yx)(s : Ω)(H:Hp)(E:XK):Cx where
 prog:=P
 w:=w
 K:=K
 mg:=mg
 AG:=AG
 A:=A.deeper (envOfC qual scope s.heap.objs.size f cd)
 N:=N
 Wt:=s
 gc:=H
 env:=envOfC qual scope s.heap.objs.size f cd
 AR:=AR
 stack:=envOfC qual scope s.heap.objs.size f cd::AR
 ex:=[]
 calm:=true
 fn:=λ_=>true
 pn:=[]
 xe:=λe s'=>p_ (model P w) (A.deeper (envOfC qual scope s.heap.objs.size f cd)) (leaving (envOfC qual scope s.heap.objs.size f cd) e) (λ_ aX=>CX AR H s E e aX) (λe' aX=>CX AR H s E e' aX) s'
theorem AMX{sc:ua}{n:Nat}{x:qf}(h:sc.names.lookup x=some .cell):∃c,(cellsFrom n sc.names []).lookup x=some c:=by have q:=PySem.W.cellsFrom_some sc.names n [] (.inl h);exact uB.mp q
theorem APz{CX:Y6}{P:pQ}{w:qt}{K : ξ}{mg:qf->Option Δ}{AG:qM}{N ps:List qf}{qual:qf}{scope:ua}{f : Ξ}{cd : Δ}{A:qN}{AR:List yx}{s s1 : Ω}{H:Hp}{E:XK}{us:List Δ}{vs:List V}
  (S:AU N ps scope) (hd:A.handled=none) (e0:Uz P w K mg AG A AR s H) (hl:vs.length=ps.length) (r:Vals vs us)
  (x:InCallC s s.heap.objs.size (bindL (envOfC qual scope s.heap.objs.size f cd).kindOf (ps.zip us) λ_=>none) (cellsFrom (s.heap.objs.size+1) scope.names []) (bindC (envOfC qual scope s.heap.objs.size f cd).kindOf (ps.zip us) λ_=>none) s1):
  Inv (YO CX P w K mg AG N qual scope f cd A AR s H E) [] (start N vs) H s1:=by
 have RM:ps.length<=N.length:=by have:=congrArg List.length S.pre;rw[sD] at this;omega
 obtain⟨h1,tk,rfl,hk⟩:=x.done;have bQ:∀b : Ξ,b∉(YO CX P w K mg AG N qual scope f cd A AR s H E).ex:=λb z=>absurd (show b∈([]:List Ξ) from z) (by simp);refine⟨⟨e0.mod,S.kind,rfl,rfl,b_ _,λy z c h1 h2=>?_,λy hy=>?_,λy c _ h=>?_,λ_=>hd,Around.frames_deeper e0.frames,.inr ⟨rfl,rfl⟩,λb z=>absurd z (bQ b),e0.bs,e0.bV,λb _ _=>bQ b,λb z=>absurd z (bQ b),e0.TM,e0.fX⟩,
  rfl,e0.bare,Un.kept hk,⟨_,x.toInCall.ns,λi y v h1 h2 h3=>?_⟩,λy c h=>⟨_,x.cell y c h⟩,e0.CC.fresh (b_ _),λy c h=>?_,λp hp=>absurd (show p∈([]:List (Ξ × sR)) from hp) (by simp),e0.CC.kept hk,?_⟩
 .exact name_of_addr x.apart (qF h1) (qF h2)
 .have hy:scope.names.lookup y=some .cell\/scope.names.lookup y=some .free:=hy;rcases hy with hy|hy
  .exact AMX hy
  .exact absurd rfl (S.AVB _ (qF hy))
 .exact tN (x.above y c (qF h))
 .have hi:i<vs.length:=by
   unfold start at h2;by_cases hi:i<vs.length
   .exact hi
   .rw[sY (by simpa using hi)] at h2;rw[List.getElem?_replicate] at h2;split at h2<;>cases h2
  have ha:vs[i]?=some v:=by
   unfold start at h2;rw[sF (by simpa using hi),m_] at h2;cases e:vs[i]? with
   |none=>rw[e] at h2;cases h2
   |some a=>rw[e] at h2;cases h2;rfl
  obtain⟨u,hu,rv⟩:=r.get ha;have hp:ps[i]?=some y:=by rw[<-S.pre,uD (by omega)];exact h1
  have ndP:ps.Nodup:=by rw[<-S.pre];exact S.nd.sublist (ux _ _)
  refine⟨u,rv,?_⟩;rcases S.par y (qQ hp) with k|k
  .exact .inl ⟨k,AKD ndP hp hu k⟩
  .obtain⟨c,e⟩:=AMX (n:=s.heap.objs.size+1) k;refine .inr ⟨.inl k,c,e,?_⟩;have q:=x.cell y c e;rw[AKF ndP hp hu (by show scope.names.lookup y≠_;rw[k];decide)] at q;exact q
 .exact e0.CC.fresh (tN (x.above y c (qF h)))
 .unfold start;show _=N.length;rw[pP,χ,List.length_replicate];omega
theorem AUT{CX:Y6}{P:pQ}{w:qt}{K : ξ}{mg:qf->Option Δ}{AG:qM}{k:Nat}{f : Ξ}{name qual:qf}{params:wk}{body:List qX}{scope:ua}{dV kV doc pm DM ct oc : Δ}{an od:Option Ξ}
  {bP:Array (Option Δ)}{N ps:List qf}{sp:Sp}(lk:K.lookup f=some ⟨oc,od,.func (vf name qual params body scope dV kV doc pm an DM ct),bP⟩) (WK:yh K DM qual=true) (S:AU N ps scope)
  (len:∀vs H Q E,sp vs H Q E->vs.length=ps.length)
  (Yy:∀(A:qN) (AR:List yx) (s : Ω) (H:Hp) (vs:List V) (Q:VK) (E:XK),EI k (A.deeper (envOfC qual scope s.heap.objs.size f DM))->sp vs H Q E ->
   ∃t,aL (YO CX P w K mg AG N qual scope f DM A AR s H E) body t/\t {nx:=λ_ H'=>Q .Es H',rt:=Q} (start N vs) H):
  A2 P w K mg AG CX (k+1) f (vf name qual params body scope dV kV doc pm an DM ct) ps sp:=by
 refine⟨len,λA AR s H args us vs Q E hr e0 hb r Yu=>?_⟩;have hl:=len _ _ _ _ Yu;have KX:K.In s.heap:=e0.mod.jS.keeps λb o e=>(e0.bs b o e).1;have lim:s.heap.NoLimit:=e0.mod.nolimit.keeps λb o e=>(e0.bs b o e).1;have AWh:∀y∈ps.zip us,scope.names.lookup y.1=some .local\/(scope.names.lookup y.1=some .cell/\((cellsFrom (s.heap.objs.size+1) scope.names []).lookup y.1).isSome=true):=λ⟨n,v⟩ hy=>by
  rcases S.par n (vA hy).1 with q|q
  .exact .inl q
  .exact .inr ⟨q,PySem.W.cellsFrom_some _ _ _ (.inl q)⟩
 refine codeAny_call_function hr.depth (KX _ _ lk) rfl S.co S.gen rfl (PySem.W.codeRec_of KX WK) (hb _ _ _ _ ?_);refine wpAny_newFunctionEnv_cells S.kind AWh λenv he s1 x=>?_;subst he;refine⟨lim.keeps x.toInCall.keep,codeAny_func ?_⟩;obtain⟨t,ht,hq⟩:=Yy A AR s H vs Q E (hr.deeper _) Yu;have I:Inv (YO CX P w K mg AG N qual scope f DM A AR s H E) [] (start N vs) H s1:=APz S hr.hd e0 hl r x;refine rQ (ht [] s1 (start N vs) H _ I hq) (λfl s' hs=>?_) λe s' hs=>hs;have fin:∀{σ':St}{H':Hp}{v:V}{u : Δ},Inv (YO CX P w K mg AG N qual scope f DM A AR s H E) [] σ' H' s'->RelV v u->Q v H'->CE AR P w H s Q u s':=λ{σ' H' v u} J rv q=>⟨v,H',J.os,J.bare,J.AG,J.CC,rv,q⟩
 cases fl with
 |ret u=>obtain⟨v,σ',H',J,rv,q⟩:=hs;exact fin J rv q
 |next=>obtain⟨σ',H',J,q⟩:=hs;exact fin (v:=V.Es) (u:=uA) J rfl q
 |brk=>obtain⟨_,_,_,q⟩:=hs;exact rL q
 |cont=>obtain⟨_,_,_,q⟩:=hs;exact rL q
section
variable {X:Cx}{x:qf}{p pos:Pos}{e:qU}{es:List qU}{t:TA}{id T:String}{r:List V->Hp->VK->Prop}
def mw(r:List V->Hp->VK->Prop)(t:TA):TE:=λσ H Q=>t σ H λvs H1=>r vs H1 Q
theorem CO(hc:Om X (.builtin id) r)(hg:Gl X x)(hm:X.mg x=none)(hv:bootBuiltins x=some (.builtin id))(ha:PA X (e::es) t)(hn:x ≠ "__name__":=by decide)(cg:(x==("__debug__" : qf))=false:=by decide)
  (he:qy (e::es) X.env=(false,eval e X.env)::qy es X.env:=by rfl) (RM:(backTo pos (qy es X.env)).any (·.1)=false:=by rfl):PE X (.Call (.Name x p) (e::es) [] pos) (mw r t):=by
 intro AB s σ H Q I h;refine rX (Qe I hg hm hv ?_ hn cg);exact PyProof.Rows.callWith_builtin1 (EC (ha pos AB s σ H _ I h) λus s1 ⟨vs,H1,I1,r1,q1⟩=>hc AB s1 σ H1 vs us Q I1 r1 q1) he RM
theorem Ju(hc:Om X (.type T) r)(hg:Gl X x)(hm:X.mg x=none)(hv:bootBuiltins x=some (.type T))(ha:PA X (e::es) t)(hn:x ≠ "__name__":=by decide)(cg:(x==("__debug__" : qf))=false:=by decide)
  (he:qy (e::es) X.env=(false,eval e X.env)::qy es X.env:=by rfl) (RM:(backTo pos (qy es X.env)).any (·.1)=false:=by rfl):PE X (.Call (.Name x p) (e::es) [] pos) (mw r t):=by
 intro AB s σ H Q I h;refine rX (Qe I hg hm hv ?_ hn cg);exact sV (EC (ha pos AB s σ H _ I h) λus s1 ⟨vs,H1,I1,r1,q1⟩=>hc AB s1 σ H1 vs us Q I1 r1 q1) he RM
end
end L2
namespace HT
open PySem PyProof.Rows
def lexLt:List Int->List Int->Bool
 |[],[]=>false
 |[],_::_=>true
 |_::_,[]=>false
 |x::xs,y::ys=>if x=y then lexLt xs ys else decide (x<y)
theorem PN(x y:Int)(xs ys:List Int):lexLt (x::xs) (y::ys)=if x=y then lexLt xs ys else decide (x<y):=rfl
theorem AD4:lexLt [] []=false:=rfl
theorem AHj(y:Int)(ys:List Int):lexLt [] (y::ys)=true:=rfl
theorem AHk(x:Int)(xs:List Int):lexLt (x::xs) []=false:=rfl
theorem AR6(A:qN)(s : Ω)(a:Int)(t:xF)(c:Int)(u:xF):∃e,zq A s (.int a t) (.int c u) e/\(e=true↔a=c):=⟨(a==c),SeqAt.EqAt.int_int a t c u,by simp⟩
theorem AQx(A:qN)(s : Ω)(a:Int)(t:xF)(c:Int)(u:xF)(prog:pQ)(w:qt)(E : Δ -> Ω -> Prop)(Q : Δ -> Ω -> Prop)(h:Q (.bool (decide (a<c))) s):
  p_ (model prog w) A (richCompare .Lt (.int a t) (.int c u)) Q E s:=
 (PyProof.Rows.lt_int h:p_ (model prog w) A (compareOp .Lt (.int a t) (.int c u)) Q E s)
section
open PySem.SeqAt
open PySem.AutoSeq1 (wpAny_loadPart')
open PySem.MeetsSeq PySem.MeetsSeq2 PySem.MeetsSeq3
theorem AIN(l b : Ξ)(items JI:Array Δ)(n n2:Nat)(dd o9:Option Ξ)(sl m7:Array (Option Δ))(ns ms:List Int)(hi:ug items.toList ns)(hj:ug JI.toList ms):
  Meets (zb.«tuple.__lt__» ⟨[.ref l,.ref b],[]⟩)
   (λ_ R s=>s.heap.get? l=some {cls:=.type "tuple",dict:=dd,data:=.seq items n,slots:=sl}/\s.heap.get? b=some {cls:=.type "tuple",dict:=o9,data:=.seq JI n2,slots:=m7} /\
    R (.ok (.ret (.bool (lexLt ns ms)))) s):=
 .of_wp λprog w A R s h=>by
  obtain⟨hp,g,d,tk,os⟩:=s;obtain⟨hl,hb,h⟩:=h;have f2:=AutoSeq1.sub_tuple_tuple;have z1:items.size=ns.length:=by rw[<-hi.length];simp
  have z2:JI.size=ms.length:=by rw[<-hj.length];simp
  wp_walk using y9 hl,y9 hb,wpAny_forIn_list _ (λrest b s'=>b.1=none/\s'=⟨hp,g,d,tk,os⟩/\∃(vs ws:List Δ) (Lg jQ:List Int),rest=vs.zip ws /\
   ug vs Lg/\ug ws jQ/\Lg.length+JI.size=jQ.length+items.size/\R (.ok (.ret (.bool (lexLt Lg jQ)))) ⟨hp,g,d,tk,os⟩) _
  case turn=>
   rintro⟨y,x⟩ rest b s' ⟨Jg,rfl,vs,ws,Lg,jQ,hz,hvi,Wy,hlen,hR⟩;cases hvi with
   |nil=>rw[List.zip_nil_left] at hz;cases hz
   |cons a t hvi'=>
    cases Wy with
    |nil=>rw[List.zip_nil_right] at hz;cases hz
    |cons c u hwi'=>
     rw[vI] at hz;injection hz with hyx hrest;injection hyx with hy hx;subst hy hx;rw[PN] at hR;simp only[o_] at hlen;obtain⟨e,he,AWk⟩:=AR6 A.in1 ⟨hp,g,d,tk,os⟩ a t c u;refine c_ (he prog w _ _ ?_);cases e with
     |true=>
      rw[η (AWk.mp rfl)] at hR
      wp_walk
      exact⟨rfl,rfl,_,_,_,_,hrest,hvi',hwi',by omega,hR⟩
     |false=>
      rw[ζ (λq=>absurd (AWk.mpr q) Λ)] at hR;have hri:=AQx A.in1 ⟨hp,g,d,tk,os⟩ a t c u prog w
      wp_walk using hri
      exact⟨_,rfl,by simpa using hR⟩
  case fin=>
   rintro⟨b1,b2⟩ s' ⟨Jg,rfl,vs,ws,Lg,jQ,hz,hvi,Wy,hlen,hR⟩;simp only at Jg;subst Jg;have hv:lexLt Lg jQ=decide (items.size<JI.size):=by
    cases hvi with
    |nil=>
     cases Wy with
     |nil=>simp only[uT] at hlen;rw[AD4];exact(zdf (by omega)).symm
     |cons c u hw=>simp only[uT,o_] at hlen;rw[AHj];exact(zqt (by omega)).symm
    |cons a t hv=>
     cases Wy with
     |nil=>simp only[uT,o_] at hlen;rw[AHk];exact(zdf (by omega)).symm
     |cons c u hw=>rw[vI] at hz;cases hz
   rw[hv] at hR
   wp_walk
   exact⟨_,rfl,by simpa[Builtin.Tuple.tupleCompareSizes] using hR⟩
  case h=>exact⟨rfl,rfl,items.toList,JI.toList,ns,ms,rfl,hi,hj,by omega,h⟩
end
section
variable {prog:pQ}{w:qt}{A:qN}{E : Δ -> Ω -> Prop}{s : Ω}
theorem ANR{l b : Ξ}{items JI:Array Δ}{ns ms:List Int}{Q : Δ -> Ω -> Prop}(hl:zM s.heap l items)(hb:zM s.heap b JI)(hi:ug items.toList ns)(hj:ug JI.toList ms)
  (hu:A.units<cLine) (h:Q (.bool (lexLt ns ms)) s):p_ (model prog w) A (compareOp .Lt (.ref l) (.ref b)) Q E s:=by
 obtain⟨⟨cls,dd,data,sl⟩,ho,hc,n,hd⟩:=id hl;obtain⟨⟨cls2,o9,data2,m7⟩,ho2,aG,n2,hd2⟩:=id hb;simp only at hc hd aG hd2;subst hc hd aG hd2;exact richCompare_meets_room (op:=.Lt) ⟨_,ho,rfl⟩ ⟨_,ho2,rfl⟩ PySem.F.slot_tuple_lt PySem.F.entry_tuple_lt (PySem.F.args_tuple_lt_2 _ _) (AIN l b items JI n n2 dd o9 sl m7 ns ms hi hj)
  ⟨ho,ho2,show wc (lexLt ns ms)≠Value.notImplemented/\Q (.bool (lexLt ns ms)) s from⟨(λx=>nomatch x),h⟩⟩ hu
def Ye(n d:Nat):Option Int->Nat
 |none=>d
 |some v=>if v<0 then(v+(n:Int)).toNat else min v.toNat n
theorem ALR(n d:Nat):Ye n d none=d:=rfl
theorem U6(n d k:Nat):Ye n d (some (k:Int))=min k n:=by show(if (k:Int)<0 then((k:Int)+(n:Int)).toNat else min (k:Int).toNat n)=min k n;rw[ζ (by omega),sL]
end
end HT
namespace L2
open PySem PySem.Spec PyProof.Rows
abbrev TO:=St->Hp->(Option Int->Hp->Prop)->Prop
def PO(X:Cx)(e:Option qU)(t:TO):Prop:=
 ∀(AB:List (Ξ × sR)) (s : Ω) (σ:St) (H:Hp) (Q:Option Int->Hp->Prop),Inv X AB σ H s->t σ H Q ->
  p_ (model X.prog X.w) X.A (evalPart e X.env) (λu s'=>∃o H',Inv X AB σ H' s'/\IsPart u o/\Q o H') X.xe s
def ANx:TO:=λ_ H Q=>Q none H
def AT8(t:TE):TO:=λσ H Q=>t σ H λx H1=>∃i,x=.int i/\Q (some i) H1
section
variable {X:Cx}{e:qU}{te:TE}{lo hi:Option qU}{tl th:TO}{pos p2:Pos}
theorem AOL:PO X none ANx:=by intro AB s σ H Q I h;rw[evalPart_none];exact pX ⟨none,H,I,.none,h⟩
theorem VB(h:PE X e te):PO X (some e) (AT8 te):=by intro AB s σ H Q I hw;rw[evalPart_some];refine EC (h AB s σ H _ I hw) λu s1 ⟨x,H1,I1,r1,q1⟩=>?_;obtain⟨i,rfl,q⟩:=q1;obtain⟨t,rfl⟩:=r1;exact⟨some i,H1,I1,.int i t,q⟩
def pF(X:Cx)(r:V->Option Int->Option Int->Hp->VK->Prop):Prop:=
 ∀(AB:List (Ξ × sR)) (s : Ω) (σ:St) (H:Hp) (x:V) (v vl vu : Δ) (lo hi:Option Int) (sl : Ξ) (Q:VK),Inv X AB σ H s->RelV x v->s.heap.IsSliceOf sl vl vu .none->IsPart vl lo->IsPart vu hi->r x lo hi H Q ->
  ∃T id,typeLookup (.type T) "__getitem__" = pure (some (.builtin id))/\s.TypeIs v T/\p_ (model X.prog X.w) X.A (getItem v (.ref sl)) (EP X AB σ Q) X.xe s
def tSl(r:V->Option Int->Option Int->Hp->VK->Prop)(te:TE)(tl th:TO):TE:=λσ H Q=>te σ H λx H1=>tl σ H1 λl H2=>th σ H2 λu H3=>r x l u H3 Q
theorem Vv{r:V->Option Int->Option Int->Hp->VK->Prop}(hr:pF X r)(he:PE X e te)(hl:PO X lo tl)(hu:PO X hi th):PE X (.Subscript e (.Slice lo hi none p2) pos) (tSl r te tl th):=by intro AB s σ H Q I h;refine zh (EC (he AB s σ H _ I h) λv s1 ⟨x,H1,I1,r1,q1⟩=>?_);refine wpAny_Slice (EC (hl AB s1 σ H1 _ I1 q1) λvl s2 ⟨l,H2,I2,pl,q2⟩=>EC (hu AB s2 σ H2 _ I2 q2) λvu s3 ⟨u,H3,I3,pu,q3⟩=>?_);rw[evalPart_none];refine pX ?_;have I4:Inv X AB σ H3 {s3 with heap:=s3.heap.push {cls:=.type "slice",data:=.fields #[vl,vu,.none]} }:=I3.kept (t':=s3.toks) λb ob q=>pq _ q;obtain⟨T,id,hT,ht,hg⟩:=hr AB {s3 with heap:=s3.heap.push {cls:=.type "slice",data:=.fields #[vl,vu,.none]} } σ H3 x v vl vu l u s3.heap.objs.size Q I4 r1 (Heap.IsSliceOf.new ..) pl pu q3;show p_ (model X.prog X.w) X.A (subscriptTail e (.Slice lo hi none p2) v (.ref s3.heap.objs.size)) (EP X AB σ Q) X.xe {s3 with heap:=s3.heap.push {cls:=.type "slice",data:=.fields #[vl,vu,.none]} };exact tail_any (ops:=[.ref s3.heap.objs.size,v]) ht hT hg (by with_unfolding_all rfl)
def WT(xs:List V)(lo hi:Option Int):List V:=(xs.drop (HT.Ye xs.length 0 lo)).take (HT.Ye xs.length xs.length hi-HT.Ye xs.length 0 lo)
theorem AMW(xs:List V)(lo hi:Option Int):(WT xs lo hi).length<=xs.length:=by unfold WT;rw[sD,List.length_drop];omega
end
def gG(n:Nat)(i:Int):Option Nat:=if 0<=i then(if i<n then some i.toNat else none) else if -(n:Int)<=i then some (i+n).toNat else none
def WY{α:Type}(xs:List α)(i:Int):Option α:=(gG xs.length i).bind λj=>xs[j]?
theorem ATm{n:Nat}{i:Int}{j:Nat}(h:gG n i=some j):seqIndex? i n=some j/\j<n /\ -(n:Int)<=i/\i<n:=by
 unfold gG at h;by_cases h0:0<=i
 .rw[η h0] at h;by_cases h1:i<n
  .rw[η h1] at h;have e:i.toNat=j:=j_ h;exact⟨by rw[seqIndex_of h0 h1,e],by omega,by omega,h1⟩
  .rw[ζ h1] at h;cases h
 .rw[ζ h0] at h;by_cases h1 : -(n:Int)<=i
  .rw[η h1] at h;have e:(i+n).toNat=j:=j_ h;exact⟨by rw[seqIndex_neg (by omega) h1,e],by omega,h1,by omega⟩
  .rw[ζ h1] at h;cases h
theorem AO3{α:Type}{xs:List α}{i:Int}{v:α}(h:WY xs i=some v):∃j,seqIndex? i xs.length=some j/\xs[j]?=some v/\j<xs.length /\ -(xs.length:Int)<=i/\i<xs.length:=by
 unfold WY at h;cases e:gG xs.length i with
 |none=>rw[e] at h;cases h
 |some j=>rw[e] at h;obtain⟨h1,h2,h3,h4⟩:=ATm e;exact⟨j,h1,h,h2,h3,h4⟩
theorem Nh{α:Type}{xs:List α}{j:Nat}{v:α}(h:xs[j]?=some v):WY xs (j:Int)=some v:=by
 have hj:j<xs.length:=(l_.mp h).1;have e:gG xs.length (j:Int)=some j:=by unfold gG;rw[η (by omega),η (by omega)];simp
 unfold WY;rw[e];exact h
theorem AST{α:Type}(xs:List α)(v:α):WY (xs++[v]) (-1)=some v:=by
 have hl:(xs++[v]).length=xs.length+1:=by simp
 have e:gG (xs++[v]).length (-1)=some xs.length:=by unfold gG;rw[hl,ζ (by decide),η (by omega)];congr 1;omega
 unfold WY;rw[e];show(xs++[v])[xs.length]?=some v;simp
def AT0(b:qU):Prop:=∀o i,subscripted b false o i=operate [o,i] (getItem o i)
def jc(X:Cx)(r:R2):Prop:=
 ∀(value slice:qU) (AB:List (Ξ × sR)) (s : Ω) (σ:St) (H:Hp) (x y:V) (v u : Δ) (Q:VK),Inv X AB σ H s->RelV x v->RelV y u->r x y H Q ->
  subscripted slice false v u=operate [v,u] (getItem v u)->p_ (model X.prog X.w) X.A (subscriptTail value slice v u) (EP X AB σ Q) X.xe s
def MtR(X:Cx)(id:String)(r:V->List V->Hp->VK->Prop):Prop:=
 ∀(AB:List (Ξ × sR)) (s : Ω) (σ:St) (H:Hp) (x:V) (xs:List V) (v : Δ) (us:List Δ) (Q:VK),Inv X AB σ H s->RelV x v->Vals xs us->r x xs H Q ->
  p_ (model X.prog X.w) X.A (call (.builtin id) (v::us)) (EP X AB σ Q) X.xe s
section
variable {X:Cx}{a b:qU}{ta tb:TE}{pos:Pos}
theorem A9{r:R2}(hr:jc X r)(ha:PE X a ta)(hb:PE X b tb)(hs:AT0 b):PE X (.Subscript a b pos) (jf r ta tb):=by intro AB s σ H Q I h;exact zh (jA ha hb I h λv u s2 x y H2 I2 rx ry q=>hr a b AB s2 σ H2 x y v u Q I2 rx ry q (hs _ _))
def iA(K : ξ):R2:=λx y H Q=>∃p xs i v,x=.ref p/\y=.int i/\Er K H p xs/\WY xs i=some v/\Q v H
def g9(K : ξ):R2:=λx y H Q=>∃p xs i v,x=.ref p/\y=.int i/\J1 K H p xs/\WY xs i=some v/\Q v H
theorem AOm:jc X (iA X.K):=by
 intro value slice AB s σ H x y v u Q I rx ry h hs;obtain⟨p,xs,i,z,rfl,rfl,hq,he,q⟩:=h;cases rx;obtain⟨t,rfl⟩:=ry;obtain⟨Bc,r,pl,hz⟩:=I.list hq;obtain⟨j,h1,h2,h3,h4,h5⟩:=AO3 he;obtain⟨w,ew,ZU⟩:=r.get h2;have hl:=r.length;have hn:=Zf;have fin:EP X AB σ Q w s:=⟨z,H,I,ZU,q⟩
 by_cases h0:0<=i
 .have hj:i.toNat=j:=by rw[seqIndex_of h0 h5] at h1;exact j_ h1
  exact item_listR pl.isList h0 (by omega) (by rw[hj];simpa using ew) fin hs
 .have hj:(i+(Bc.toArray.size:Int)).toNat=j:=by rw[seqIndex_neg (by omega) h4] at h1;rw[pZ,<-hl];exact j_ h1
  exact subscriptTail_builtinR (x:=w) pl.isList.typeIs slot_list_getitem.lookup
   (wpAny_getItem_list_neg (Q:=λr s'=>r=w/\EP X AB σ Q r s') pl.isList (by omega) (by rw[pZ]<;>omega) (by omega) (by rw[hj];simpa using ew) ⟨rfl,fin⟩) hs
theorem Zm:jc X (g9 X.K):=by
 intro value slice AB s σ H x y v u Q I rx ry h hs;obtain⟨p,xs,i,z,rfl,rfl,hq,he,q⟩:=h;cases rx;obtain⟨t,rfl⟩:=ry;obtain⟨Bc,r,pl,hz⟩:=I.tuple hq;obtain⟨j,h1,h2,h3,h4,h5⟩:=AO3 he;obtain⟨w,ew,ZU⟩:=r.get h2;have hl:=r.length;have hn:=Zf;have fin:EP X AB σ Q w s:=⟨z,H,I,ZU,q⟩
 exact subscriptTail_builtinR (x:=w) pl.typeIs slot_tuple_getitem.lookup
  (getItem_tuple (j:=j) (Q:=λr s'=>r=w/\EP X AB σ Q r s') pl (by omega) (by omega) (by rw[pZ,<-hl];exact h1) (by simpa using ew) ⟨rfl,fin⟩) hs
theorem AKQ(lo hi:Option Int)(n:Nat):(sliceBounds lo hi none n).1=((HT.Ye n 0 lo:Nat):Int)/\(sliceBounds lo hi none n).2.1=((HT.Ye n n hi:Nat):Int)/\(sliceBounds lo hi none n).2.2=1:=by
 refine⟨?_,?_,rfl⟩
 .cases lo with
  |none=>simp[sliceBounds,HT.Ye]
  |some i=>
   simp only[sliceBounds,HT.Ye,Option.getD_none,show(1:Int)>0 by decide,if_true];by_cases h:i<0
   .simp only[h,if_true]<;>omega
   .simp only[h,if_false]<;>omega
 .cases hi with
  |none=>simp[sliceBounds,HT.Ye]
  |some i=>
   simp only[sliceBounds,HT.Ye,Option.getD_none,show(1:Int)>0 by decide,if_true];by_cases h:i<0
   .simp only[h,if_true]<;>omega
   .simp only[h,if_false]<;>omega
theorem AIR(Bc:List Δ)(lo hi:Option Int):slicePick Bc.toArray lo hi none=((Bc.drop (HT.Ye Bc.length 0 lo)).take (HT.Ye Bc.length Bc.length hi-HT.Ye Bc.length 0 lo)).toArray:=by obtain⟨h1,h2,h3⟩:=AKQ lo hi Bc.toArray.size;unfold slicePick;rw[h1,h2,h3];simp only[sliceRange_one,pick_run,pZ]<;>rfl
def g8(K : ξ):V->Option Int->Option Int->Hp->VK->Prop:=λx lo hi H Q=>∃a xs,x=.ref a/\Er K H a xs/\∀p,H p=none->Q (.ref p) (upd H p (.lst (WT xs lo hi)))
theorem ASs:pF X (g8 X.K):=by intro AB s σ H x v vl vu lo hi sl Q I rx hs pl pu h;obtain⟨a,xs,rfl,hx,q⟩:=h;cases rx;obtain⟨Bc,r,ht,hz⟩:=I.list hx;have hlen:=r.length;refine⟨"list",_,slot_list_getitem.lookup,ht.isList.typeIs,?_⟩;refine wpAny_getItem_list_slice ht.isList hs pl pu .none (by simp) ?_ (by rw[pZ]<;>omega);rw[AIR,<-hlen];refine⟨.ref s.heap.objs.size,_,I.laid (t':=s.toks) (o:=.lst (WT xs lo hi)) (λb ob q=>pq _ q) (b_ _) ?_,rfl,q _ (I.CC.fresh (b_ _))⟩;exact⟨a_ (AMW xs lo hi) hz,_,0,(r.drop (HT.Ye xs.length 0 lo)).take (HT.Ye xs.length xs.length hi-HT.Ye xs.length 0 lo),pV _ rfl⟩
def TQ:V->Bool
 |.Es=>true
 |.bl _=>true
 |.int _=>true
 |.str _=>true
 |_=>false
def gX:V->V->Bool
 |.Es,.Es=>true
 |.bl a,.bl b=>a==b
 |.bl a,.int b=>(if a then 1 else 0)==b
 |.int a,.bl b=>a==(if b then 1 else 0)
 |.int a,.int b=>a==b
 |.str a,.str b=>a==b
 |_,_=>false
theorem AVf{A:qN}{s : Ω}{y x:V}{u v : Δ}(ry:RelV y u)(rx:RelV x v)(fy:TQ y=true)(fx:TQ x=true):zq A s u v (gX y x):=by
 cases y with
 |Es=>
  cases ry;cases x with
  |Es=>cases rx;exact SeqAt.EqAt.same _
  |bl b=>cases rx;exact SeqAt.EqAt.none_bool b
  |int b=>obtain⟨t,rfl⟩:=rx;exact SeqAt.EqAt.none_int b t
  |str b=>obtain⟨t,rfl⟩:=rx;exact SeqAt.EqAt.none_str b t
  |_=>exact absurd (show false=true from fx) Λ
 |bl a=>
  cases ry;cases x with
  |Es=>cases rx;exact SeqAt.EqAt.bool_none a
  |bl b=>cases rx;exact SeqAt.EqAt.bool_bool a b
  |int b=>obtain⟨t,rfl⟩:=rx;exact SeqAt.EqAt.bool_int a b t
  |str b=>obtain⟨t,rfl⟩:=rx;exact SeqAt.EqAt.bool_str a b t
  |_=>exact absurd (show false=true from fx) Λ
 |int a=>
  obtain⟨t',rfl⟩:=ry;cases x with
  |Es=>cases rx;exact SeqAt.EqAt.int_none a t'
  |bl b=>cases rx;exact SeqAt.EqAt.int_bool a t' b
  |int b=>obtain⟨t,rfl⟩:=rx;exact SeqAt.EqAt.int_int a t' b t
  |str b=>obtain⟨t,rfl⟩:=rx;exact SeqAt.EqAt.int_str a t' b t
  |_=>exact absurd (show false=true from fx) Λ
 |str a=>
  obtain⟨t',rfl⟩:=ry;cases x with
  |Es=>cases rx;exact SeqAt.EqAt.str_none a t'
  |bl b=>cases rx;exact SeqAt.EqAt.str_bool a t' b
  |int b=>obtain⟨t,rfl⟩:=rx;exact SeqAt.EqAt.str_int a t' b t
  |str b=>obtain⟨t,rfl⟩:=rx;exact SeqAt.EqAt.str_str a t' b t
  |_=>exact absurd (show false=true from fx) Λ
 |_=>exact absurd (show false=true from fy) Λ
def fZ(x:V)(u : Δ):Bool:=match u with
 |.none=>gX .Es x
 |.bool b=>gX (.bl b) x
 |.int i _=>gX (.int i) x
 |.str z _=>gX (.str z) x
 |_=>false
theorem AR5{x y:V}{u : Δ}(r:RelV y u)(f:TQ y=true):fZ x u=gX y x:=by
 cases y with
 |Es=>cases r;rfl
 |bl b=>cases r;rfl
 |int i=>obtain⟨t,rfl⟩:=r;rfl
 |str z=>obtain⟨t,rfl⟩:=r;rfl
 |_=>exact absurd (show false=true from f) Λ
theorem YT{x:V}:∀{xs:List V}{us:List Δ},Vals xs us->xs.all TQ=true->us.any (fZ x)=xs.any λy=>gX y x
 |_,_,.nil,_=>rfl
 |y::xs,u::us,.cons r t,f=>by rw[xE,qm] at f;rw[sX,sX,AR5 r f.1,YT t f.2]
theorem WB{A:qN}{s : Ω}{x:V}{v : Δ}(rx:RelV x v)(fx:TQ x=true):∀{xs:List V}{us:List Δ},Vals xs us->xs.all TQ=true->∀u∈us,zq A s u v (fZ x u)
 |_,_,.nil,_=>λu hu=>by cases hu
 |y::xs,u::us,.cons r t,f=>λu' hu=>by
  rw[xE,qm] at f;rcases pM.mp hu with rfl|hu
  .rw[AR5 r f.1];exact AVf r rx f.1 fx
  .exact WB rx fx t f.2 u' hu
def lX(x:V)(xs:List V):Bool:=xs.any λy=>gX y x
def rIn(K : ξ)(neg:Bool):R2:=λx y H Q=>∃p xs,y=.ref p/\(Er K H p xs\/J1 K H p xs)/\TQ x=true/\xs.all TQ=true/\Q (.bl (if neg then !lX x xs else lX x xs)) H
theorem APZ:W4 X (compareOp .In) (rIn X.K false):=by
 intro AB s σ H x y v u Q I rx ry h;obtain⟨p,xs,rfl,hq,fx,fs,q⟩:=h;cases ry;rcases hq with hq|hq
 .obtain⟨Bc,r,pl,hz⟩:=I.list hq;refine SeqAt.in_listAt (fZ x) pl.isList (λw hw=>WB rx fx r fs w (by simpa using hw)) ⟨.bl _,H,I,rfl,?_⟩;rw[show Bc.toArray.any (fZ x)=Bc.any (fZ x) by simp,YT r fs];exact q
 .obtain⟨Bc,r,pl,hz⟩:=I.tuple hq;refine SeqAt.in_tupleAt (fZ x) pl (λw hw=>WB rx fx r fs w (by simpa using hw)) ⟨.bl _,H,I,rfl,?_⟩;rw[show Bc.toArray.any (fZ x)=Bc.any (fZ x) by simp,YT r fs];exact q
theorem AFF:Om X (.builtin "len") (λxs H Q=>∃p ys,xs=[.ref p]/\(Er X.K H p ys\/J1 X.K H p ys)/\Q (.int ys.length) H):=by
 intro AB s σ H xs us Q I r h;obtain⟨p,ys,rfl,hq,q⟩:=h;obtain⟨u,rfl,rx⟩:=vals1 r;cases rx;have hn:=Zf;rcases hq with hq|hq
 .obtain⟨Bc,r',pl,hz⟩:=I.list hq;have hlen:=r'.length;exact Calls.call_len_list pl.isList (by simp only[pZ]<;>omega) ⟨.int ys.length,H,I.tok _,⟨s.toks+1,by rw[pZ,hlen]⟩,q⟩
 .obtain⟨Bc,r',pl,hz⟩:=I.tuple hq;have hlen:=r'.length;exact len_tuple pl (by simp only[pZ]<;>omega) ⟨.int ys.length,H,I.tok _,⟨s.toks+1,by rw[pZ,hlen]⟩,q⟩
theorem AFE:Om X (.type "list") (λxs H Q=>∃p ys,xs=[.ref p]/\(Er X.K H p ys\/J1 X.K H p ys)/\∀l,H l=none->Q (.ref l) (upd H l (.lst ys))):=by
 intro AB s σ H xs us Q I r h;obtain⟨p,ys,rfl,hq,q⟩:=h;obtain⟨u,rfl,rx⟩:=vals1 r;cases rx;have fin:∀(Bc:List Δ),Vals ys Bc->ys.length<=pY->∀(h':qM) (c':Nat),(∀b o',s.heap.get? b=some o'->h'.get? b=some o') ->
   h'.get? s.heap.objs.size=some {cls:=.type "list",dict:=none,data:=.seq Bc.toArray c',slots:=#[]}->EP X AB σ Q (.ref s.heap.objs.size) {s with heap:=h'}:=λBc r' hz h' c' kp e=>
  ⟨.ref s.heap.objs.size,_,I.laid (t':=s.toks) kp (b_ _) (show Fe X.prog X.w _ h' _ (.lst ys) from⟨hz,Bc,c',r',e⟩),rfl,q _ (I.CC.fresh (b_ _))⟩
 rcases hq with hq|hq
 .obtain⟨Bc,r',pl,hz⟩:=I.list hq;have hlen:=r'.length;obtain⟨o,ho,hc,n,hd⟩:=pl.isList;exact call_list_seq p (.inl rfl) ho hc hd (λh' c' kp e=>fin Bc r' hz h' c' kp e) (by simp only[pZ]<;>omega)
 .obtain⟨Bc,r',pl,hz⟩:=I.tuple hq;have hlen:=r'.length;obtain⟨o,ho,hc,n,hd⟩:=pl;exact call_list_seq p (.inr rfl) ho hc hd (λh' c' kp e=>fin Bc r' hz h' c' kp e) (by simp only[pZ]<;>omega)
def tyV(K : ξ)(T:String)(x:V)(H:Hp):Prop:=match x with
 |.str _=>T = "str"
 |.int _=>T = "int"
 |.ref p=>(T = "list" /\ ∃xs,Er K H p xs)\/(T = "tuple" /\ ∃o,K.lookup p=some o/\o.cls=.type "tuple" /\ o.dict=none) \/
   (T = "dict" /\ ((∃kvs,H p=some (.dK kvs))\/∃kvs,H p=some (.dT kvs)))\/(T = "set" /\ ∃S n,H p=some (.set S n))
 |_=>False
theorem AUd{AB:List (Ξ × sR)}{σ:St}{H:Hp}{s : Ω}{T:String}{x:V}{v : Δ}(I:Inv X AB σ H s)(r:RelV x v)(ty:tyV X.K T x H):
  s.TypeIs v T/\∀a,v=.ref a->∃ob,s.heap.get? a=some ob/\ob.dict=none:=by
 cases x with
 |str z=>obtain⟨t,rfl⟩:=r;cases (show T = "str" from ty);exact⟨typeIs_str s z t,λ_ e=>nomatch e⟩
 |int i=>obtain⟨t,rfl⟩:=r;cases (show T = "int" from ty);exact⟨typeIs_int s i t,λ_ e=>nomatch e⟩
 |ref p=>
  cases r;rcases ty with⟨rfl,xs,hq⟩|⟨rfl,o,hk,hc,hd⟩|⟨rfl,hk⟩|⟨rfl,S,n,hk⟩
  .obtain⟨Bc,_,pl,_⟩:=I.list hq;refine⟨pl.isList.typeIs,λa e=>?_⟩;cases e;obtain⟨o,n,e,c,hd,_⟩:=pl;exact⟨o,e,hd⟩
  .refine⟨⟨o,I.YF p o hk,hc⟩,λa e=>?_⟩;cases e;exact⟨o,I.YF _ o hk,hd⟩
  .have z:∃o,s.heap.get? p=some o/\o.ExactDict:=by
    rcases hk with⟨kvs,hk⟩|⟨kvs,hk⟩
    .obtain⟨_,_,_,_,o,_,_,e,ex,_⟩:=I.CC p _ hk;exact⟨o,e,ex⟩
    .obtain⟨_,_,_,_,o,_,_,e,ex,_⟩:=I.CC p _ hk;exact⟨o,e,ex⟩
   obtain⟨o,e,ex⟩:=z;refine⟨⟨o,e,ex.1⟩,λa e2=>?_⟩;cases e2;exact⟨o,e,ex.2.1⟩
  .obtain⟨o,_,_,_,e,ex,_⟩:=I.CC p _ hk;refine⟨⟨o,e,ex.1⟩,λa e2=>?_⟩;cases e2;exact⟨o,e,ex.2.1⟩
 |_=>exact rL ty
def tBM(K : ξ)(T:String)(r:V->List V->Hp->VK->Prop)(to:TE)(t:TA):TE:=λσ H Q=>to σ H λx H1=>tyV K T x H1/\t σ H1 λxs H2=>r x xs H2 Q
variable {o e:qU}{es:List qU}{to:TE}{t:TA}{name:qf}{apos LX:Pos}{T id:String}{r:V->List V->Hp->VK->Prop}
theorem Vz(pa:PlainAttrs T)(slot:Slot T name id)(hty:typeOf (.builtin id)=pure (.type "method_descriptor"))(hm:MtR X id r)(ho:PE X o to)(ha:PA X (e::es) t)
  (cz:uV o name X.env (eval o X.env)=eval o X.env:=by rfl)
  (AX1:((backTo LX (qy (e::es) X.env)).all (λx=>!x.1)&&(backToKw LX (keywordEach [] X.env)).all (λx=>x.1.isSome)
   && decide ((e::es).length+([]:List xV).length+(if ([]:List xV).isEmpty then 0 else 1)<30))=true:=by rfl)
  (cW:(apos.endLine==LX.line)=true:=by rfl) (hs:qy (e::es) X.env=(false,eval e X.env)::qy es X.env:=by rfl) (AVb:(backTo LX (qy es X.env)).any (·.1)=false:=by rfl):
  PE X (.Call (.Attribute o name apos) (e::es) [] LX) (tBM X.K T r to t):=by
 intro AB s σ H Q I h;refine wpAny_Call_method_late cz AX1 cW rfl (EC (ho AB s σ H _ I h) λv s1 ⟨x,H1,I1,r1,ty,q1⟩=>?_);obtain⟨h1,h2⟩:=AUd I1 r1 ty;refine⟨T,id,pa,slot,hty,h1,h2,?_⟩;have hA:=ha LX AB s1 σ H1 _ I1 q1;rw[hs] at hA ⊢;refine vZ (by show(false||(backTo LX (qy es X.env)).any (·.1))=false;rw[AVb]<;>rfl) (wD ?_);exact EC hA λus s2 ⟨vs,H2,I2,r2,q2⟩=>hm AB s2 σ H2 x vs v us Q I2 r1 r2 q2
end
def pG(X:Cx)(id:String)(r:V->List V->Hp->VK->Prop):Prop:=
 ∀(AB:List (Ξ × sR)) (s : Ω) (σ:St) (H:Hp) (x:V) (xs:List V) (v : Δ) (us:List Δ) (Q:VK),Inv X AB σ H s->RelV x v->Vals xs us->r x xs H Q ->
  p_ (model X.prog X.w) X.A (call (.builtin id) (v::us)) (EP X AB σ Q) X.xe s
theorem Vals.one:∀{x:V}{us:List Δ},Vals [x] us->∃u,us=[u]/\RelV x u
 |_,_,.cons r .nil=>⟨_,rfl,r⟩
section
variable {X:Cx}{AB:List (Ξ × sR)}{σ:St}{H:Hp}{s : Ω}{l b : Ξ}{xs ys zs:List V}
theorem Inv.iC{Bc its':List Δ}{n:Nat}{f:Array Δ -> Array Δ}{t':Nat}(I:Inv X AB σ H s)(hH:H l=some (.lst xs))
  (e:s.heap.get? l=some {cls:=.type "list",data:=.seq Bc.toArray n}) (hf:f Bc.toArray=its'.toArray) (hv:Vals ys its') (hz:ys.length<=pY):
  Inv X AB σ (upd H l (.lst ys)) {s with heap:=s.heap.update l (qS f),toks:=t'}:=by
 have q:=PySem.IsL.update e f;rw[hf] at q;refine I.write (x:=l) (e:=l) (by rw[hH];exact trivial) (.inl rfl) (λb' u hb hu=>(Heap.get?_update_other s.heap (qS f) (qk hb)).trans hu) ⟨_,q⟩ ?_;exact⟨hz,its',_,hv,q⟩
theorem Inv.AXd{Bc:List Δ}{t':Nat}(I:Inv X AB σ H s)(hv:Vals ys Bc)(hz:ys.length<=pY):
  Inv X AB σ (upd H s.heap.objs.size (.lst ys)) {s with heap:=s.heap.push {cls:=.type "list",data:=.seq Bc.toArray},toks:=t'}:=
 I.laid (λ_ _ q=>pq _ q) (b_ _) ⟨hz,Bc,0,hv,pV _ rfl⟩
theorem Inv.fresh(I:Inv X AB σ H s):H s.heap.objs.size=none:=I.CC.fresh (b_ _)
theorem Inv.ay(I:Inv X AB σ H s)(hH:H l=some (.lst xs)):xs.length<=pY/\∃(Bc:List Δ) (n:Nat),Vals xs Bc/\xs.length=Bc.length/\s.heap.get? l=some {cls:=.type "list",data:=.seq Bc.toArray n}:=by obtain⟨z,Bc,n,r,e⟩:=I.CC l _ hH;exact⟨z,Bc,n,r,r.length,e⟩
theorem ALq{n:Nat}(h:n<=pY):tO n=false:=by unfold tO;exact zdf (by omega)
end
section
variable {X:Cx}
def AOF:V->List V->Hp->VK->Prop:=λx vs H Q=>∃l xs y,x=.ref l/\vs=[y]/\H l=some (.lst xs)/\xs.length<pY/\Q .Es (upd H l (.lst (xs++[y])))
theorem OV:pG X "list.append" AOF:=by intro AB s σ H x vs v us Q I rx rv h;obtain⟨l,xs,y,rfl,rfl,hH,hz,q⟩:=h;cases rx;obtain⟨u,rfl,ru⟩:=rv.one;obtain⟨z,Bc,n,r,hl,e⟩:=I.ay hH;refine zf F.slot_list_append ⟨_,e,rfl⟩ F.entry_list_append (F.args_list_append_2 _ _) (PySem.list_append l Bc.toArray n u (by rw[pZ];omega)) ⟨e,?_⟩;refine⟨.Es,_,I.iC (its':=Bc++[u]) hH e (by simp) (r.append (.cons ru .nil)) ?_,rfl,q⟩;rw[pP,tD];omega
def ASy:V->List V->Hp->VK->Prop:=λx vs H Q=>∃l b xs zs,x=.ref l/\vs=[.ref b]/\H l=some (.lst xs)/\H b=some (.lst zs)/\xs.length+zs.length<=pY/\Q .Es (upd H l (.lst (xs++zs)))
theorem APf:pG X "list.extend" ASy:=by
 intro AB s σ H x vs v us Q I rx rv h;obtain⟨l,b,xs,zs,rfl,rfl,hH,hB,hz,q⟩:=h;cases rx;obtain⟨u,rfl,ru⟩:=rv.one;cases ru;obtain⟨z,Bc,n,r,hl,e⟩:=I.ay hH;obtain⟨z2,Uw,n2,r2,cX,e2⟩:=I.ay hB;have hsz:Bc.toArray.size+Uw.toArray.size<=pY:=by rw[pZ,pZ];omega
 have cV:¬ (!Bc.toArray.isEmpty&&tO (Bc.toArray.size+Uw.toArray.size))=true:=by rw[ALq hsz,ue];exact Λ
 refine zf F.slot_list_extend ⟨_,e,rfl⟩ F.entry_list_extend (F.args_list_extend_2 _ _)
  (AutoSeq1.list_extend_list_list_0 l Bc.toArray n b Uw.toArray n2 cV (by rw[pZ];omega) (by omega)) ⟨e,e2,?_⟩
 refine⟨.Es,_,I.iC (its':=Bc++Uw) hH e (by simp) (r.append r2) ?_,rfl,q⟩;rw[pP];omega
def AWE:R2:=λx y H Q=>∃l b xs zs,x=.ref l/\y=.ref b/\H l=some (.lst xs)/\H b=some (.lst zs)/\xs.length+zs.length<=pY/\∀p,H p=none->Q (.ref p) (upd H p (.lst (xs++zs)))
theorem ARI:W4 X (binaryOp .Add) AWE:=by
 intro AB s σ H x y v u Q I rx ry h;obtain⟨l,b,xs,zs,rfl,rfl,hH,hB,hz,q⟩:=h;cases rx;cases ry;obtain⟨z,Bc,n,r,hl,e⟩:=I.ay hH;obtain⟨z2,Uw,n2,r2,cX,e2⟩:=I.ay hB;refine PySem.P.add_list e e2 ?_ (by rw[pZ,pZ];omega);have ea:Bc.toArray++Uw.toArray=(Bc++Uw).toArray:=by simp
 rw[ea];exact⟨.ref _,_,I.AXd (t':=s.toks) (r.append r2) (by rw[pP];omega),rfl,q _ I.fresh⟩
end
section
variable {prog:pQ}{w:qt}{A:qN}{E : Δ -> Ω -> Prop}{s : Ω}
set_option maxRecDepth 100000 in
end
section
variable {X:Cx}
end
theorem AEi:∀{us:List Δ}{ns:List Int},ug us ns->Vals (ns.map V.int) us
 |_,_,.nil=>by rw[vj];exact Paired.nil
 |_,_,.cons n t h=>by rw[k_];exact Paired.cons (show RelV (V.int n) (rF n t) from⟨t,rfl⟩) (AEi h)
theorem Vals.bls:∀{bs:List Bool}{us:List Δ},Vals (bs.map V.bl) us->us=bs.map wc
 |[],us,h=>by rw[vj] at h;cases h;rfl
 |b::bs,us,h=>by
  rw[k_] at h;cases h with
  |cons r t=>cases r;rw[Vals.bls t,k_]
theorem Vals.AXR{a : Ξ}{us:List Δ}(r:Vals [V.ref a] us):us=[qR a]:=by
 cases r with
 |cons r t=>cases t;cases r;rfl
section
variable {prog:pQ}{w:qt}{A:qN}{E : Δ -> Ω -> Prop}{s : Ω}{l : Ξ}{Bc:List Δ}{ns:List Int}{Q : Δ -> Ω -> Prop}
end
section
variable {X:Cx}
end
theorem ARq{prog:pQ}{w:qt}{A:qN}{E : Δ -> Ω -> Prop}{s : Ω}{l : Ξ}{items:Array Δ}{Q : Δ -> Ω -> Prop}(hl:s.heap.IsList l items)
  (h:∀s₂ : Ω,s₂={s with heap:=s.heap.push {cls:=.type "list_iterator",data:=.fields #[.ref l,.int 0 0]} } ->
   (s₂.heap.IsListIter s.heap.objs.size l 0/\s₂.heap.IsList l items)->l≠s.heap.objs.size->Q (.ref s.heap.objs.size) s₂):p_ (model prog w) A (pyIter (.ref l)) Q E s:=by
 have Na:l<s.heap.objs.size:=by obtain⟨_,e,_⟩:=hl;exact qu e
 exact w_ hl (h _ rfl ⟨⟨_,pV _ rfl,rfl,rfl⟩,hl.push _⟩ (qK Na))
theorem AK4{prog:pQ}{w:qt}{A:qN}{bs:List Bool}{Bc:List Δ}(e:Bc=bs.map wc):
  TruthOf prog w A (λi v=>Bc.toArray[i]?=some v) (λi=>bs.getD i false):=λi v s Q E hv hq=>by
 have ly:Bc[i]?=some v:=by simpa using hv
 rw[e,m_] at ly;obtain⟨b,hb,rfl⟩:=rE.mp ly;have hg:bs.getD i false=b:=by rw[rK,hb]<;>rfl
 have YH:Q (bs.getD i false) s:=hq;rw[hg] at YH;exact rR YH
theorem any_range:∀bs:List Bool,(pW bs.length).any (λi=>bs.getD i false)=bs.any id
 |[]=>rfl
 |b::bs=>by
  rw[o_,List.range_succ_eq_map,sX,List.any_map,sX,<-any_range bs]
  all_goals rfl
theorem all_range:∀bs:List Bool,(pW bs.length).all (λi=>bs.getD i false)=bs.all id
 |[]=>rfl
 |b::bs=>by
  rw[o_,List.range_succ_eq_map,xE,yP,xE,<-all_range bs]
  all_goals rfl
section
variable {X:Cx}
def AWF(K : ξ):List V->Hp->VK->Prop:=λvs H Q=>∃(a : Ξ) (bs:List Bool),vs=[V.ref a]/\Er K H a (bs.map V.bl)/\Q (.bl (bs.all id)) H
theorem ASJ(hc:X.calm=true):Om X (.builtin "all") (AWF X.K):=by
 intro AB s σ H vs us Q I r h;obtain⟨a,bs,rfl,hs,q⟩:=h;obtain⟨Bc,rv,hl,_⟩:=I.list hs;rw[Vals.AXR r];have hb:=rv.bls;refine call_all_walk (ARq hl.isList λs₂ e2 st Yl=>?_);subst e2;refine⟨_,_,_,_,_,_,_,rfl,Walks.list (A:=X.A.in1) (I.ok.hd hc) _ a Yl Bc.toArray,st,AK4 hb,λh' tk hk=>?_⟩;refine⟨.bl _,H,I.kept λb o eo=>hk b o (λN9=>?_) (pq _ eo),?_,q⟩
 .rcases pM.mp N9 with e1|N9
  .exact absurd (e1▸qu eo) (r_ _)
  .cases N9
 .show wc _=wc _;rw[<-all_range,hb,pZ,χ]
end
section
variable {X:Cx}{AB:List (Ξ × sR)}{σ:St}{H:Hp}{s : Ω}
end
section
variable {X:Cx}
end
abbrev ASf(h:qM)(c : Ξ)(v:Option Δ):Prop:=h.IsCell c v
def AXQ(scope sc:ua):ua:={scope with names:=scope.names.map λ(n,k)=>if (k == .free&&sc.kind == .function&&sc.names.lookup n==some .cell) then(n,.cell) else(n,k)}
def Dg(cells:List (qf × Ξ)):List (qf×ud)->List (qf × Ξ)->List (qf × Ξ)
 |[],acc=>acc
 |(n,k)::r,acc=>if k == .free then Dg cells r ((n,(cells.lookup n).getD 0)::acc) else Dg cells r acc
theorem AFD(env:yx)(f:qf×ud->List (qf × Ξ)->zH (ForInStep (List (qf × Ξ))))
  (hf:∀n k c,f (n,k) c=if k == .free then(do let a <-cellOf env n;pure (.yield ((n,a)::c))) else pure (.yield c)):
  ∀(names:List (qf×ud)) (acc:List (qf × Ξ)),(∀y∈names,y.2=.free->∃c,env.cells.lookup y.1=some c)->forIn names acc f=pure (Dg env.cells names acc)
 |[],acc,_=>by rw[List.forIn_nil];rfl
 |(n,k)::r,acc,h=>by
  rw[List.forIn_cons,hf];have ih:=λacc=>AFD env f hf r acc λy hy=>h y (θ _ hy);unfold Dg;by_cases hk:(k==vt)=true
  .rw[η hk,η hk];obtain⟨c,hc⟩:=h (n,k) υ (by simpa using hk);have e:cellOf env n=pure c:=by unfold cellOf;rw[hc]
   rw[e];have e2:(env.cells.lookup n).getD 0=c:=by rw[hc];rfl
   rw[e2];exact ih _
  .rw[ζ hk,ζ hk];exact ih _
theorem ANg{scope:ua}{env:yx}(h:∀y∈scope.names,y.2=.free->∃c,env.cells.lookup y.1=some c):closureFor scope env=pure (Dg env.cells scope.names []):=by simp only[closureFor];rw[AFD env _ (λn k c=>rfl) scope.names [] h];rfl
theorem mem_lookup{α:Type}:∀{l:List (qf×α)}{n:qf}{c:α},(n,c)∈l->∃c',l.lookup n=some c'
 |(k,v)::r,n,c,h=>by
  rw[sU];cases hb:n==k with
  |true=>exact⟨_,rfl⟩
  |false=>
   rcases pM.mp h with e|h
   .cases e;simp at hb
   .exact mem_lookup h
theorem Nf{cells:List (qf × Ξ)}:∀{names:List (qf×ud)}{acc:List (qf × Ξ)}{n:qf}{c : Ξ},(n,c)∈Dg cells names acc->(n,c)∈acc\/((n,.free)∈names/\c=(cells.lookup n).getD 0)
 |[],_,_,_,h=>.inl h
 |(m,k)::r,acc,n,c,h=>by
  unfold Dg at h;split at h
  .rename_i hk;have hk:k=.free:=by simpa using hk
   rcases Nf h with h|⟨h1,h2⟩
   .rcases pM.mp h with e|h
    .cases e;exact .inr ⟨hk ▸ υ,rfl⟩
    .exact .inl h
   .exact .inr ⟨θ _ h1,h2⟩
  .rcases Nf h with h|⟨h1,h2⟩
   .exact .inl h
   .exact .inr ⟨θ _ h1,h2⟩
theorem Qp{cells:List (qf × Ξ)}:∀{names:List (qf×ud)}{acc:List (qf × Ξ)}{p:qf × Ξ},p∈acc->p∈Dg cells names acc
 |[],_,_,h=>h
 |(m,k)::r,acc,p,h=>by
  unfold Dg;split
  .exact Qp (θ _ h)
  .exact Qp h
theorem Qo{cells:List (qf × Ξ)}:∀{names:List (qf×ud)}{acc:List (qf × Ξ)}{n:qf},(n,.free)∈names->(n,(cells.lookup n).getD 0)∈Dg cells names acc
 |(m,k)::r,acc,n,h=>by
  unfold Dg;rcases pM.mp h with e|h
  .cases e;exact Qp υ
  .split
   .exact Qo h
   .exact Qo h
theorem Oh:∀{names:List (qf×ud)}{h:qM}{acc:List (qf × Ξ)}{x:qf}{c : Ξ},(x,c)∈cellsFrom h.objs.size names acc ->
  (x,c)∈acc\/((x,.cell)∈names/\h.objs.size<=c/\ASf (pushCells h names) c none)
 |[],_,_,_,_,h=>.inl h
 |(n,k)::r,h,acc,x,c,hm=>by
  unfold cellsFrom at hm;unfold pushCells;split at hm
  .rename_i hk;rw[η hk];have hk:k=.cell:=by simpa using hk
   rw[<-r9 h {cls:=.type "cell",data:=.cell none}] at hm;rcases Oh hm with hm|⟨h1,h2,h3⟩
   .rcases pM.mp hm with e|hm
    .cases e;exact .inr ⟨hk ▸ υ,b_ _,_,wH r _ _ _ (pV _ rfl),rfl⟩
    .exact .inl hm
   .rw[r9] at h2;exact .inr ⟨θ _ h1,vR h2,h3⟩
  .rename_i hk;rw[ζ hk];rcases Oh hm with hm|⟨h1,h2,h3⟩
   .exact .inl hm
   .exact .inr ⟨θ _ h1,h2,h3⟩
theorem RY:∀{names:List (qf×ud)}{n:Nat}{acc:List (qf × Ξ)}{p:qf × Ξ},p∈acc->p∈cellsFrom n names acc
 |[],_,_,_,h=>h
 |(m,k)::r,n,acc,p,h=>by
  unfold cellsFrom;split
  .exact RY (θ _ h)
  .exact RY h
theorem Ua:∀{names:List (qf×ud)}{n:Nat}{acc:List (qf × Ξ)}{x:qf},(x,.cell)∈names->∃c,(x,c)∈cellsFrom n names acc
 |(m,k)::r,n,acc,x,h=>by
  unfold cellsFrom;rcases pM.mp h with e|h
  .cases e;exact⟨n,RY υ⟩
  .split
   .exact Ua h
   .exact Ua h
theorem UZ:∀{names:List (qf×ud)}{h:qM}{acc:List (qf × Ξ)}{x y:qf}{c : Ξ},(∀p∈acc,p.2<h.objs.size)->(∀x y c,(x,c)∈acc->(y,c)∈acc->x=y) ->
  (x,c)∈cellsFrom h.objs.size names acc->(y,c)∈cellsFrom h.objs.size names acc->x=y
 |[],_,_,_,_,_,_,hi,h1,h2=>hi _ _ _ h1 h2
 |(n,k)::r,h,acc,x,y,c,hl,hi,h1,h2=>by
  unfold cellsFrom at h1 h2;split at h1
  .rename_i hk;rw[η hk] at h2;rw[<-r9 h {cls:=.type "cell",data:=.cell none}] at h1 h2;refine UZ (h:=h.push _) (λp hp=>?_) (λx y c a b=>?_) h1 h2
   .rw[r9];rcases pM.mp hp with rfl|hp
    .exact tG _
    .exact uY (hl p hp)
   .rcases pM.mp a with e|a<;>rcases pM.mp b with e'|b
    .cases e;cases e';rfl
    .cases e;exact absurd (hl _ b) (r_ _)
    .cases e';exact absurd (hl _ a) (r_ _)
    .exact hi _ _ _ a b
  .rename_i hk;rw[ζ hk] at h2;exact UZ hl hi h1 h2
theorem ALs{M:zJ}{A:qN}{E : Δ -> Ω -> Prop}{s : Ω}{scope:ua}{globals : Ξ}{closure:List (qf × Ξ)}{qual:qf}{func:Option Ξ}{code : Δ}{around:yx}{builtins : Ξ}{Q:yx -> Ω -> Prop}
  (h:Q (newEnv scope s.heap.objs.size globals (cellsFrom (s.heap.objs.size+1) scope.names closure) qual func code (some around) builtins)
   {s with heap:=pushCells (s.heap.push {cls:=.type "dict",data:=.dict #[]}) scope.names}):
  p_ M A (newFunctionEnv scope globals closure [] qual func code (some around) builtins) Q E s:=by
 simp only[newFunctionEnv,Option.isSome_some,if_true];refine c_ (wpAny_alloc ?_);refine c_ (wpAny_layCells _ (λn k c=>rfl) scope.names closure _ _ ?_);rw[show({s with heap:=s.heap.push {cls:=.type "dict",data:=.dict #[]} } : Ω).heap.objs.size=s.heap.objs.size+1 from r9 ..];rw[List.forIn_nil];exact c_ (pX (pX h))
theorem QZ{sc:ua}:∀{names:List (qf×ud)}{x:qf}{k:ud},
  (names.map λ(n,k)=>if (k==vt&&sc.kind == .function&&sc.names.lookup n==some .cell) then(n,yD) else(n,k)).lookup x=some k ->
  ∃k',names.lookup x=some k'/\(k=k'\/(k'=.free/\k=.cell))
 |[],_,_,h=>by simp at h
 |(n,k₀)::r,x,k,h=>by
  have ih:=@QZ sc r x k;have h':uy x ((if (k₀==vt&&sc.kind == .function&&sc.names.lookup n==some .cell)=true then(n,yD) else(n,k₀))::(r.map _))=some k:=h;cases hx:x==n with
  |true=>
   simp only[sU,hx];by_cases hc:(k₀==vt&&sc.kind == .function&&sc.names.lookup n==some .cell)=true
   .rw[η hc] at h';simp only[sU,hx] at h';cases h';simp only[qm,beq_iff_eq] at hc;exact⟨k₀,rfl,.inr ⟨hc.1.1,rfl⟩⟩
   .rw[ζ hc] at h';simp only[sU,hx] at h';cases h';exact⟨_,rfl,.inl rfl⟩
  |false=>
   simp only[sU,hx];by_cases hc:(k₀==vt&&sc.kind == .function&&sc.names.lookup n==some .cell)=true
   .rw[η hc] at h';simp only[sU,hx] at h';exact ih h'
   .rw[ζ hc] at h';simp only[sU,hx] at h';exact ih h'
structure Y7(N:List qf)(sc scope:ua)(own:List (qf×Nat)):Prop where
 kind:scope.kind=.function
 uniq:∀y∈scope.names,scope.names.lookup y.1=some y.2
 ix:∀p∈own,N[p.2]?=some p.1
 free:∀y∈scope.names,y.2=.free->sc.names.lookup y.1=some .cell\/sc.names.lookup y.1=some .free
 own:∀y∈scope.names,y.2=.local\/y.2=.cell->y.1∈own.map (·.1)\/y.1∉N
def wipe(σ:St):List Nat->St
 |[]=>σ
 |v::vs=>(wipe σ vs).set v none
theorem P6(σ:St):∀vs:List Nat,(wipe σ vs).length=σ.length
 |[]=>rfl
 |v::vs=>by unfold wipe;rw[List.length_set,P6 σ vs]
theorem To{σ:St}{i:Nat}{x:V}:∀{vs:List Nat},(wipe σ vs)[i]?=some (some x)->σ[i]?=some (some x)/\i∉vs
 |[],h=>⟨h,by simp⟩
 |v::vs,h=>by
  unfold wipe at h;by_cases hi:v=i
  .subst hi;by_cases hv:v<(wipe σ vs).length
   .rw[vW hv] at h;cases h
   .rw[uX (by simpa using hv)] at h;cases h
  .rw[wC hi] at h;obtain⟨h1,h2⟩:=To h;exact⟨h1,by simp only[pM,not_or];exact⟨λe=>hi e.symm,h2⟩⟩
abbrev Cx.YQ(X:Cx)(s : Ω)(H:Hp)(scope:ua)(J0:yx)(fp:List Ξ):Cx:={X with Wt:=s,gc:=H,env:=J0,AR:=X.stack,ex:=fp,fn:=λx=>scope.names.lookup x==some .cell,pn:=[],xe:=λ_ _=>False}
section
variable {X:Cx}{AB:List (Ξ × sR)}{σ:St}{H:Hp}{s : Ω}
theorem AMa{scope:ua}{own:List (qf×Nat)}{fp:List Ξ}(I:Inv X AB σ H s)(ok:Y7 X.N X.env.scope scope own)(hN:X.N.Nodup)(jX:∀b∈fp,Ri X AB H b/\b<s.heap.objs.size):
  Inv (X.YQ s H scope (compEnvC scope (cellsFrom (s.heap.objs.size+1) scope.names (Dg X.env.cells scope.names [])) s.heap.objs.size X.env) fp) [] (wipe σ (own.map (·.2))) H {s with heap:=pushCells (s.heap.push {cls:=.type "dict",data:=.dict #[]}) scope.names}:=by
 have Uq:∀y∈scope.names,y.2=.free->∃c,X.env.cells.lookup y.1=some c:=λy hy e=>by
  rcases ok.free y hy e with k|k
  .exact I.ok.has _ (.inl k)
  .exact I.ok.has _ (.inr k)
 generalize hcenv:compEnvC scope (cellsFrom (s.heap.objs.size+1) scope.names (Dg X.env.cells scope.names [])) s.heap.objs.size X.env=J0;have kp:∀b o,s.heap.get? b=some o->(pushCells (s.heap.push {cls:=.type "dict",data:=.dict #[]}) scope.names).get? b=some o:=λb o e=>wH _ _ _ _ (pq _ e);have hL:J0.locals=s.heap.objs.size:=by rw[<-hcenv];rfl
 have aF:J0.cells=cellsFrom (s.heap.objs.size+1) scope.names (Dg X.env.cells scope.names []):=by rw[<-hcenv];rfl
 have nq:J0.scope=AXQ scope X.env.scope:=by rw[<-hcenv];rfl
 rw[<-r9 s.heap {cls:=.type "dict",data:=.dict #[]}] at aF;have cm:∀{y c},(y,c)∈Dg X.env.cells scope.names []->X.env.cells.lookup y=some c/\c<s.heap.objs.size:=λ{y c} hm=>by
  rcases Nf hm with hm|⟨h1,rfl⟩
  .cases hm
  .obtain⟨c,hc⟩:=Uq _ h1 rfl;rw[hc];obtain⟨w,z⟩:=I.cell _ _ hc;exact⟨rfl,z.lt⟩
 have mem:∀{y c},J0.cells.lookup y=some c->(X.env.cells.lookup y=some c/\c<s.heap.objs.size)\/(s.heap.objs.size+1<=c/\ASf (pushCells (s.heap.push {cls:=.type "dict",data:=.dict #[]}) scope.names) c none):=λ{y c} e=>by
  rw[aF] at e;rcases Oh (qF e) with hm|⟨_,h2,h3⟩
  .exact .inl (cm hm)
  .rw[r9] at h2;exact .inr ⟨h2,h3⟩
 have look:∀{y},scope.names.lookup y=some .free->∃c,J0.cells.lookup y=some c/\X.env.cells.lookup y=some c:=λ{y} hl=>by
  have hy:(y,vt)∈scope.names:=qF hl;obtain⟨c',e'⟩:=mem_lookup (RY (names:=scope.names) (n:=(s.heap.push {cls:=.type "dict",data:=.dict #[]}).objs.size) (Qo (cells:=X.env.cells) (acc:=[]) hy));rw[<-aF] at e';refine⟨c',e',?_⟩;rw[aF] at e';rcases Oh (qF e') with hm|⟨h1,_,_⟩
  .exact(cm hm).1
  .have:=ok.uniq _ h1;rw[hl] at this;cases this
 have okB:(X.YQ s H scope J0 fp).Ok:=by
  refine⟨I.ok.mod,by show J0.scope.kind=_;rw[nq];exact ok.kind,by show J0.globals=_;rw[<-hcenv];exact I.ok.glob,by show J0.builtins=_;rw[<-hcenv];exact I.ok.blt,by show s.heap.objs.size<=J0.locals;rw[hL];exact b_ _,
   λy z c e1 e2=>?_,λy hy=>?_,λy c z e=>?_,I.ok.hd,I.ok.frames,.inl rfl,λb hb=>⟨?_,λy c e z=>?_⟩,I.bs,a_ I.ok.bV I.sz,λb o e hb=>?_,λb hb z=>?_,I.stack,I.AN1⟩
  .have e1:J0.cells.lookup y=some c:=e1;have e2:J0.cells.lookup z=some c:=e2;rw[aF] at e1 e2;refine UZ (λp hp=>?_) (λy z c a b=>I.ok.inj y z c (cm a).1 (cm b).1) (qF e1) (qF e2);rw[r9];exact uY (cm (y:=p.1) (c:=p.2) hp).2
  .show∃c,J0.cells.lookup y=some c;have key:∀k,J0.kindOf y=some k->(k=.cell\/k=.free)->∃c,J0.cells.lookup y=some c:=λk hk bD=>by
    unfold Env.kindOf at hk;rw[nq] at hk;obtain⟨k',e,r⟩:=QZ hk;have:k'=.cell\/k'=.free:=by
     rcases r with rfl|⟨rfl,_⟩
     .exact bD
     .exact .inr rfl
    rcases this with rfl|rfl
    .obtain⟨c,hm⟩:=Ua (n:=(s.heap.push {cls:=.type "dict",data:=.dict #[]}).objs.size) (acc:=Dg X.env.cells scope.names []) (qF e);obtain⟨c',e'⟩:=mem_lookup hm;exact⟨c',by rw[aF];exact e'⟩
    .obtain⟨c,h1,_⟩:=look e;exact⟨c,h1⟩
   rcases hy with hy|hy
   .exact key _ hy (.inl rfl)
   .exact key _ hy (.inr rfl)
  .have z:(scope.names.lookup y==some yD)=true:=z;have z:scope.names.lookup y=some .cell:=by simpa using z
   have e:J0.cells.lookup y=some c:=e;rw[aF] at e;rcases Oh (qF e) with hm|⟨_,h2,_⟩
   .rcases Nf hm with hm|⟨h1,_⟩
    .cases hm
    .have q:=ok.uniq _ h1;rw[z] at q;cases q
   .rw[r9] at h2;exact vR h2
  .show b≠J0.locals;rw[hL];exact qK (jX b hb).2
  .have e:J0.cells.lookup y=some c:=e;rcases mem e with⟨h1,_⟩|⟨h1,_⟩
   .exact(jX b hb).1.2.2.2.2.1 y c h1 z
   .have h2:s.heap.objs.size+1<=b:=by rw[<-z];exact h1
    exact absurd (p8 (jX b hb).2 (vR h2)) (r_ _)
  .rcases(jX b hb).1.2.2.2.1 with z|z
   .exact I.ok.cF b o e z
   .exact absurd (p8 (qu e) (a_ I.ok.bV z)) (r_ _)
  .rcases pM.mp (I.ZM b z) with z|z
   .exact(jX b hb).1.2.1 z
   .exact(jX b hb).1.2.2.1 z
 refine⟨okB,rfl,I.bare,Un.kept kp,⟨λ_=>none,?_,λi y av e1 e2 e3=>?_⟩,λy c e=>?_,?_,λy c e=>?_,λp hp=>?_,I.CC.kept kp,by rw[P6];exact I.len⟩
 .show Heap.Ns _ J0.locals _;rw[hL];exact Heap.Ns.keeps (Heap.Ns.new ..) λb o e=>wH _ _ _ _ e
 .obtain⟨e2,Yl⟩:=To e2;have gO:scope.names.lookup y=some .free/\(J0.kindOf y=some .cell\/J0.kindOf y=some .free):=by
   have key:∀k,J0.scope.names.lookup y=some k->k=.local\/k=.cell\/k=.free->scope.names.lookup y=some .free/\(J0.kindOf y=some .cell\/J0.kindOf y=some .free):=λk hk bD=>by
    have hk0:=hk;rw[nq] at hk;obtain⟨k',e,r⟩:=QZ hk;have no:¬ (k'=.local\/k'=.cell):=λhh=>by
     rcases ok.own _ (qF e) hh with e'|e'
     .obtain⟨p,hp,hpy⟩:=Θ.mp e';have e3:=ok.ix p hp;have:p.1=y:=hpy;rw[this] at e3;exact Yl (Θ.mpr ⟨p,hp,V4 hN e3 e1⟩)
     .exact e' (qQ e1)
    rcases r with rfl|⟨rfl,rfl⟩
    .rcases bD with rfl|rfl|rfl
     .exact absurd (.inl rfl) no
     .exact absurd (.inr rfl) no
     .exact⟨e,.inr hk0⟩
    .exact⟨e,.inl hk0⟩
   have e3:k6 J0.scope y:=e3;rcases e3 with e3|e3|e3
   .exact key _ e3 (.inl rfl)
   .exact key _ e3 (.inr (.inl rfl))
   .exact key _ e3 (.inr (.inr rfl))
  obtain⟨m,hn,hl⟩:=I.loc;have AXk:k6 X.env.scope y:=(ok.free _ (qF gO.1) rfl).elim (λk=>.inr (.inl k)) (λk=>.inr (.inr k));obtain⟨w,r,q⟩:=hl i y av e1 e2 AXk;refine⟨w,r,.inr ⟨gO.2,?_⟩⟩;obtain⟨c,h1,h2⟩:=look gO.1;rcases q with⟨k,_⟩|⟨_,c',e',z⟩
  .have k:X.env.scope.names.lookup y=some .local:=k;rcases ok.free _ (qF gO.1) rfl with k'|k'<;>rw[show X.env.scope.names.lookup y=_ from k'] at k<;>cases k
  .rw[h2] at e';cases e';exact⟨c,h1,z.keeps kp⟩
 .have e:J0.cells.lookup y=some c:=e;rcases mem e with⟨h1,_⟩|⟨_,z⟩
  .obtain⟨w,z⟩:=I.cell y c h1;exact⟨w,z.keeps kp⟩
  .exact⟨_,z⟩
 .show H J0.locals=none;rw[hL];exact I.CC.fresh (b_ _)
 .have e:J0.cells.lookup y=some c:=e;rcases mem e with⟨h1,_⟩|⟨h1,_⟩
  .exact I.Nb y c h1
  .exact I.CC.fresh (vR h1)
 .exact absurd (show p∈([]:List (Ξ × sR))++[] from hp) (by simp)
theorem AVn{E : Δ -> Ω -> Prop}{D : Ξ}{xs:List V}{y:V}{v : Δ}{Q : Δ -> Ω -> Prop}(I:Inv X AB σ H s)(hD:H D=some (.lst xs))(hz:xs.length<pY)(r:RelV y v)
  (h:∀s',Inv X AB σ (upd H D (.lst (xs++[y]))) s'->Q .none s'):p_ (model X.prog X.w) X.A (call (.builtin "list.append") [.ref D,v]) Q E s:=by
 obtain⟨hz',Bc,n,ri,e⟩:=I.CC D _ hD;have hl:=ri.length;refine append_at (hsz:=by rw[pZ];omega) e λh' sb Yk=>?_;refine h {s with heap:=h'} (I.write (t':=s.toks) (by rw[hD];trivial) (.inl rfl) (λb u hb q=>(sb.2 b hb).trans q) ⟨_,Yk⟩ ⟨by rw[pP];exact hz,Bc++[v],n+1,ri.append (.cons r .nil),?_⟩);rw[Yk];simp
def k8(X:Cx)(ifs:List qU)(t:TT):Prop:=
 ∀(AB:List (Ξ × sR)) (s : Ω) (σ:St) (H:Hp) (Q:Bool->Hp->Prop),Inv X AB σ H s->t σ H Q ->
  p_ (model X.prog X.w) X.A (forIn ifs true λc r=>if r=true then do let ok <-isTrue c X.env (eval c X.env);pure (wJ ok) else pure (wJ r)) (TP X AB σ Q) X.xe s
def AVv:TT:=λ_ H Q=>Q true H
theorem U9:k8 X [] AVv:=λ_ _ _ H _ I h=>wpAny_tests_nil ⟨H,I,h⟩
theorem O7{c:qU}{t:TT}(h:PT X c t):k8 X [c] t:=λAB s σ H Q I hw=>wpAny_tests_one (h AB s σ H Q I hw)
end
theorem aP{α:Type}{t:zH α}{Q Q':α -> Ω -> Prop}{M:zJ}{A:qN}{E : Δ -> Ω -> Prop}{s : Ω}(h:p_ M A t Q (λ_ _=>False) s)(hQ:∀a s,Q a s->Q' a s):p_ M A t Q' E s:=rQ h hQ λ_ _ z=>rL z
theorem AKm{prog:pQ}{w:qt}{A:qN}{R:zu -> Ω -> Prop}{s : Ω}{elt target iter:qU}{ifs:List qU}{scope:ua}{pos:Pos}{it acc : Δ}{env:yx}(I:Nat -> Ω -> Prop)
  (turn:∀n s,I n s->p_ (model prog w) A (pyNext it) (λr s₁=>match r with
   |none=>R (.ok .next) s₁
   |some v=>p_ (model prog w) A (letOwnedTupleGo target it v) (λ_ s₁'=>p_ (model prog w) A (assign target env v) (λ_ s₂=>
     p_ (model prog w) A (forIn ifs true λc r=>if r=true then do let ok <-isTrue c env (eval c env);pure (wJ ok) else pure (wJ r)) (λok s₃=>
      if ok=true then p_ (model prog w) A (eval elt env) (λx s₄=>p_ (model prog w) A (call (.builtin "list.append") [acc,x]) (λ_ s₅=>∃m,m<n/\I m s₅) (notedBy (model prog w) A env λe s'=>R (.error e) s') s₄) (notedBy (model prog w) A env λe s'=>R (.error e) s') s₃
      else∃m,m<n/\I m s₃) (notedBy (model prog w) A env λe s'=>R (.error e) s') s₂) (notedBy (model prog w) A env λe s'=>R (.error e) s') s₁') (notedBy (model prog w) A env λe s'=>R (.error e) s') s₁) (notedBy (model prog w) A env λe s'=>R (.error e) s') s)
  (n:Nat) (h:I n s):
  codeAny (model prog w) A (.compLoop (.ListComp elt [⟨target,iter,ifs,0⟩] scope pos) 0 it acc env) R s:=by
 refine codeAny_loop rfl I (λn s hI=>?_) n h;show p_ _ A ((compTurn (.ListComp elt [⟨target,iter,ifs,0⟩] scope pos) 0 it acc env).onRaise (λx=>do noteFrame x env;theTreesLotGoes x)) _ _ s;refine wpAny_noted ?_;rw[compTurn_list];refine c_ (yy (c_ (rQ (turn n s hI) (λr s₁ h₁=>?_) λ_ _ h'=>h')));cases r with
 |none=>exact pX h₁
 |some v=>
  refine c_ (rQ h₁ (λ_ s₁' h₁'=>?_) λ_ _ h'=>h');refine c_ (rQ h₁' (λ_ s₂ h₂=>c_ (rQ h₂ (λok s₃ h₃=>?_) λ_ _ h'=>h')) λ_ _ h'=>h');cases ok with
  |false=>exact pX ⟨rfl,h₃⟩
  |true=>exact c_ (c_ (rQ h₃ (λx s₄ h₄=>c_ (rQ h₄ (λ_ s₅ h₅=>pX (pX ⟨rfl,h₅⟩)) λ_ _ h'=>h')) λ_ _ h'=>h'))
section
variable {X:Cx}
def jg(wi:TI)(g:TG)(tt:TT)(te:TE)(vs:List Nat):TE:=λσ H Q=>wi σ H λJ H1=>∀D,H1 D=none->∃W:Nat->Nat->Hp->Prop,(∃m,W 0 m (upd H1 D (.lst [])))/\∀i m H,W i m H ->
 (J.stop i H/\Q (.ref D) H)\/(J.go i H/\∃Nx:Hp->Prop,(∀H',Nx H'->∃m',m'<m/\W (i+1) m' H')/\∀x H',J.er i H x H'->g x (wipe σ vs) H' λσ2 H2=>wipe σ2 vs=wipe σ vs/\tt σ2 H2 λb H3=>if b=true then te σ2 H3 λy H4=>∃acc,H4 D=some (.lst acc)/\acc.length<pY/\Nx (upd H4 D (.lst (acc++[y]))) else Nx H3)
theorem AOh{AB:List (Ξ × sR)}{s : Ω}{σ:St}{H:Hp}{Q:VK}{elt tg iter:qU}{ifs:List qU}{scope:ua}{own:List (qf×Nat)}{pos pos':Pos}{wi:TI}{g:TG}{tt:TT}{te:TE}{use:Option (Δ -> zH Unit)}{Qf : Δ -> Ω -> Prop}
  (hc:X.calm=true) (hN:X.N.Nodup) (I:Inv X AB σ H s) (hi:PI X tg iter wi) (ok:Y7 X.N X.env.scope scope own)
  (hg:∀(s : Ω) (H:Hp) (C : Ξ) (cl:List (qf × Ξ)) (fp:List Ξ),PG (X.YQ s H scope (compEnvC scope cl C X.env) fp) tg g) (ht:∀(s : Ω) (H:Hp) (C : Ξ) (cl:List (qf × Ξ)) (fp:List Ξ),k8 (X.YQ s H scope (compEnvC scope cl C X.env) fp) ifs tt)
  (he:∀(s : Ω) (H:Hp) (C : Ξ) (cl:List (qf × Ξ)) (fp:List Ξ),PE (X.YQ s H scope (compEnvC scope cl C X.env) fp) elt te) (hs:∀x,foldedSetIterable iter X.env x=pure x)
  (h:jg wi g tt te (own.map (·.2)) σ H Q)
  (hRR:∀D C s' m H',Inv X AB σ H' s'->Q (.ref D) H'->s'.heap.Ns C m->Ri X AB H' C->compPost (model X.prog X.w) X.A X.xe use Qf (.ref D) C (.ok .next) s'):
  p_ (model X.prog X.w) X.A (comprehension (.ListComp elt [⟨tg,iter,ifs,0⟩] scope pos) scope X.env pos' (newList []) false (eval iter X.env) use) Qf X.xe s:=by
 have Uq:∀y∈scope.names,y.2=.free->∃c,X.env.cells.lookup y.1=some c:=λy hy e=>by
  rcases ok.free y hy e with k|k
  .exact I.ok.has _ (.inl k)
  .exact I.ok.has _ (.inr k)
 refine wpAny_comprehension_free (use:=use) rfl hs (ANg Uq) ok.kind (λy hy e=>by rw[ok.uniq y hy,e])
  (EC (hi AB s σ H _ I h) λxv s1 hx=>EC hx λlW s2 h2=>?_)
 obtain⟨it,fp,tn,J,H2,e,I2,T,f6,f2,q⟩:=h2;subst e;refine vM (ALs ?_) (by show 0<=pY;decide);generalize hD:s2.heap.objs.size=D;have hDn:H2 D=none:=I2.CC.fresh (vS hD);obtain⟨W,⟨m0,w0⟩,turn⟩:=q D hDn;generalize hs3:({s2 with heap:=s2.heap.push {cls:=.type "list",data:=.seq ([]:List Δ).toArray} } : Ω)=s3;have I3:Inv X AB σ (upd H2 D (.lst [])) s3:=by rw[<-hs3];refine I2.laid (t':=s2.toks) (λb o e=>pq _ e) (vS hD) ⟨qG _,[],0,.nil,?_⟩;rw[<-hD];exact pV _ rfl
 have h3:s3.heap=s2.heap.push {cls:=.type "list",data:=.seq ([]:List Δ).toArray}:=by rw[<-hs3]
 have sz:∀b∈fp,b<s2.heap.objs.size:=λb hb=>by obtain⟨o,e,_⟩:=T.obj _ _ f6 b hb;exact qu e
 have f3:∀b∈fp,Ri X AB (upd H2 D (.lst [])) b/\b<s3.heap.objs.size:=λb hb=>by have Na:=sz b hb;refine⟨⟨?_,(f2 b hb).2⟩,by rw[h3,r9];exact uY Na⟩;rw[AH (by rw[<-hD];exact qK Na)];exact(f2 b hb).1
 have lE:tn 0 s3.heap:=T.keep _ _ _ f6 λb _ o e=>by rw[h3];exact pq _ e
 have I4:=AMa I3 ok hN f3;have pg:=hg s3 (upd H2 D (.lst [])) s3.heap.objs.size (cellsFrom (s3.heap.objs.size+1) scope.names (Dg X.env.cells scope.names [])) fp;have pt:=ht s3 (upd H2 D (.lst [])) s3.heap.objs.size (cellsFrom (s3.heap.objs.size+1) scope.names (Dg X.env.cells scope.names [])) fp;have pe:=he s3 (upd H2 D (.lst [])) s3.heap.objs.size (cellsFrom (s3.heap.objs.size+1) scope.names (Dg X.env.cells scope.names [])) fp;show codeAny _ _ (.compStart (.ListComp elt [⟨tg,iter,ifs,0⟩] scope pos) 0 (.ref it) (.ref D) (compEnvC scope (cellsFrom (s3.heap.objs.size+1) scope.names (Dg X.env.cells scope.names [])) s3.heap.objs.size X.env)) (compPost (model X.prog X.w) X.A X.xe use Qf (.ref D) s3.heap.objs.size) {s3 with heap:=pushCells (s3.heap.push {cls:=.type "dict",data:=.dict #[]}) scope.names};have nfp:∀b∈fp,(upd H2 D (.lst [])) b=none:=λb hb=>(f3 b hb).1.1;generalize hce:compEnvC scope (cellsFrom (s3.heap.objs.size+1) scope.names (Dg X.env.cells scope.names [])) s3.heap.objs.size X.env=ce at I4 pg pt pe ⊢;have cL:ce.locals=s3.heap.objs.size:=by subst hce;rfl
 generalize hH3:upd H2 D (.lst [])=H3 at I3 I4 pg pt pe w0 nfp f3;generalize hs4:({s3 with heap:=pushCells (s3.heap.push {cls:=.type "dict",data:=.dict #[]}) scope.names} : Ω)=s4 at I4 ⊢;have st4:tn 0 s4.heap:=T.keep _ _ _ lE λb _ o e=>by rw[<-hs4];exact wH _ _ _ _ (pq _ e)
 have ZN:∀{σ':St}{H':Hp}{s' : Ω},Inv (X.YQ s3 H3 scope ce fp) [] σ' H' s'->(∀b∈fp,H' b=none)->∀b∈fp,Ri (X.YQ s3 H3 scope ce fp) [] H' b:=λ{σ' H' s'} I' hn b hb=>⟨hn b hb,(I'.ok.mJ b hb).1,I'.ok.dJ b hb,.inl hb,λx c e=>(I'.ok.mJ b hb).2 x c e,λp hp=>absurd (show p∈([]:List (Ξ × sR))++[] from hp) (by simp)⟩
 have loop:codeAny (model X.prog X.w) X.A (.compLoop (.ListComp elt [⟨tg,iter,ifs,0⟩] scope pos) 0 (.ref it) (.ref D) ce) (compPost (model X.prog X.w) X.A X.xe use Qf (.ref D) s3.heap.objs.size) s4:=by
  refine AKm (λn s'=>∃i H',Inv (X.YQ s3 H3 scope ce fp) [] (wipe σ (own.map (·.2))) H' s'/\tn i s'.heap/\(∀b∈fp,H' b=none)/\W i n H') ?_ m0 ⟨0,H3,I4,st4,nfp,w0⟩;rintro n s5 ⟨i,H5,I5,st5,n5,w5⟩;rcases turn i n H5 w5 with⟨stop,qq⟩|⟨go,Nx,hNx,step⟩
  .have td:=T.done (X.YQ s3 H3 scope ce fp) rfl rfl rfl hc i [] s5 _ H5 (λ_ _=>False) I5 (ZN I5 n5) st5 stop;refine aP td λr s6 ⟨hr,I6⟩=>?_;subst hr;have I7:Inv X AB σ H5 s6:=I3.AW6 (ch:=fp) I6.os I6.AG I6.CC I6.bare λb hb=>⟨(f3 b hb).1.2.2.2.1,(f3 b hb).1.2.1,(f3 b hb).1.2.2.2.2.1,(f3 b hb).1.2.2.2.2.2⟩
   have nC:H5 s3.heap.objs.size=none:=by have z:H5 ce.locals=none:=I6.free;rw[cL] at z;exact z
   obtain⟨m,hn,_⟩:=I6.loc;have hn:s6.heap.Ns ce.locals m:=hn;rw[cL] at hn;exact hRR D s3.heap.objs.size s6 m H5 I7 qq hn (I3.bJ (b_ _) nC)
  .have ti:=T.item (X.YQ s3 H3 scope ce fp) rfl rfl rfl hc i [] s5 _ H5 (λ_ _=>False) I5 (ZN I5 n5) st5 go;refine aP ti λr s6 ⟨u,hr,h6⟩=>?_;subst hr;refine aP h6 λ_ s7 ⟨x,H7,I7,r7,y7,st7,n7⟩=>?_;have I7':=I7.pinned (ZN I7 n7) (T.obj _ _ st7);refine aP (pg _ s7 _ H7 x u _ I7' r7 (step x H7 y7)) λ_ s8 ⟨σ8,H8,I8,lZ,q8⟩=>?_;refine aP (pt _ s8 σ8 H8 _ I8 q8) λb s9 ⟨H9,I9,q9⟩=>?_;have fin:∀{s' : Ω}{H':Hp},Inv (X.YQ s3 H3 scope ce fp) ([]++Vt fp s7.heap) σ8 H' s'->Nx H'->∃m,m<n/\∃i H',Inv (X.YQ s3 H3 scope ce fp) [] (wipe σ (own.map (·.2))) H' s'/\tn i s'.heap/\(∀b∈fp,H' b=none)/\W i m H':=λ{s' H'} I' nx=>by
    obtain⟨m',hm,w'⟩:=hNx H' nx;have AWM:∀b∈fp,∀o,s7.heap.get? b=some o->s'.heap.get? b=some o/\H' b=none:=λb hb o e=>
     let z:=I'.pin (b,o) (p9 _ (p9 _ (R8 hb e)))
     ⟨z.1,z.2.1⟩
    have hl:(wipe σ (own.map (·.2))).length=σ8.length:=by rw[<-lZ,P6]
    refine⟨m',hm,i+1,H',(I'.Se (AB:=[])).weak hl (λj v e=>?_),T.keep _ _ _ st7 λb hb o e=>(AWM b hb o e).1,λb hb=>?_,w'⟩
    .rw[<-lZ] at e;exact(To e).1
    .obtain⟨o,e,_⟩:=T.obj _ _ st7 b hb;exact(AWM b hb o e).2
   cases b with
   |false=>simp only[uR,if_false] at q9 ⊢;exact fin I9 q9
   |true=>simp only[if_true] at q9 ⊢;refine aP (pe _ s9 σ8 H9 _ I9 q9) λz s10 ⟨yv,H10,I10,r10,acc,hD10,hz10,nx⟩=>?_;exact AVn (X:=X.YQ s3 H3 scope ce fp) I10 hD10 hz10 r10 λs11 I11=>fin I11 nx
 exact codeAny_compStart_list loop (T.self X.A 0 _ _ _ st4 loop)
theorem So{elt tg iter:qU}{ifs:List qU}{scope:ua}{own:List (qf×Nat)}{pos:Pos}{wi:TI}{g:TG}{tt:TT}{te:TE}(hc:X.calm=true)(hN:X.N.Nodup)(hi:PI X tg iter wi)(ok:Y7 X.N X.env.scope scope own)
  (hg:∀(s : Ω) (H:Hp) (C : Ξ) (cl:List (qf × Ξ)) (fp:List Ξ),PG (X.YQ s H scope (compEnvC scope cl C X.env) fp) tg g) (ht:∀(s : Ω) (H:Hp) (C : Ξ) (cl:List (qf × Ξ)) (fp:List Ξ),k8 (X.YQ s H scope (compEnvC scope cl C X.env) fp) ifs tt)
  (he:∀(s : Ω) (H:Hp) (C : Ξ) (cl:List (qf × Ξ)) (fp:List Ξ),PE (X.YQ s H scope (compEnvC scope cl C X.env) fp) elt te) (hs:∀x,foldedSetIterable iter X.env x=pure x:=by intro _;rfl):
  PE X (.ListComp elt [⟨tg,iter,ifs,0⟩] scope pos) (jg wi g tt te (own.map (·.2))):=by
 intro AB s σ H Q I h;rw[eval_ListComp];refine AOh hc hN I hi ok hg ht he hs h λD C s' m H' I' q hn f=>⟨m,hn,λh'' sb=>?_⟩
 obtain⟨f0,f1,f2,f3,f4,f5⟩:=f;exact⟨.ref D,H',I'.turned (t':=s'.toks) (λb o hb e=>(sb.2 b hb).trans e) f0 f1 f3 f4 f5,rfl,q⟩
theorem ALX{i:Nat}{y:qf}{py:Pos}{elt tg iter:qU}{ifs:List qU}{scope:ua}{own:List (qf×Nat)}{pos AV7:Pos}{wi:TI}{g:TG}{tt:TT}{te:TE}(hc:X.calm=true)(hN:X.N.Nodup)(hy:X.N[i]?=some y)(hyl:X.env.scope.names.lookup y=some .local)
  (hsw:swapsWith (.ListComp elt [⟨tg,iter,ifs,0⟩] scope pos) (some (.Name y py)) AV7.line X.env=pure true) (hi:PI X tg iter wi) (ok:Y7 X.N X.env.scope scope own)
  (hg:∀(s : Ω) (H:Hp) (C : Ξ) (cl:List (qf × Ξ)) (fp:List Ξ),PG (X.YQ s H scope (compEnvC scope cl C X.env) fp) tg g) (ht:∀(s : Ω) (H:Hp) (C : Ξ) (cl:List (qf × Ξ)) (fp:List Ξ),k8 (X.YQ s H scope (compEnvC scope cl C X.env) fp) ifs tt)
  (he:∀(s : Ω) (H:Hp) (C : Ξ) (cl:List (qf × Ξ)) (fp:List Ξ),PE (X.YQ s H scope (compEnvC scope cl C X.env) fp) elt te) (hs:∀x,foldedSetIterable iter X.env x=pure x:=by intro _;rfl):
  PS X (.Assign [.Name y py] (.ListComp elt [⟨tg,iter,ifs,0⟩] scope pos) AV7) (gw (jg wi g tt te (own.map (·.2))) (WN i)):=by
 intro AB s σ H D I h;rw[exec_Assign_Name_used _ _ _ _ hsw];refine c_ (yy (c_ ?_));show p_ _ X.A (do let _ <-comprehension (.ListComp elt [⟨tg,iter,ifs,0⟩] scope pos) scope X.env (firstIterPos [⟨tg,iter,ifs,0⟩] pos) (newList []) false (eval iter X.env) (some (assign (.Name y py) X.env))) _ _ s;have h:jg wi g tt te (own.map (·.2)) σ H (λx H1=>WN i x σ H1 D.nx):=h;refine c_ (EC (AOh (Qf:=λ_ s'=>SP X AB D .next s') hc hN I hi ok hg ht he hs h λL C s' m H' I' q hn f=>?_) λ_ s' hq=>pX (pX hq));show p_ _ _ (assign (.Name y py) X.env (.ref L)) _ _ _;refine wpAny_assign_Name (AJX (v:=V.ref L) I' hN hy (.inl hyl) rfl (λs2 I2 ⟨a,sb,ha⟩=>?_) (.inr hyl));obtain⟨f0,f1,f2,f3,f4,f5⟩:=f;have haC:C≠a:=by
  rcases ha with z|z
  .rw[z];exact f1
  .exact λe=>f4 y a z e.symm
 refine⟨m,hn.sameBut sb haC,λh3 sb3=>?_⟩;exact⟨_,H',I2.turned (t':=s2.toks) (λb o hb e=>(sb3.2 b hb).trans e) f0 f1 f3 f4 f5,q⟩
theorem ANy{elt:qU}{gs:List Comprehension}{scope:ua}{pos py:Pos}{y:qf}{l:Nat}{env:yx}(hk:env.scope.kind=.function)(hy:env.scope.names.lookup y=some .local)(hl:(py.line==pos.line)=true)
  (ha:(scope.names.any λ(n,k)=>n==y&&(k == .local||k == .cell))=false):swapsWith (.ListComp elt gs scope pos) (some (.Name y py)) l env=pure true:=by
 have ky:env.kindOf y=some .local:=hy;have hb:env.blockKind=.function:=by unfold Env.blockKind;rw[hk];rfl
 unfold swapsWith;have e1:(Expr.ListComp elt gs scope pos).pos=pos:=rfl;have e2:(Expr.Name y py).pos=py:=rfl;simp only[hb,ky,ha,e1,e2,hl];rfl
end
theorem ATU{K : ξ}{a : Ξ}{xs:List V}{g:TG}{tt:TT}{te:TE}{vs:List Nat}{σ:St}{H1:Hp}{D : Ξ}{Qd:Hp->Prop}(Pv:Nat->Hp->Prop)(h0:Pv 0 (upd H1 D (.lst [])))(hl:∀i H,i<=xs.length->Pv i H->Er K H a xs)
  (hs:∀i x H,xs[i]?=some x->Pv i H->g x (wipe σ vs) H λσ2 H2=>wipe σ2 vs=wipe σ vs/\tt σ2 H2 λb H3=>if b=true then te σ2 H3 λy H4=>∃acc,H4 D=some (.lst acc)/\acc.length<pY/\Pv (i+1) (upd H4 D (.lst (acc++[y]))) else Pv (i+1) H3) (hd:∀H,Pv xs.length H->Qd H):
  ∃W:Nat->Nat->Hp->Prop,(∃m,W 0 m (upd H1 D (.lst [])))/\∀i m H,W i m H ->
   ((dZ K a).stop i H/\Qd H)\/((dZ K a).go i H/\∃Nx:Hp->Prop,(∀H',Nx H'->∃m',m'<m/\W (i+1) m' H')/\∀x H',(dZ K a).er i H x H'->g x (wipe σ vs) H' λσ2 H2=>wipe σ2 vs=wipe σ vs/\tt σ2 H2 λb H3=>if b=true then te σ2 H3 λy H4=>∃acc,H4 D=some (.lst acc)/\acc.length<pY/\Nx (upd H4 D (.lst (acc++[y]))) else Nx H3):=by
 refine⟨λi m H=>m=xs.length-i/\i<=xs.length/\Pv i H,⟨xs.length,by simp,qG _,h0⟩,?_⟩;rintro i m H ⟨rfl,hi,p⟩;have q:=hl i H hi p;by_cases Na:i<xs.length
 .refine .inr ⟨⟨xs,xs[i],q,by simp[Na]⟩,Pv (i+1),λH' p'=>⟨xs.length-(i+1),by omega,rfl,Na,p'⟩,λx H' y=>?_⟩;obtain⟨e,y⟩:=y;subst e;exact hs i x _ (y xs q) p
 .have e:i=xs.length:=by omega
  subst e;exact .inl ⟨⟨xs,q,b_ _⟩,hd H p⟩
theorem AVL{K : ξ}{a : Ξ}{xs:List V}{g:TG}{tt:TT}{te:TE}{vs:List Nat}{σ:St}{H1:Hp}{D : Ξ}{Qd:Hp->Prop}(Pv:Nat->Hp->Prop)(h0:Pv 0 (upd H1 D (.lst [])))(hl:∀i H,i<=xs.length->Pv i H->J1 K H a xs)
  (hs:∀i x H,xs[i]?=some x->Pv i H->g x (wipe σ vs) H λσ2 H2=>wipe σ2 vs=wipe σ vs/\tt σ2 H2 λb H3=>if b=true then te σ2 H3 λy H4=>∃acc,H4 D=some (.lst acc)/\acc.length<pY/\Pv (i+1) (upd H4 D (.lst (acc++[y]))) else Pv (i+1) H3) (hd:∀H,Pv xs.length H->Qd H):
  ∃W:Nat->Nat->Hp->Prop,(∃m,W 0 m (upd H1 D (.lst [])))/\∀i m H,W i m H ->
   ((jD K a).stop i H/\Qd H)\/((jD K a).go i H/\∃Nx:Hp->Prop,(∀H',Nx H'->∃m',m'<m/\W (i+1) m' H')/\∀x H',(jD K a).er i H x H'->g x (wipe σ vs) H' λσ2 H2=>wipe σ2 vs=wipe σ vs/\tt σ2 H2 λb H3=>if b=true then te σ2 H3 λy H4=>∃acc,H4 D=some (.lst acc)/\acc.length<pY/\Nx (upd H4 D (.lst (acc++[y]))) else Nx H3):=by
 refine⟨λi m H=>m=xs.length-i/\i<=xs.length/\Pv i H,⟨xs.length,by simp,qG _,h0⟩,?_⟩;rintro i m H ⟨rfl,hi,p⟩;have q:=hl i H hi p;by_cases Na:i<xs.length
 .refine .inr ⟨⟨xs,xs[i],q,by simp[Na]⟩,Pv (i+1),λH' p'=>⟨xs.length-(i+1),by omega,rfl,Na,p'⟩,λx H' y=>?_⟩;obtain⟨e,y⟩:=y;subst e;exact hs i x _ (y xs q) p
 .have e:i=xs.length:=by omega
  subst e;exact .inl ⟨⟨xs,q,b_ _⟩,hd H p⟩
def AW7(N:List qf)(sc scope:ua)(own:List (qf×Nat)):Bool:=
 (match scope.kind with|.function=>true|_=>false)&&(scope.names.all λy=>decide (scope.names.lookup y.1=some y.2))&&(own.all λp=>decide (N[p.2]?=some p.1)) &&
  (scope.names.all λy=>match y.2 with
   |.free=>(match sc.names.lookup y.1 with|some .cell=>true|some .free=>true|_=>false)
   |.local=>decide (y.1∈own.map (·.1))||decide (y.1∉N)
   |.cell=>decide (y.1∈own.map (·.1))||decide (y.1∉N)
   |_=>true)
theorem IW{N:List qf}{sc scope:ua}{own:List (qf×Nat)}(h:AW7 N sc scope own=true):Y7 N sc scope own:=by
 unfold AW7 at h;simp only[qm,tK,decide_eq_true_eq] at h;obtain⟨⟨⟨h1,h2⟩,h3⟩,h4⟩:=h;refine⟨?_,h2,h3,λy hy e=>?_,λy hy e=>?_⟩
 .split at h1
  .assumption
  .cases h1
 .have q:=h4 y hy;simp only[e] at q;split at q<;>first|exact .inl (by assumption)|exact .inr (by assumption)|cases q
 .have q:=h4 y hy;rcases e with e|e<;>(simp only[e,t9,decide_eq_true_eq] at q;exact q)
section
variable {prog:pQ}{w:qt}{A:qN}{R:zu -> Ω -> Prop}{s : Ω}{elt t0 i0 t1 i1:qU}{ifs0 ifs1:List qU}{scope:ua}{pos:Pos}{it acc : Δ}{env:yx}
end
section
variable {X:Cx}
end
section
variable {κ:Type} [DecidableEq κ]
def NU(kvs:List (κ×V))(k:κ):Option V:=(kvs.find? λkv=>decide (kv.1=k)).map (·.2)
def putK(kvs:List (κ×V))(k:κ)(v:V):List (κ×V):=if (kvs.any λkv=>decide (kv.1=k))=true then kvs.map (λkv=>if kv.1=k then(kv.1,v) else kv) else kvs++[(k,v)]
def L4(kvs:List (κ×V))(k:κ):List (κ×V):=kvs.filter λkv=>decide (kv.1≠k)
theorem QA{p:κ×V}{r:List (κ×V)}{k:κ}(e:p.1=k):NU (p::r) k=some p.2:=by simp[NU,t7,e]
theorem OP{p:κ×V}{r:List (κ×V)}{k:κ}(e:¬ p.1=k):NU (p::r) k=NU r k:=by simp[NU,t7,e]
theorem Sb(k:κ):∀kvs:List (κ×V),(kvs.any λkv=>decide (kv.1=k))=(NU kvs k).isSome
 |[]=>rfl
 |p::r=>by
  rw[sX];by_cases e:p.1=k
  .simp only[QA e,zqt e,wX,Option.isSome_some]
  .rw[OP e,zdf e,uE];exact Sb k r
theorem Qa(kvs:List (κ×V))(k:κ)(v:V):(putK kvs k v).length<=kvs.length+1:=by
 unfold putK;split
 .rw[χ];omega
 .rw[pP,o_,uT];omega
theorem AQ1{kvs:List (κ×V)}{k:κ}(v:V)(h:NU kvs k=none):putK kvs k v=kvs++[(k,v)]:=by unfold putK;rw[Sb,h];exact ζ (by decide)
theorem Pk.RL{o:Option V}{u:Option Δ}(r:Pk o u):o.isSome=u.isSome:=by
 cases o with
 |none=>cases u with
  |none=>rfl
  |some _=>exact(show False from r).elim
 |some _=>cases u with
  |none=>exact(show False from r).elim
  |some _=>rfl
theorem Pk.getD{o:Option V}{u:Option Δ}{d:V}{d' : Δ}(r:Pk o u)(rd:RelV d d'):RelV (o.getD d) (u.getD d'):=by
 cases o with
 |none=>cases u with
  |none=>exact rd
  |some _=>exact(show False from r).elim
 |some _=>cases u with
  |none=>exact(show False from r).elim
  |some _=>exact r
theorem KV.val{kvs:List (κ×V)}{vs:List (κ × Δ)}(r:KV kvs vs)(k:κ):Pk (NU kvs k) (valueAt vs k):=by
 unfold KV at r
 induction r with
 |nil=>exact uK
 | @cons p q ps qs h t ih=>
  obtain⟨h1,h2⟩:=h;by_cases e:p.1=k
  .have e':q.1=k:=h1.symm.trans e;have b:valueAt (q::qs) k=some q.2:=by simp[valueAt,t7,e']
   rw[QA e,b];exact h2
  .have e':¬ q.1=k:=λz=>e (h1.trans z);have b:valueAt (q::qs) k=valueAt qs k:=by simp[valueAt,t7,e']
   rw[OP e,b];exact ih
theorem KV.any{kvs:List (κ×V)}{vs:List (κ × Δ)}(r:KV kvs vs)(k:κ):(kvs.any λkv=>decide (kv.1=k))=vs.any λkv=>decide (kv.1=k):=by
 unfold KV at r
 induction r with
 |nil=>rfl
 |cons h t ih=>rw[sX,sX,ih,h.1]
theorem KV.g7{kvs:List (κ×V)}{vs:List (κ × Δ)}(r:KV kvs vs)(k:κ){y:V}{u : Δ}(ry:RelV y u):
  KV (kvs.map λkv=>if kv.1=k then(kv.1,y) else kv) (vs.map λkv=>if kv.1=k then(kv.1,u) else kv):=by
 unfold KV at r ⊢
 induction r with
 |nil=>exact .nil
 | @cons p q ps qs h t ih=>
  rw[k_,k_];refine .cons ?_ ih;obtain⟨h1,h2⟩:=h;by_cases e:p.1=k
  .rw[η e,η (h1.symm.trans e)];exact⟨h1,ry⟩
  .rw[ζ e,ζ (λz=>e (h1.trans z))];exact⟨h1,h2⟩
theorem KV.put{kvs:List (κ×V)}{vs:List (κ × Δ)}(r:KV kvs vs)(k:κ){y:V}{u : Δ}(ry:RelV y u):KV (putK kvs k y) (stored vs k u):=by
 unfold putK stored;rw[r.any k];by_cases e:(vs.any λkv=>decide (kv.1=k))=true
 .rw[η e,η e];exact r.g7 k ry
 .rw[ζ e,ζ e];exact Paired.snoc r ⟨rfl,ry⟩
theorem KV.drop{kvs:List (κ×V)}{vs:List (κ × Δ)}(r:KV kvs vs)(k:κ):KV (L4 kvs k) (without vs k):=by
 unfold KV at r ⊢;unfold L4 without
 induction r with
 |nil=>exact .nil
 | @cons p q ps qs h t ih=>
  obtain⟨h1,h2⟩:=h;rw[qB,qB];by_cases e:p.1=k
  .have a:¬ decide (p.1≠k)=true:=by simp[e]
   have b:¬ decide (q.1≠k)=true:=by simp[h1.symm.trans e]
   rw[ζ a,ζ b];exact ih
  .have e':¬ q.1=k:=λz=>e (h1.trans z);have a:decide (p.1≠k)=true:=by simp[e]
   have b:decide (q.1≠k)=true:=by simp[e']
   rw[η a,η b];exact .cons ⟨h1,h2⟩ ih
theorem KV.length{kvs:List (κ×V)}{vs:List (κ × Δ)}(r:KV kvs vs):kvs.length=vs.length:=rq r
theorem AMS(kvs:List (κ×V))(k:κ):(L4 kvs k).length<=kvs.length:=pU _ _
end
theorem S7{P:pQ}{w:qt}{k:Key}{u : Δ}(r:RelV (kV k) u):(BN P w).is k u=true:=by
 cases k with
 |inl i=>obtain⟨t,e⟩:=(show∃t,u=rF i t from r);subst e;exact ALw P w i t
 |inr x=>obtain⟨t,e⟩:=(show∃t,u=yp x t from r);subst e;exact ALv P w x t
theorem AJ3{P:pQ}{w:qt}:∀{ks:List Key}{us:List Δ},Vals (ks.map kV) us->ItemsAre (BN P w) ks us
 |[],_,r=>by rw[vj] at r;cases r;exact .nil
 |k::ks,_,r=>by
  rw[k_] at r;cases r with
  |cons h t=>exact .cons (S7 h) (AJ3 t)
abbrev KT(H:Hp):List (List Key×V)->List (List Key × Ξ × Δ)->Prop:=sG λp q=>p.1=q.1/\H q.2.1=some (.tup (p.1.map kV))/\RelV p.2 q.2.2
theorem KT.val{H:Hp}{kvs:List (List Key×V)}{xs:List (List Key × Ξ × Δ)}(r:KT H kvs xs)(k:List Key):Pk (NU kvs k) ((atKey xs k).map (·.2)):=by
 induction r with
 |nil=>exact uK
 | @cons p q ps qs h t ih=>
  obtain⟨h1,_,h2⟩:=h;by_cases e:p.1=k
  .have e':q.1=k:=h1.symm.trans e;have b:atKey (q::qs) k=some q.2:=by simp[atKey,t7,e']
   rw[QA e,b];exact h2
  .have e':¬ q.1=k:=λz=>e (h1.trans z);have b:atKey (q::qs) k=atKey qs k:=by simp[atKey,t7,e']
   rw[OP e,b];exact ih
theorem KT.g7{H:Hp}{kvs:List (List Key×V)}{xs:List (List Key × Ξ × Δ)}(r:KT H kvs xs)(k:List Key){y:V}{u : Δ}(ry:RelV y u):
  KT H (kvs.map λkv=>if kv.1=k then(kv.1,y) else kv) (xs.map (putAt k u)):=by
 induction r with
 |nil=>exact .nil
 | @cons p q ps qs h t ih=>
  rw[k_,k_];refine .cons ?_ ih;obtain⟨h1,h2,h3⟩:=h;unfold putAt;by_cases e:p.1=k
  .rw[η e,η (h1.symm.trans e)];exact⟨h1,h2,ry⟩
  .rw[ζ e,ζ (λz=>e (h1.trans z))];exact⟨h1,h2,h3⟩
theorem KT.put{H:Hp}{kvs:List (List Key×V)}{xs:List (List Key × Ξ × Δ)}(r:KT H kvs xs)(k:List Key){b : Ξ}{y:V}{u : Δ}(hb:H b=some (.tup (k.map kV)))(ry:RelV y u):
  KT H (putK kvs k y) (storedH xs k b u):=by
 have e:(kvs.any λkv=>decide (kv.1=k))=(atKey xs k).isSome:=by rw[Sb,(r.val k).RL,Option.isSome_map]
 unfold putK storedH;rw[e];by_cases q:(atKey xs k).isSome=true
 .rw[η q,η q];exact r.g7 k ry
 .rw[ζ q,ζ q];exact Paired.snoc r ⟨rfl,hb,ry⟩
theorem KT.keeps{H H':Hp}{kvs:List (List Key×V)}{xs:List (List Key × Ξ × Δ)}(r:KT H kvs xs)(ht:∀b ys,H b=some (.tup ys)->H' b=some (.tup ys)):KT H' kvs xs:=Paired.SA r λ_ _ z=>⟨z.1,ht _ _ z.2.1,z.2.2⟩
section
variable {P:pQ}{w:qt}{H:Hp}{h:qM}{a : Ξ}
theorem AUJ{u:HO}(ok:Ot P w H h)(e:Rd H a u):Fe P w H h a u:=e.ok ok
theorem Qj{kvs:List (Key×V)}(ok:Ot P w H h)(e:Rd H a (.dK kvs)):kvs.length<=pY/\(a==sysModules)=false/\∃vs,KV kvs vs/\h.DictOf (BN P w) a vs:=show Fe P w H h a (.dK kvs) from AUJ ok e
theorem aI{kvs:List (Key×V)}(ok:Ot P w H h)(e:H a=some (.dK kvs)):kvs.length<=pY/\(a==sysModules)=false/\∃vs,KV kvs vs/\h.DictOf (BN P w) a vs:=Qj ok (.inl e)
theorem WH{ks:List Key}(ok:Ot P w H h)(e:H a=some (.tup (ks.map kV))):(tupleKind (BN P w)).is h ks a:=by
 obtain⟨_,Bc,r,o,h1,h2,n,h3⟩:=(show Fe P w H h a (.tup (ks.map kV)) from ok a _ e)
 exact⟨o,Bc.toArray,n,h1,h2,h3,by simpa using AJ3 r⟩
theorem XG{kvs:List (List Key×V)}(ok:Ot P w H h)(e:Rd H a (.dT kvs)):kvs.length<=pY/\(a==sysModules)=false /\
  ∃xs,KT H kvs xs/\h.DictOfH (tupleKind (BN P w)) a xs:=by
 obtain⟨z,y,xs,r,o,es,ep,h1,h2,h3,h4,h5⟩:=(show Fe P w H h a (.dT kvs) from AUJ ok e)
 refine⟨z,y,xs,r,o,es,ep,h1,h2,h3,h4,λx hx=>?_,h5⟩;have all:∀{l:List (List Key×V)}{m:List (List Key × Ξ × Δ)},KT H l m->∀x∈m,(tupleKind (BN P w)).is h x.1 x.2.1:=by
  intro l m q
  induction q with
  |nil=>intro x hx;exact nomatch hx
  | @cons p q ps qs hq t ih=>
   intro x hx;rcases pM.mp hx with e|hx
   .subst e;exact WH ok (by rw[<-hq.1];exact hq.2.1)
   .exact ih x hx
 exact all r x hx
theorem AW1{kvs:List (List Key×V)}(ok:Ot P w H h)(e:H a=some (.dT kvs)):kvs.length<=pY/\(a==sysModules)=false /\
  ∃xs,KT H kvs xs/\h.DictOfH (tupleKind (BN P w)) a xs:=XG ok (.inl e)
end
def Ld(H:Hp)(a : Ξ)(y:V)(r:Option V):Prop:=(∃kvs k,Rd H a (.dK kvs)/\y=kV k/\r=NU kvs k)\/∃kvs k b,Rd H a (.dT kvs)/\y=.ref b/\H b=some (.tup (k.map kV))/\r=NU kvs k
def P4(H:Hp)(a : Ξ)(y v:V)(H':Hp):Prop:=
 (∃kvs k,H a=some (.dK kvs)/\y=kV k/\kvs.length<pY/\H'=upd H a (.dK (putK kvs k v))) \/
 ∃kvs k b,H a=some (.dT kvs)/\y=.ref b/\H b=some (.tup (k.map kV))/\kvs.length<pY/\H'=upd H a (.dT (putK kvs k v))
theorem Ld.t{H:Hp}{a b : Ξ}{kvs:List (List Key×V)}{k:List Key}(e:H a=some (.dT kvs))(eb:H b=some (.tup (k.map kV))):Ld H a (.ref b) (NU kvs k):=.inr ⟨kvs,k,b,.inl e,rfl,eb,rfl⟩
theorem P4.k{H:Hp}{a : Ξ}{kvs:List (Key×V)}{k:Key}{v:V}(e:H a=some (.dK kvs))(hl:kvs.length<pY):P4 H a (kV k) v (upd H a (.dK (putK kvs k v))):=.inl ⟨kvs,k,e,rfl,hl,rfl⟩
theorem P4.t{H:Hp}{a b : Ξ}{kvs:List (List Key×V)}{k:List Key}{v:V}(e:H a=some (.dT kvs))(eb:H b=some (.tup (k.map kV)))(hl:kvs.length<pY):
  P4 H a (.ref b) v (upd H a (.dT (putK kvs k v))):=.inr ⟨kvs,k,b,e,rfl,eb,hl,rfl⟩
section
variable {X:Cx}{AB:List (Ξ × sR)}{σ:St}{H:Hp}{s : Ω}{a : Ξ}{y v:V}{u r : Δ}{o:Option V}{A:qN}{E : Δ -> Ω -> Prop}
theorem Inv.big(I:Inv X AB σ H s):sysModules<s.heap.objs.size:=by have h:h_<s.heap.objs.size:=(I.mod.glob.keeps I.bk).lt;exact wV (by decide) h
theorem AQB{Q : Δ -> Ω -> Prop}(hu:A.units+1<cLine)(I:Inv X AB σ H s)(g:Ld H a y (some v))(ry:RelV y u)(h:∀w' s',Inv X AB σ H s'->RelV v w'->Q w' s'):
  p_ (model X.prog X.w) A (getItem (.ref a) u) Q E s:=by
 rcases g with⟨kvs,k,e,ey,l⟩|⟨kvs,k,b,e,ey,eb,l⟩
 .subst ey;obtain⟨z,hd,vs,rel,dd⟩:=Qj I.CC e;obtain⟨w',hw,ZU⟩:=Pk.some_of (v:=v) (o:=valueAt vs k) (by rw[l];exact rel.val k);exact wpAny_getItem_of (S7 ry) dd.mapOf hw (h w' _ (I.tok _) ZU)
 .subst ey;cases (show u=qR b from ry);obtain⟨z,hd,xs,rel,dd⟩:=XG I.CC e;obtain⟨w',hw,ZU⟩:=Pk.some_of (v:=v) (o:=(atKey xs k).map (·.2)) (by rw[l];exact rel.val k);obtain⟨p,hp,W0⟩:=rE.mp hw;refine wpAny_getItem_heap (vD hu) (WH I.CC eb) dd hp ?_;rw[W0];exact h w' _ (I.tok _) ZU
theorem AYP{Q : Δ -> Ω -> Prop}(hu:A.units+1<cLine)(I:Inv X AB σ H s)(g:Ld H a y o)(ry:RelV y u)(h:∀s',Inv X AB σ H s'->Q (.bool o.isSome) s'):
  p_ (model X.prog X.w) A (compareOp .In u (.ref a)) Q E s:=by
 rcases g with⟨kvs,k,e,ey,l⟩|⟨kvs,k,b,e,ey,eb,l⟩
 .subst ey;obtain⟨z,hd,vs,rel,dd⟩:=Qj I.CC e;refine wpAny_in_of (S7 ry) hd dd.mapOf ?_;rw[<-(rel.val k).RL,<-l];exact h _ (I.tok _)
 .subst ey;cases (show u=qR b from ry);obtain⟨z,hd,xs,rel,dd⟩:=XG I.CC e;refine wpAny_in_heap (vD hu) (WH I.CC eb) hd dd ?_;have q:=(rel.val k).RL;rw[Option.isSome_map] at q;rw[<-q,<-l];exact h _ (I.tok _)
theorem TY{h':qM}{t':Nat}{ob:HO}(I:Inv X AB σ H s)(mu:gb (H a))(hs:vX a s.heap h')(he:∃q,h'.get? a=some q)(new:Fe X.prog X.w (upd H a ob) h' a ob):
  Inv X AB σ (upd H a ob) {s with heap:=h',toks:=t'}:=
 I.write (x:=a) (e:=a) mu (.inl rfl) (λb q hb z=>(hs.2 b hb).trans z) he new
theorem WS{P:pQ}{w:qt}{H':Hp}{h':qM}{kvs:List (Key×V)}{vs:List (Key × Δ)}(z:kvs.length<=pY)(hd:(a==sysModules)=false)(rel:KV kvs vs)(dd:h'.DictOf (BN P w) a vs):
  Fe P w H' h' a (.dK kvs):=⟨z,hd,vs,rel,dd⟩
theorem AQA{H':Hp}{Q:Unit -> Ω -> Prop}(hu:A.units+1<cLine)(I:Inv X AB σ H s)(g:P4 H a y v H')(ry:RelV y u)(rv:RelV v r)(h:∀s',Inv X AB σ H' s'->Q () s'):
  p_ (model X.prog X.w) A (setItem (.ref a) u r) Q E s:=by
 rcases g with⟨kvs,k,e,ey,l,eH⟩|⟨kvs,k,b,e,ey,eb,l,eH⟩
 .subst ey eH;obtain⟨z,hd,vs,rel,dd⟩:=aI I.CC e;have hz:vs.length<=pY:=by rw[<-rel.length];exact z
  have hl:(putK kvs k v).length<=pY:=by have:=Qa kvs k v;omega
  refine wpAny_setItem_pairs (hsz:=hz) (S7 ry) dd λh' Zt hs=>h _ ?_;have he:∃q,h'.get? a=some q:=let ⟨q,_,_,hq,_⟩:=Zt;⟨q,hq⟩
  exact TY I (by rw[e];exact uK) hs he (WS hl hd (rel.put k rv) Zt)
 .subst ey eH;cases (show u=qR b from ry);obtain⟨z,hd,xs,rel,dd⟩:=AW1 I.CC e;have hz:xs.length<=pY:=by rw[<-rq rel];exact z
  have hl:(putK kvs k v).length<=pY:=by have:=Qa kvs k v;omega
  refine wpAny_setItem_heap (hsz:=hz) (vD hu) (WH I.CC eb) dd λh' Zt hs=>h _ ?_;obtain⟨q,es,ep,hq,h2,h3,h4,_,h5⟩:=Zt;refine TY I (by rw[e];exact uK) hs ⟨q,hq⟩ ⟨hl,hd,_,(rel.put k eb rv).keeps λc ys ec=>?_,q,es,ep,hq,h2,h3,h4,h5⟩;rw[AH (D5 ec e (λz=>nomatch z))];exact ec
end
section
variable {X:Cx}{AB:List (Ξ × sR)}{σ:St}{H:Hp}{s : Ω}{a : Ξ}{kvs:List (Key×V)}{k:Key}{u : Δ}{A:qN}{E : Δ -> Ω -> Prop}
theorem AVt{Q:Unit -> Ω -> Prop}(I:Inv X AB σ H s)(e:H a=some (.dK kvs))(ry:RelV (kV k) u)(l:(NU kvs k).isSome=true)(h:∀s',Inv X AB σ (upd H a (.dK (L4 kvs k))) s'->Q () s'):
  p_ (model X.prog X.w) A (delItem (.ref a) u) Q E s:=by
 obtain⟨z,hd,vs,rel,dd⟩:=aI I.CC e;refine wpAny_delItem_slot dd.typeIs (by decide) PySem.F.slot_dict_delitem
  (xO PySem.F.slot_dict_delitem dd.typeIs PySem.F.entry_dict_delitem (PySem.F.args_dict_delitem_2 _ _) (meets_dict_delitem_pairs (BN X.prog X.w) a (S7 ry)) ⟨vs,dd,by rw[<-rel.length];exact z,by rw[<-(rel.val k).RL];exact l,λh' Zt hs=>h _ ?_⟩)
 have he:∃q,h'.get? a=some q:=let ⟨q,_,_,hq,_⟩:=Zt;⟨q,hq⟩
 exact TY I (by rw[e];exact uK) hs he (WS (a_ (AMS kvs k) z) hd (rel.drop k) Zt)
theorem AW3{v:V}{more:List Δ}{Q : Δ -> Ω -> Prop}(I:Inv X AB σ H s)(e:H a=some (.dK kvs))(ry:RelV (kV k) u)(l:NU kvs k=some v)(hm:more=[]\/∃x,more=[x])
  (h:∀w' s',Inv X AB σ (upd H a (.dK (L4 kvs k))) s'->RelV v w'->Q w' s'):p_ (model X.prog X.w) A (call (.builtin "dict.pop") (.ref a::u::more)) Q E s:=by
 obtain⟨z,hd,vs,rel,dd⟩:=aI I.CC e;obtain⟨w',hw,ZU⟩:=Pk.some_of (v:=v) (o:=valueAt vs k) (by rw[<-l];exact rel.val k);have hp:(keyPart u).isSome=true:=by
  cases k with
  |inl i=>obtain⟨t,q⟩:=(show∃t,u=rF i t from ry);subst q;rfl
  |inr x=>obtain⟨t,q⟩:=(show∃t,u=yp x t from ry);subst q;rfl
 have ha:argsOk "dict.pop" ⟨.ref a::u::more,[]⟩:=by
  rcases hm with q|⟨x,q⟩
  .subst q;exact PySem.F.args_dict_pop_2 _ _
  .subst q;exact PySem.F.args_dict_pop_3 _ _ _
 refine xO PySem.F.slot_dict_pop dd.typeIs PySem.F.entry_dict_pop ha (meets_dict_pop_there (BN X.prog X.w) a (S7 ry) more hm hp)
  ⟨vs,w',dd,by rw[<-rel.length];exact z,hw,λh' Zt hs=>h w' _ ?_ ZU⟩
 have he:∃q,h'.get? a=some q:=let ⟨q,_,_,hq,_⟩:=Zt;⟨q,hq⟩
 exact TY I (by rw[e];exact uK) hs he (WS (a_ (AMS kvs k) z) hd (rel.drop k) Zt)
theorem AW4{Q : Δ -> Ω -> Prop}(I:Inv X AB σ H s)(e:Rd H a (.dK kvs))(h:∀t s',Inv X AB σ H s'->Q (.int kvs.length t) s'):p_ (model X.prog X.w) A (call (.builtin "len") [.ref a]) Q E s:=by obtain⟨z,hd,vs,rel,dd⟩:=Qj I.CC e;refine call_len_dict hd dd (by rw[<-rel.length];rw[yc] at z;omega) ?_;rw[<-rel.length];exact h _ _ (I.tok _)
end
def jB(i:qU):Prop:=∀ov iv,subscripted i false ov iv=operate [ov,iv] (getItem ov iv)
theorem AN0{prog:pQ}{w:qt}{A:qN}{E : Δ -> Ω -> Prop}{s : Ω}{env:yx}{value slice:qU}{pos:Pos}{T id:String}{Q : Δ -> Ω -> Prop}
  (hl:typeLookup (.type T) "__getitem__" = pure (some (.builtin id))) (hs:jB slice)
  (h:p_ (model prog w) A (eval value env) (λo s₁=>p_ (model prog w) A (eval slice env) (λi s₂=>s₂.TypeIs o T/\p_ (model prog w) A (getItem o i) Q E s₂) E s₁) E s):
  p_ (model prog w) A (eval (.Subscript value slice pos) env) Q E s:=by
 refine zh (rQ h (λo s₁ h₁=>rQ h₁ (λi s₂ h₂=>?_) λ_ _ x=>x) λ_ _ x=>x);obtain⟨hT,h₂⟩:=h₂;unfold subscriptTail;refine c_ ?_;rw[getitemInPython_of_ne hT.not_modules];refine c_ (wpAny_specialOf hT hl ?_);have fin:p_ (model prog w) A (subscripted slice false o i) (λr s₃=>p_ (model prog w) A (letTemporaryGo value o r >>= λ_=>pure r) Q E s₃) E s₂:=by rw[hs o i];exact wpAny_operating (rQ h₂ (λr s₃ h₃=>c_ (wpAny_letTemporaryGo (pX h₃))) λ_ _ x=>x)
 first
  |exact pX (c_ fin)
  |exact c_ (pX (c_ fin))
  |exact c_ fin
theorem AMU{X:Cx}{AB:List (Ξ × sR)}{σ:St}{H:Hp}{s : Ω}{a : Ξ}{y:V}{o:Option V}(I:Inv X AB σ H s)(g:Ld H a y o):s.TypeIs (.ref a) "dict":=by
 rcases g with⟨kvs,k,e,_,_⟩|⟨kvs,k,b,e,_,_,_⟩
 .obtain⟨_,_,vs,_,dd⟩:=Qj I.CC e;exact dd.typeIs
 .obtain⟨_,_,xs,_,dd⟩:=XG I.CC e;exact dd.typeIs
def AUF(td ty:TE):TE:=λσ H Q=>td σ H λx H1=>ty σ H1 λy H2=>∃a v,x=.ref a/\Ld H2 a y (some v)/\Q v H2
def gu(ty td:TE):TE:=λσ H Q=>ty σ H λy H1=>td σ H1 λx H2=>∃a o,x=.ref a/\Ld H2 a y o/\Q (.bl o.isSome) H2
def AUI(td ty tv:TE):TS:=λD σ H=>tv σ H λv H1=>td σ H1 λx H2=>ty σ H2 λy H3=>∃a H4,x=.ref a/\P4 H3 a y v H4/\D.nx σ H4
section
variable {X:Cx}{o i e value:qU}{pos pos' AXJ:Pos}{td ty tv:TE}
theorem Dc(hu:X.A.units+1<cLine)(ho:PE X o td)(hi:PE X i ty)(hs:jB i):PE X (.Subscript o i pos) (AUF td ty):=by intro AB s σ H Q I h;refine AN0 PySem.F.slot_dict_getitem.lookup hs (EC (ho AB s σ H _ I h) λu s1 ⟨x,H1,I1,rx,q1⟩=>EC (hi AB s1 σ H1 _ I1 q1) λiv s2 ⟨y,H2,I2,ry,a,v,ex,g,q2⟩=>?_);subst ex;obtain rfl:u=qR a:=rx;exact⟨AMU I2 g,AQB hu I2 g ry λw' s3 I3 ZU=>⟨v,H2,I3,ZU,q2⟩⟩
theorem MG(hu:X.A.units+1<cLine)(hi:PE X i ty)(ho:PE X o td):PC X .In i o (gu ty td):=by intro AB s σ H Q I h;refine EC (hi AB s σ H _ I h) λiv s1 ⟨y,H1,I1,ry,q1⟩=>EC (ho AB s1 σ H1 _ I1 q1) λu s2 ⟨x,H2,I2,rx,a,ov,ex,g,q2⟩=>?_;subst ex;obtain rfl:u=qR a:=rx;exact AYP hu I2 g ry λs3 I3=>⟨.bl ov.isSome,H2,I3,rfl,q2⟩
theorem KL(hu:X.A.units+1<cLine)(ho:PE X o td)(hi:PE X i ty)(hv:PE X value tv)(hs:swapsWith value (some (.Subscript o i pos')) pos.line X.env=pure false):
  PS X (.Assign [.Subscript o i pos'] value pos) (AUI td ty tv):=by
 intro AB s σ H D I h;refine wpAny_Assign_Subscript (EC (hv AB s σ H _ I h) λr s1 ⟨v,H1,I1,rv,q1⟩=>EC (ho AB s1 σ H1 _ I1 q1) λu s2 ⟨x,H2,I2,rx,q2⟩=>EC (hi AB s2 σ H2 _ I2 q2) λiv s3 ⟨y,H3,I3,ry,a,H4,ex,g,q3⟩=>?_) hs;subst ex;obtain rfl:u=qR a:=rx;exact AQA hu I3 g ry rv λs4 I4=>⟨σ,H4,I4,q3⟩
end
theorem AMT{P:pQ}{w:qt}{H:Hp}(h:qM)(hb:sysModules<h.objs.size):Fe P w H (h.push {cls:=.type "dict",data:=.dict #[]}) h.objs.size (.dK []):=⟨qG _,beq_eq_false_iff_ne.mpr (qk (qK hb)),[],.nil,Heap.DictOf.new h⟩
theorem ASD{P:pQ}{w:qt}{H:Hp}(h:qM)(hb:sysModules<h.objs.size):Fe P w H (h.push {cls:=.type "dict",data:=.dict #[]}) h.objs.size (.dT []):=⟨qG _,beq_eq_false_iff_ne.mpr (qk (qK hb)),[],.nil,_,#[],0,pV _ rfl,⟨rfl,rfl,rfl⟩,rfl,rfl,uJ⟩
def AQa:TE:=λ_ H Q=>∀p,H p=none->Q (.ref p) (upd H p (.dK []))
def AQZ:TE:=λ_ H Q=>∀p,H p=none->Q (.ref p) (upd H p (.dT []))
section
variable {X:Cx}{pos:Pos}
theorem JL:PE X (.Dict [] [] pos) AQa:=λAB s σ H Q I h=>wpAny_Dict_empty ⟨.ref s.heap.objs.size,_,I.laid (a:=s.heap.objs.size) (o:=.dK []) (t':=s.toks) (λ_ _ q=>pq _ q) (b_ _) (AMT s.heap I.big),rfl,h _ (I.CC.fresh (b_ _))⟩
theorem ARA:PE X (.Dict [] [] pos) AQZ:=λAB s σ H Q I h=>wpAny_Dict_empty ⟨.ref s.heap.objs.size,_,I.laid (a:=s.heap.objs.size) (o:=.dT []) (t':=s.toks) (λ_ _ q=>pq _ q) (b_ _) (ASD s.heap I.big),rfl,h _ (I.CC.fresh (b_ _))⟩
end
def XW:List (TE×TE)->St->Hp->(List (V×V)->Hp->Prop)->Prop
 |[],_,H,Q=>Q [] H
 |(tk,tv)::r,σ,H,Q=>tk σ H λx H1=>tv σ H1 λy H2=>XW r σ H2 λps H3=>Q ((x,y)::ps) H3
abbrev VV:List (V×V)->List (Δ × Δ)->Prop:=sG λp q=>RelV p.1 q.1/\RelV p.2 q.2
def mS(X:Cx)(pos:Pos)(keys:List (Option qU))(values:List qU)(eu:List (TE×TE)):Prop:=
 ∀(AB:List (Ξ × sR)) (s : Ω) (σ:St) (H:Hp) (Q:List (V×V)->Hp->Prop),Inv X AB σ H s->XW eu σ H Q ->
  p_ (model X.prog X.w) X.A (evalPairs (pairTrees keys values X.env pos)) (λvs s'=>∃ps H',Inv X AB σ H' s'/\VV ps vs/\Q ps H') X.xe s
theorem Xm{X:Cx}{pos:Pos}:mS X pos [] [] []:=λAB s σ H Q I h=>pairTrees_nil_walk ⟨[],H,I,.nil,h⟩
theorem Vs{X:Cx}{pos:Pos}{k v:qU}{ks:List (Option qU)}{vs:List qU}{tk tv:TE}{eu:List (TE×TE)}(hk:PE X k tk)(hv:PE X v tv)(hr:mS X pos ks vs eu):
  mS X pos (some k::ks) (v::vs) ((tk,tv)::eu):=λAB s σ H Q I h=>
 pairTrees_cons_walk (EC (hk AB s σ H _ I h) λu s1 ⟨x,H1,I1,rx,q1⟩=>EC (hv AB s1 σ H1 _ I1 q1) λw2 s2 ⟨y,H2,I2,ry,q2⟩=>EC (hr AB s2 σ H2 _ I2 q2) λws s3 ⟨ps,H3,I3,rel,q3⟩=>⟨(x,y)::ps,H3,I3,.cons ⟨rx,ry⟩ rel,q3⟩)
def N8(kvs more:List (Key×V)):List (Key×V):=more.foldl (λacc kv=>putK acc kv.1 kv.2) kvs
theorem KV.merge:∀{more:List (Key×V)}{rs:List (Key × Δ)}{kvs:List (Key×V)}{vs:List (Key × Δ)},KV more rs->KV kvs vs->KV (N8 kvs more) (merged vs rs):=by
 intro more rs kvs vs r;unfold KV at r
 induction r generalizing kvs vs with
 |nil=>intro q;exact q
 | @cons p q ps qs h t ih=>
  intro r0;have e:KV (putK kvs p.1 p.2) (stored vs q.1 q.2):=by have:=r0.put p.1 h.2;rw[<-h.1];exact this
  exact ih e
theorem AD5:∀(more kvs:List (Key×V)),(N8 kvs more).length<=kvs.length+more.length
 |[],kvs=>by show kvs.length<=kvs.length+0;omega
 |p::r,kvs=>by have h1:=AD5 r (putK kvs p.1 p.2);have h2:=Qa kvs p.1 p.2;show(N8 (putK kvs p.1 p.2) r).length<=_;rw[o_];omega
theorem AH6{P:pQ}{w:qt}:∀{kvs:List (Key×V)}{ws:List (Δ × Δ)},VV (kvs.map λkv=>(kV kv.1,kv.2)) ws->∃rs,Carries (BN P w) ws rs/\KV kvs rs
 |[],_,r=>by rw[vj] at r;cases r;exact⟨[],uK,.nil⟩
 |p::kvs,_,r=>by
  rw[k_] at r;cases r with
  | @cons a b as bs h t=>obtain⟨rs,c,q⟩:=AH6 (P:=P) (w:=w) t;obtain⟨b1,b2⟩:=b;exact⟨(p.1,b2)::rs,⟨S7 h.1,rfl,c⟩,.cons ⟨rfl,h.2⟩ q⟩
def AUE(eu:List (TE×TE)):TE:=λσ H Q=>∀p,H p=none->XW eu σ (upd H p (.dK [])) λps H2=>H2 p=some (.dK [])/\∃kvs:List (Key×V),ps=kvs.map (λkv=>(kV kv.1,kv.2))/\kvs.length<=15/\Q (.ref p) (upd H2 p (.dK (N8 [] kvs)))
theorem Xr{X:Cx}{pos:Pos}{keys:List (Option qU)}{values:List qU}{eu:List (TE×TE)}(h:mS X pos keys values eu)(dD:keys.all (·.isSome)=true)(hl:keys.length=values.length)(h0:keys≠[])
  (mH:keys.length<=15):PE X (.Dict keys values pos) (AUE eu):=by
 intro AB s σ H Q I q;have hn:=I.CC.fresh (b_ s.heap.objs.size);have I1:=I.laid (a:=s.heap.objs.size) (o:=.dK []) (h':=s.heap.push {cls:=.type "dict",data:=.dict #[]}) (t':=s.toks) (λ_ _ q=>pq _ q) (b_ _) (AMT s.heap I.big);refine wpAny_Dict_walk (knd:=BN X.prog X.w) dD hl h0 mH (EC (h AB _ σ _ _ I1 (q _ hn)) λws s2 ⟨ps,H2,I2,rel,e,kvs,ep,lk,q2⟩=>?_);subst ep;obtain⟨rs,c,rk⟩:=AH6 (P:=X.prog) (w:=X.w) rel;obtain⟨z,hd,vs0,r0,dd⟩:=aI I2.CC e;cases r0;refine⟨rs,c,dd,λh' Zt hs=>⟨.ref s.heap.objs.size,_,?_,rfl,q2⟩⟩;have hz:(N8 [] kvs).length<=pY:=by have h1:=AD5 kvs [];rw[uT] at h1;rw[yc];omega
 have he:∃q,h'.get? s.heap.objs.size=some q:=let ⟨q,_,_,hq,_⟩:=Zt;⟨q,hq⟩
 exact TY I2 (by rw[e];exact uK) hs he (WS hz hd (rk.merge .nil) Zt)
structure M1(X:Cx)(o:qU)(m:qf)(apos:Pos)(e:qU)(LX:Pos):Prop where
 AG:uV o m X.env (eval o X.env)=eval o X.env
 GV:((backTo LX (qy [e] X.env)).all (λx=>!x.1)&&(backToKw LX (keywordEach [] X.env)).all (λx=>x.1.isSome)
  && decide (([e]:List qU).length+([]:List xV).length+(if ([]:List xV).isEmpty then 0 else 1)<30))=true
 line:(apos.endLine==LX.line)=true
 trees:backTo LX (qy [e] X.env)=[(false,eval e X.env)]
structure M2(X:Cx)(o:qU)(m:qf)(apos:Pos)(e f:qU)(LX:Pos):Prop where
 AG:uV o m X.env (eval o X.env)=eval o X.env
 GV:((backTo LX (qy [e,f] X.env)).all (λx=>!x.1)&&(backToKw LX (keywordEach [] X.env)).all (λx=>x.1.isSome)
  && decide (([e,f]:List qU).length+([]:List xV).length+(if ([]:List xV).isEmpty then 0 else 1)<30))=true
 line:(apos.endLine==LX.line)=true
 trees:backTo LX (qy [e,f] X.env)=[(false,eval e X.env),(false,eval f X.env)]
def pK(H:Hp)(a : Ξ):Prop:=(∃kvs,Rd H a (.dK kvs))\/∃kvs,Rd H a (.dT kvs)
theorem ARr{X:Cx}{AB:List (Ξ × sR)}{σ:St}{H:Hp}{s : Ω}{a : Ξ}(I:Inv X AB σ H s)(d:pK H a):
  s.TypeIs (.ref a) "dict" /\ (∀b,qR a=.ref b->∃ob,s.heap.get? b=some ob/\ob.dict=none)/\(a==sysModules)=false:=by
 rcases d with⟨kvs,e⟩|⟨kvs,e⟩
 .obtain⟨_,hd,vs,_,dd⟩:=Qj I.CC e;refine⟨dd.typeIs,λb q=>?_,hd⟩;cases q;obtain⟨ob,_,_,h1,h2,_⟩:=dd;exact⟨ob,h1,h2.2.1⟩
 .obtain⟨_,hd,xs,_,dd⟩:=XG I.CC e;refine⟨dd.typeIs,λb q=>?_,hd⟩;cases q;obtain⟨ob,_,_,h1,h2,_⟩:=dd;exact⟨ob,h1,h2.2.1⟩
section
variable {X:Cx}{AB:List (Ξ × sR)}{σ:St}{H:Hp}{s : Ω}{a : Ξ}{y d:V}{u r : Δ}{o:Option V}{A:qN}{E : Δ -> Ω -> Prop}
theorem AVh{Q : Δ -> Ω -> Prop}(hu:A.units+1<cLine)(I:Inv X AB σ H s)(g:Ld H a y o)(ry:RelV y u)(rd:RelV d r)(h:∀w' s',Inv X AB σ H s'->RelV (o.getD d) w'->Q w' s'):
  p_ (model X.prog X.w) A (call (.builtin "dict.get") [.ref a,u,r]) Q E s:=by
 rcases g with⟨kvs,k,e,ey,l⟩|⟨kvs,k,b,e,ey,eb,l⟩
 .subst ey;obtain⟨z,hd,vs,rel,dd⟩:=Qj I.CC e;refine xO v8 dd.typeIs PySem.F.entry_dict_get (PySem.F.args_dict_get_3 _ _ _) (meets_dict_get_default (BN X.prog X.w) a (S7 ry) hd r) ⟨_,dd.mapOf,h _ _ (I.tok _) ?_⟩;rw[l];exact(rel.val k).getD rd
 .subst ey;cases (show u=qR b from ry);obtain⟨z,hd,xs,rel,dd⟩:=XG I.CC e;refine xO v8 dd.typeIs PySem.F.entry_dict_get (PySem.F.args_dict_get_3 _ _ _) (meetsH_dict_get_default (tupleKind (BN X.prog X.w)) a b hd r) ⟨vD hu,k,xs,WH I.CC eb,dd,h _ _ (I.tok _) ?_⟩;rw[l];exact(rel.val k).getD rd
end
def AQb(td ty tx:TE):TE:=λσ H Q=>td σ H λx H1=>∃a,x=.ref a/\pK H1 a/\ty σ H1 λy H2=>tx σ H2 λz H3=>∃o,Ld H3 a y o/\Q (o.getD z) H3
def AQY(td ty:TE):TE:=λσ H Q=>td σ H λx H1=>∃a,x=.ref a/\pK H1 a/\ty σ H1 λy H2=>∃kvs k v,H2 a=some (.dK kvs)/\y=kV k/\NU kvs k=some v/\Q v (upd H2 a (.dK (L4 kvs k)))
section
variable {X:Cx}{o e f:qU}{apos LX:Pos}{td ty tx:TE}
theorem Vy(hu:X.A.units+1<cLine)(ho:PE X o td)(he:PE X e ty)(hf:PE X f tx)(m:M2 X o "get" apos e f LX):PE X (.Call (.Attribute o "get" apos) [e,f] [] LX) (AQb td ty tx):=by
 intro AB s σ H Q I h;refine xj m.AG m.GV m.line PySem.F.plainAttrs_dict v8 PySem.F.type_dict_get (EC (ho AB s σ H _ I h) λu s1 ⟨x,H1,I1,rx,a,ex,d,q1⟩=>?_);subst ex;obtain rfl:u=qR a:=rx;obtain⟨t1,t2,_⟩:=ARr I1 d;refine⟨t1,t2,?_⟩;rw[m.trees];refine vZ rfl (wD (vJ (EC (he AB s1 σ H1 _ I1 q1) λiv s2 ⟨y,H2,I2,ry,q2⟩=>vJ (EC (hf AB s2 σ H2 _ I2 q2) λfv s3 ⟨z,H3,I3,rz,ov,g,q3⟩=>xA ?_))))
 exact AVh hu I3 g ry rz λw' s4 I4 ZU=>⟨_,H3,I4,ZU,q3⟩
theorem AQ9(ho:PE X o td)(he:PE X e ty)(m:M1 X o "pop" apos e LX):PE X (.Call (.Attribute o "pop" apos) [e] [] LX) (AQY td ty):=by intro AB s σ H Q I h;refine xj m.AG m.GV m.line PySem.F.plainAttrs_dict PySem.F.slot_dict_pop PySem.F.type_dict_pop (EC (ho AB s σ H _ I h) λu s1 ⟨x,H1,I1,rx,a,ex,d,q1⟩=>?_);subst ex;obtain rfl:u=qR a:=rx;obtain⟨t1,t2,_⟩:=ARr I1 d;refine⟨t1,t2,?_⟩;rw[m.trees];refine vZ rfl (wD (vJ (EC (he AB s1 σ H1 _ I1 q1) λiv s2 ⟨y,H2,I2,ry,kvs,k,v,ea,ey,l,q2⟩=>xA ?_)));subst ey;exact AW3 I2 ea ry l (.inl rfl) λw' s3 I3 ZU=>⟨v,_,I3,ZU,q2⟩
end
section
variable {X:Cx}{AB:List (Ξ × sR)}{σ:St}{H:Hp}{s : Ω}{a : Ξ}{kvs:List (Key×V)}{A:qN}{E : Δ -> Ω -> Prop}
theorem ASH{Q : Δ -> Ω -> Prop}(I:Inv X AB σ H s)(e:Rd H a (.dK kvs))(h:∀p s',H p=none->Inv X AB σ (upd H p (.dK kvs)) s'->Q (.ref p) s'):p_ (model X.prog X.w) A (call (.type "dict") [.ref a]) Q E s:=by obtain⟨z,hd,vs,rel,dd⟩:=Qj I.CC e;refine kt_call_dict hd dd (by rw[<-rel.length];exact z) λh' Zt hs=>?_;refine h _ _ (I.CC.fresh (b_ _)) (I.laid (a:=s.heap.objs.size) (o:=.dK kvs) (t':=s.toks) (λb q hq=>?_) (b_ _) (WS z (beq_eq_false_iff_ne.mpr (qk (qK I.big))) rel Zt));exact(hs.2 b (qK (qu hq))).trans (pq _ hq)
end
section
variable {X:Cx}{AB:List (Ξ × sR)}{σ:St}{H:Hp}{s : Ω}{a : Ξ}{y:V}{u : Δ}{A:qN}{E : Δ -> Ω -> Prop}
end
section
variable {prog:pQ}{w:qt}{A:qN}{E : Δ -> Ω -> Prop}
end
section
variable {X:Cx}
end
theorem AID:bootBuiltins "reversed" = some (.type "reversed"):=by decide +kernel
section
variable {X:Cx}{AB:List (Ξ × sR)}{σ:St}{H:Hp}{s : Ω}{h':qM}
theorem Inv.lock{d : Ξ}{u:HO}(I:Inv X AB σ H s)(h:H d=some u)(mu:gb (some u)):∃od,Inv X AB σ (upd H d (.DK od u)) s:=by
 have x:=I.CC d u h;have ex:∃od,s.heap.get? d=some od:=by
  cases u with
  |lst xs=>obtain⟨_,_,_,_,e⟩:=x;exact⟨_,e⟩
  |dK kvs=>obtain⟨_,_,_,_,o,_,_,e,_⟩:=x;exact⟨o,e⟩
  |dT kvs=>obtain⟨_,_,_,_,o,_,_,e,_⟩:=x;exact⟨o,e⟩
  |set S n=>obtain⟨o,_,_,_,e,_⟩:=x;exact⟨o,e⟩
  |ins C dx fs=>obtain⟨_,_,_,e,_⟩:=x;exact⟨_,e⟩
  |ext φ=>obtain⟨_,⟨_,e⟩,_⟩:=x;exact⟨_,e⟩
  |_=>exact rL mu
 obtain⟨od,e⟩:=ex;have new:Fe X.prog X.w (upd H d (.DK od u)) s.heap d (.DK od u):=by
  refine⟨e,x.Ws (λb v _ q=>q) (λb q=>?_) λb xs q=>?_⟩
  .rw[AH (λz=>by rw[z,h] at q;cases q;exact mu)];exact q
  .rw[AH (λz=>by rw[z,h] at q;cases q;exact mu)];exact q
 exact⟨od,I.write (x:=d) (e:=d) (t':=s.toks) (h':=s.heap) (by rw[h];exact mu) (.inl rfl) (λb v _ q=>q) ⟨od,e⟩ new⟩
theorem Inv.Z9{d : Ξ}{u:HO}(I:Inv X AB σ H s)(h:H d=some u)(mu:gb (some u)):∀o' u',X.gc d≠some (.DK o' u'):=λo' u' e=>by have q:=I.AG.WO d o' u' e;rw[h] at q;cases q;exact mu
theorem Inv.unlock{d : Ξ}{od:sR}{u:HO}(I:Inv X AB σ H s)(h:H d=some (.DK od u))(hn:∀o' u',X.gc d≠some (.DK o' u')):Inv X AB σ (upd H d u) s:=by
 have jO:∀b o,H b=some o->(∀o' u',o≠.DK o' u')->b≠d:=λb o e Yl z=>by rw[z,h] at e;cases e;exact Yl _ _ rfl
 have neN:∀b,H b=none->b≠d:=λb e z=>by rw[z,h] at e;cases e
 refine⟨I.ok,I.os,I.bare,⟨I.AG.keep,I.AG.slot,λb o e n hx=>?_,I.AG.there,λb xs e=>?_,λb o x e=>?_,λb ps e=>?_⟩,I.loc,I.cell,?_,λx c e=>?_,λp hp=>?_,λb o e=>?_,I.len⟩
 .rw[AH (neN b (I.AG.free b o e n hx))];exact I.AG.free b o e n hx
 .have q:=I.AG.XS b xs e;rw[AH (jO b _ q (λ_ _ z=>nomatch z))];exact q
 .have q:=I.AG.WO b o x e;rw[AH (λz=>by rw[z] at e;exact hn _ _ e)];exact q
 .obtain⟨m,q⟩:=I.AG.Wr b ps e;exact⟨m,by rw[AH (jO b _ q (λ_ _ z=>nomatch z))];exact q⟩
 .rw[AH (neN _ I.free)];exact I.free
 .rw[AH (neN c (I.Nb x c e))];exact I.Nb x c e
 .obtain⟨e,n,r⟩:=I.pin p hp;exact⟨e,by rw[AH (neN _ n)];exact n,r⟩
 .by_cases hb:b=d
  .rw[hb,AD] at e;cases e;rw[hb];obtain⟨_,x⟩:=I.CC d _ h;exact x.Ws (λc v _ q=>q) (λc q=>by rw[AH (jO c _ q (λ_ _ z=>nomatch z))];exact q) λc xs q=>by rw[AH (jO c _ q (λ_ _ z=>nomatch z))];exact q
  .rw[AH hb] at e;exact(I.CC b o e).Ws (λc v _ q=>q) (λc q=>by rw[AH (jO c _ q (λ_ _ z=>nomatch z))];exact q) λc xs q=>by rw[AH (jO c _ q (λ_ _ z=>nomatch z))];exact q
end
def AV2(t:TS):TS:=λD σ H=>∃d u,H d=some u/\gb (some u)/\∀od,t ⟨λσ' H'=>H' d=some (.DK od u)/\D.nx σ' (upd H' d u),λv H'=>H' d=some (.DK od u)/\D.rt v (upd H' d u),λσ' H'=>H' d=some (.DK od u)/\D.bk σ' (upd H' d u),λσ' H'=>H' d=some (.DK od u)/\D.ct σ' (upd H' d u)⟩ σ (upd H d (.DK od u))
section
variable {X:Cx}
theorem MZ{st:qX}{t:TS}(h:PS X st t):PS X st (AV2 t):=by
 intro AB s σ H D I hw;obtain⟨d,u,hd,mu,hw⟩:=hw;obtain⟨od,I1⟩:=I.lock hd mu;refine EC (h AB s σ _ _ I1 (hw od)) λf s1 q=>?_;cases f with
 |next=>obtain⟨σ',H',I2,e,q⟩:=q;exact⟨σ',_,I2.unlock e (I.Z9 hd mu),q⟩
 |brk=>obtain⟨σ',H',I2,e,q⟩:=q;exact⟨σ',_,I2.unlock e (I.Z9 hd mu),q⟩
 |cont=>obtain⟨σ',H',I2,e,q⟩:=q;exact⟨σ',_,I2.unlock e (I.Z9 hd mu),q⟩
 |ret v=>obtain⟨x,σ',H',I2,r,e,q⟩:=q;exact⟨x,σ',_,I2.unlock e (I.Z9 hd mu),r,q⟩
theorem Xo{tg:qU}{AB:List (Ξ × sR)}{σ:St}{H:Hp}{s : Ω}{R:It->Hp->Prop}{J:It}{tn:Nat->qM->Prop}{tk:Nat}(I:Inv X AB σ H s)(o:sR)
  (T:Turn X.prog X.w X.K tg J [s.heap.objs.size] s.heap.objs.size tn) (st:tn 0 (s.heap.push o)) (q:R J H):mT X AB σ tg R (.ref s.heap.objs.size) {s with heap:=s.heap.push o,toks:=tk}:=by
 refine⟨s.heap.objs.size,[s.heap.objs.size],tn,J,H,rfl,I.kept λb ob e=>pq _ e,T,st,λb hb=>?_,q⟩;have e:b=s.heap.objs.size:=by simpa using hb
 subst e;exact I.bJ (b_ _) (I.CC.fresh (b_ _))
end
def pJ(lo c:Int)(n:Nat):It:=⟨λi _=>i<n,λi H x H'=>H'=H/\x=.int (lo+(i:Nat)*c),λi _=>n<=i⟩
theorem AK2{P:pQ}{w:qt}{K : ξ}{tg:qU}(it : Ξ)(lo c:Int)(n:Nat):Turn P w K tg (pJ lo c n) [it] it (λi h=>yo h it (lo+(i:Nat)*c) ((n:Int)-(i:Nat)) c) where
 mem:=by simp
 obj:=λi h st b hb=>by
  have e:b=it:=by simpa using hb
  subst e;exact⟨_,st,λv z=>nomatch z⟩
 keep:=λi h h' st k=>k it (by simp) _ st
 item:=by intro X hP hw hK hc i AB s σ H E I hf st hg;subst hP hw hK;obtain⟨f0,f1,f2,f3,f4,f5⟩:=hf it (by simp);have W:=Walks.range (prog:=X.prog) (w:=X.w) (I.ok.hd hc) it lo c n;refine W.item i s _ _ hg st λv h' tk hv Si kk=>?_;obtain⟨t,rfl⟩:=hv;have I1:Inv X AB σ H {s with heap:=h',toks:=tk}:=I.turned (λb o hb e=>kk b o (by simpa using hb) e) f0 f1 f3 f4 f5;exact⟨_,rfl,WM (s:={s with heap:=h',toks:=tk}) (n:="range_iterator") Si rfl rfl (by decide) ⟨.int (lo+(i:Nat)*c),H,I1,⟨t,rfl⟩,⟨rfl,rfl⟩,Si,λb hb=>(hf b hb).1⟩⟩
 done:=by intro X hP hw hK hc i AB s σ H E I hf st hg;subst hP hw hK;obtain⟨f0,f1,f2,f3,f4,f5⟩:=hf it (by simp);exact wpAny_pyNext_range_end (I.ok.hd hc) st (by have:n<=i:=hg;omega) λh' eb=>⟨rfl,I.turned (t':=s.toks) (λb o hb e=>eb b o hb e) f0 f1 f3 f4 f5⟩
 self:=λA i s Q E st h=>wpAny_pyIter_rangeiter st h
def RgC(i j c:Int)(n:Nat):Prop:=c≠0/\c.natAbs<1073741824/\Builtin.Range.small i j c=true/\tZ i j c=n
def AUQ(ta:TA):TI:=λσ H R=>ta σ H λvs H1=>∃(i j c:Int) (n:Nat),vs=[.int i,.int j,.int c]/\RgC i j c n/\R (pJ i c n) H1
section
variable {X:Cx}{tg:qU}
theorem APS{a b c:qU}{ta:TA}{p pos:Pos}(hg:Gl X "range")(hm:X.mg "range" = none)(ha:PA X [a,b,c] ta)
  (hs:qy [a,b,c] X.env=(false,eval a X.env)::qy [b,c] X.env:=by rfl) (RM:(backTo pos (qy [b,c] X.env)).any (·.1)=false:=by rfl):
  PI X tg (.Call (.Name "range" p) [a,b,c] [] pos) (AUQ ta):=by
 intro AB s σ H R I h;refine zS (Qe I hg hm zg (sV (EC (ha pos AB s σ H _ I h) λus s1 ⟨vs,H1,I1,r1,q1⟩=>?_) hs RM));obtain⟨i,j,k,n,e,⟨c0,c1,c2,c3⟩,q⟩:=q1;subst e;cases r1 with
 |cons r rr=>
  cases rr with
  |cons r' rr=>
   cases rr with
   |cons r'' rr=>
    cases rr;obtain⟨t,rfl⟩:=r;obtain⟨t',rfl⟩:=r';obtain⟨t'',rfl⟩:=r'';refine call_range_3 c0 ?_ (.inl (PyProof.noPylong_small c1));refine wpAny_pyIter_range (IsRange.new ..) c2 ?_;have I2:Inv X AB σ H1 {s1 with heap:=s1.heap.push {cls:=.type "range",data:=.fields #[.int i t,.int j t',.int k t'']} }:=I1.kept (t':=s1.toks) λb o e=>pq _ e;refine Xo (tk:=s1.toks) I2 _ (AK2 _ i k n) ?_ q;have e1:i+((0:Nat):Int)*k=i:=by simp
    have e2:(n:Int)-((0:Nat):Int)=tZ i j k:=by rw[c3];simp
    show yo _ _ (i+((0:Nat):Int)*k) ((n:Int)-((0:Nat):Int)) k;rw[e1,e2];exact pV _ rfl
end
def pH(K : ξ)(a : Ξ)(n:Nat):It:=⟨λi H=>i<n/\∃(xs:List V) (x:V),Er K H a xs/\xs[n-1-i]?=some x,λi H x H'=>H'=H/\∀xs,Er K H a xs->xs[n-1-i]?=some x,λi _=>n<=i⟩
theorem AQQ{P:pQ}{w:qt}{K : ξ}{tg:qU}(a it : Ξ)(n:Nat):Turn P w K tg (pH K a n) [it] it (λi h=>i<=n/\h.IsRevIter it a ((n:Int)-1-(i:Nat))) where
 mem:=by simp
 obj:=λi h st b hb=>by
  have e:b=it:=by simpa using hb
  subst e;obtain⟨_,o,e,c,d⟩:=st;exact⟨o,e,λv z=>by rw[d] at z;cases z⟩
 keep:=λi h h' st k=>⟨st.1,st.2.at λo e=>k it (by simp) o e⟩
 item:=by
  intro X hP hw hK hc i AB s σ H E I hf st hg;subst hP hw hK;obtain⟨bE,xs,x,hq,hx⟩:=hg;obtain⟨Bc,rv,p,hz⟩:=I.list hq;obtain⟨u,hu,ru⟩:=rv.get hx;obtain⟨f0,f1,f2,f3,f4,f5⟩:=hf it (by simp);obtain⟨_,hit⟩:=st;have e1:(n:Int)-1-((i:Nat):Int)=((n-1-i:Nat):Int):=by omega
  rw[e1] at hit;refine wpAny_pyNext_rev_item hit p.isList (x:=u) (by simpa using hu) λh' Si sb=>?_;have e2:((n-1-i:Nat):Int)-1=(n:Int)-1-((i+1:Nat):Int):=by omega
  rw[e2] at Si;have I1:Inv X AB σ H {s with heap:=h'}:=I.turned (t':=s.toks) (λb o hb e=>(sb.2 b hb).trans e) f0 f1 f3 f4 f5;obtain⟨o,e,c,d⟩:=id Si;exact⟨u,rfl,WM (s:={s with heap:=h'}) e c d (by decide) ⟨x,H,I1,ru,⟨rfl,λys hy=>by rw[I.AL3 hy hq];exact hx⟩,⟨bE,Si⟩,λb hb=>(hf b hb).1⟩⟩
 done:=by
  intro X hP hw hK hc i AB s σ H E I hf st hg;subst hP hw hK;obtain⟨f0,f1,f2,f3,f4,f5⟩:=hf it (by simp);obtain⟨bE,hit⟩:=st;have jW:n<=i:=hg;have e1:(n:Int)-1-((i:Nat):Int) = -1:=by omega
  rw[e1] at hit;exact wpAny_pyNext_rev_end (I.ok.hd hc) hit λh' eb=>⟨rfl,I.turned (t':=s.toks) (λb o hb e=>eb b o hb e) f0 f1 f3 f4 f5⟩
 self:=λA i s Q E st h=>wpAny_pyIter_revIter st.2 h
def AWc(K : ξ)(ta:TA):TI:=λσ H R=>ta σ H λvs H1=>∃(a : Ξ) (xs:List V),vs=[.ref a]/\Er K H1 a xs/\R (pH K a xs.length) H1
section
variable {X:Cx}{tg:qU}
theorem QT{e:qU}{ta:TA}{p pos:Pos}(hg:Gl X "reversed")(hm:X.mg "reversed" = none)(ha:PA X [e] ta)(hs:qy [e] X.env=[(false,eval e X.env)]:=by rfl):PI X tg (.Call (.Name "reversed" p) [e] [] pos) (AWc X.K ta):=by
 intro AB s σ H R I h;refine zS (Qe I hg hm AID (sV (EC (ha pos AB s σ H _ I h) λus s1 ⟨vs,H1,I1,r1,q1⟩=>?_) hs rfl));obtain⟨a,xs,e,hq,q⟩:=q1;subst e;cases r1 with
 |cons r rr=>
  cases rr;cases r;obtain⟨Bc,rv,p',hz⟩:=I1.list hq;have hl:=rv.length;have e1:((Bc.toArray.size:Nat):Int)-1=(xs.length:Int)-1-((0:Nat):Int):=by simp only[pZ];omega
  refine call_reversed_list p'.isList (wpAny_pyIter_revIter (l:=a) (i:=((Bc.toArray.size:Nat):Int)-1) ⟨_,pV _ rfl,rfl,rfl⟩ ?_);refine Xo (tk:=s1.toks) I1 _ (AQQ a _ xs.length) ⟨qG _,?_⟩ q;rw[<-e1];exact⟨_,pV _ rfl,rfl,rfl⟩
end
section
variable {prog:pQ}{w:qt}{A:qN}{E : Δ -> Ω -> Prop}{s : Ω}
theorem AJ2{d : Ξ}{o:sR}{es:Array tY}{ep:Nat}{Q : Δ -> Ω -> Prop}(hd:(d==sysModules)=false)(ho:s.heap.get? d=some o)(hc:o.ExactDict)(AWu:o.data=.dict es ep)
  (hQ:Q (.ref s.heap.objs.size) {s with heap:=s.heap.push {cls:=.type "dict_keyiterator",data:=.fields #[.ref d,.int 0 0,.int es.size 0,.int ep 0]} }):
  p_ (model prog w) A (pyIter (.ref d)) Q E s:=by
 have hT:s.TypeIs (.ref d) "dict":=⟨o,ho,hc.1⟩
 refine wpAny_pyIter_slot hT F.slot_dict_iter (v_ F.slot_dict_iter hT F.entry_dict_iter ?_ (F.args_dict_iter_1 _));unfold zb.«dict.__iter__»;refine c_ ?_;unfold Builtin.Dict.dictSlotNone;refine c_ (wpAny_notOrdered_dict hT ?_);show p_ _ _ (pure (qR d)) _ _ s;refine pX ?_;show p_ _ _ (Builtin.Dict.showsAll d >>= _) _ _ s;unfold Builtin.Dict.showsAll;rw[ζ (by rw[hd];exact Λ)];refine c_ (pX ?_);refine c_ (xh ho AWu ?_);refine c_ (xW ho AWu ?_);refine c_ (vM (pX ⟨_,rfl,"dict_keyiterator",_,⟨_,pV _ rfl,rfl⟩,F.slot_dict_keyiterator_next.lookup,?_⟩));simpa[rawInt] using hQ
theorem AIb{it d : Ξ}{i n ep:Nat}{od:sR}{es:Array tY}{en:tY}{Q:Option Δ -> Ω -> Prop}(hit:s.heap.IsKeyIter it d i n ep)(Yj:s.heap.get? d=some od)(Wn:od.data=.dict es ep)
  (hsz:es.size=n) (hx:es[i]?=some en) (hQ:∀h',h'.IsKeyIter it d (i+1) n ep->vX it s.heap h'->Q (some en.key) {s with heap:=h'}):p_ (model prog w) A (pyNext (.ref it)) Q E s:=by
 obtain⟨o,ho,hc,hd⟩:=id hit;unfold pyNext;refine c_ (yz (wpAny_callSpecial?_slot (name:=ur "__next__") hit.typeIs t8
  (v_ t8 hit.typeIs F.entry_dict_keyiterator_next ?_ (F.args_dict_keyiterator_next_1 _))))
 refine c_ (pX ?_);refine c_ ?_;refine c_ ?_
 first|refine c_ (tP hit.typeIs (pX ?_))|refine c_ (uz hit.typeIs (pX ?_))
 refine c_ (wpAny_fieldsOf ho hd ?_);have iO:Builtin.Dict_items.ownsTuple "dict_keyiterator" = false:=by decide
 rw[iO,ζ Λ];show p_ _ _ (if (qR d==uA)=true then _ else _) _ _ s;rw[ζ (show¬ ((qR d==uA)=true) from Λ)];refine c_ (pX ?_);refine c_ (xh Yj Wn ?_);rw[ζ (by rw[hsz];simp)];refine c_ (pX ?_);refine c_ (xW Yj Wn ?_);rw[ζ (by simp)];refine pX ?_;obtain⟨iS,oJ⟩:=Array.getElem?_eq_some_iff.mp hx;show p_ _ _ (match if (i:Int)<0 then none else es[(i:Int).toNat]? with|some e=>_|none=>_) _ _ s;rw[ζ (show¬ ((i:Int)<0) by omega),sL,vo iS];refine c_ ?_
 first|refine c_ (tP hit.typeIs (pX ?_))|refine c_ (uz hit.typeIs (pX ?_))
 refine c_ (wpAny_isOneOf_keyiter hit.typeIs ?_);show p_ _ _ (setField (.ref it) 1 (rawInt ((i:Int)+1)) >>= _) _ _ s;refine c_ (wpAny_setField ho hd (by simp) ?_);have AWj:(s.heap.update it (Obj.mapFields (·.setIfInBounds 1 (rawInt ((i:Int)+1))))).IsKeyIter it d (i+1) n ep:=⟨_,Heap.get?_update_self _ ho (Obj.isFreed_of_fields (Obj.data_mapFields hd _)),(Obj.cls_mapFields ..).trans hc,by rw[Obj.data_mapFields hd];simp[rawInt]⟩
 refine c_ (uU ?_);refine c_ (wpAny_isOneOf_keyiter (s:={s with heap:=s.heap.update it (Obj.mapFields (·.setIfInBounds 1 (rawInt ((i:Int)+1))))}) AWj.typeIs ?_);show p_ _ _ (pure es[i].key) _ _ _;rw[oJ];exact pX (pX ⟨_,rfl,pX (hQ _ AWj (rP ..))⟩)
theorem AEs{it d : Ξ}{i n ep:Nat}{od:sR}{es:Array tY}{Q:Option Δ -> Ω -> Prop}(hh:A.handled=none)(hit:s.heap.IsKeyIter it d i n ep)(Yj:s.heap.get? d=some od)(Wn:od.data=.dict es ep)
  (hsz:es.size=n) (jW:n<=i) (hQ:∀h',Heap.ExtBut it s.heap h'->Q none {s with heap:=h'}):p_ (model prog w) A (pyNext (.ref it)) Q E s:=by
 obtain⟨o,ho,hc,hd⟩:=id hit;unfold pyNext;refine c_ (yz (wpAny_callSpecial?_slot (name:=ur "__next__") hit.typeIs t8
  (v_ t8 hit.typeIs F.entry_dict_keyiterator_next ?_ (F.args_dict_keyiterator_next_1 _))))
 refine c_ (pX ?_);refine c_ ?_;refine c_ ?_
 first|refine c_ (tP hit.typeIs (pX ?_))|refine c_ (uz hit.typeIs (pX ?_))
 refine c_ (wpAny_fieldsOf ho hd ?_);have iO:Builtin.Dict_items.ownsTuple "dict_keyiterator" = false:=by decide
 rw[iO,ζ Λ];show p_ _ _ (if (qR d==uA)=true then _ else _) _ _ s;rw[ζ (show¬ ((qR d==uA)=true) from Λ)];refine c_ (pX ?_);refine c_ (xh Yj Wn ?_);rw[ζ (by rw[hsz];simp)];refine c_ (pX ?_);refine c_ (xW Yj Wn ?_);rw[ζ (by simp)];refine pX ?_;have AX0:es.size<=i:=by rw[hsz];exact jW
 show p_ _ _ (match if (i:Int)<0 then none else es[(i:Int).toNat]? with|some e=>_|none=>_) _ _ s;rw[ζ (show¬ ((i:Int)<0) by omega),sL,Array.getElem?_eq_none AX0];refine c_ ?_
 first|refine c_ (tP hit.typeIs (pX ?_))|refine c_ (uz hit.typeIs (pX ?_))
 show p_ _ _ (setField (.ref it) 0 .none >>= _) _ _ s;refine c_ (wpAny_setField ho hd (by simp) ?_);show p_ _ _ (newExc (.type "StopIteration") [] >>= _) _ _ _;refine c_ ?_;simp only[newExc,newTuple];refine c_ (vM ?_ (by size_fits));refine c_ (m:=firstArgMember _ _) (wpAny_of_eq (a:=uA) (by first|rfl|(simp only[firstArgMember];rfl)) ?_);refine vM ?_ (by size_fits);unfold raiseNew;refine c_ (wpAny_handled ?_);rw[show A.in1.handled=none from hh];refine c_ (pX (wpAny_throw ?_));refine c_ (wpAny_isInstance (T:="StopIteration") (b:=true) ⟨_,pV _ rfl,rfl⟩ isSubtype_stop ?_);exact pX (hQ _ (((rP ..).extBut.push _).push _))
end
theorem AVQ{κ:Type}{kvs:List (κ×V)}{vs:List (κ × Δ)}(h:KV kvs vs):∀{i:Nat}{k:κ}{v:V},kvs[i]?=some (k,v)->∃u,vs[i]?=some (k,u)/\RelV v u:=by
 unfold KV at h
 induction h with
 |nil=>intro i k v e;simp at e
 | @cons a b l₁ l₂ r t ih=>
  intro i k v e;cases i with
  |zero=>simp only[rW,yM] at e;subst e;refine⟨b.2,?_,r.2⟩;simp only[rW];exact congrArg some (vQ r.1.symm rfl)
  |succ j=>simp only[tW] at e ⊢;exact ih e
theorem ANC{α β:Type}{G:α->β->Prop}{l₁:List α}{l₂:List β}(h:sG G l₁ l₂):∀{i:Nat}{a:α},l₁[i]?=some a->∃b,l₂[i]?=some b/\G a b:=by
 induction h with
 |nil=>intro i a e;simp at e
 | @cons a b l₁ l₂ r t ih=>
  intro i a' e;cases i with
  |zero=>simp only[rW,yM] at e;subst e;exact⟨b,rfl,r⟩
  |succ j=>simp only[tW] at e ⊢;exact ih e
theorem AQw{k:Key}{u : Δ}(h:S4 k u=true):RelV (kV k) u:=by
 rcases Dj h with⟨i,t,rfl,rfl⟩|⟨x,t,rfl,rfl⟩
 .exact⟨t,rfl⟩
 .exact⟨t,rfl⟩
section
variable {X:Cx}{AB:List (Ξ × sR)}{σ:St}{H:Hp}{s : Ω}{d : Ξ}{o:sR}
theorem Inv.iz{kvs:List (Key×V)}(I:Inv X AB σ H s)(h:H d=some (.DK o (.dK kvs))):
  (d==sysModules)=false/\s.heap.get? d=some o/\o.ExactDict/\∃(es:Array tY) (ep:Nat) (vs:List (Key × Δ)),o.data=.dict es ep/\es.size=kvs.length/\KV kvs vs/\s.heap.DictAt (BN X.prog X.w) d vs ep:=by
 obtain⟨hd,z,hs,vs,kv,o',es,ep,ho,hx,TH,r⟩:=I.CC d _ h;rw[hd] at ho;cases ho;refine⟨hs,hd,hx,es,ep,vs,TH,?_,kv,o,es,hd,hx,TH,r⟩;have l1:=r.2.1.length;have l2:kvs.length=vs.length:=rq kv;rw[qw] at l1;omega
theorem Inv.iy{kvs:List (List Key×V)}(I:Inv X AB σ H s)(h:H d=some (.DK o (.dT kvs))):
  (d==sysModules)=false/\s.heap.get? d=some o/\o.ExactDict/\∃(es:Array tY) (ep:Nat),o.data=.dict es ep/\es.size=kvs.length /\
   ∀(i:Nat) (k:List Key) (v:V),kvs[i]?=some (k,v)->∃(en:tY) (q : Ξ),es[i]?=some en/\en.key=.ref q/\H q=some (.tup (k.map kV)):=by
 obtain⟨hd,z,hs,xs,pr,o',es,ep,ho,hx,TH,he,_⟩:=I.CC d _ h;rw[hd] at ho;cases ho;refine⟨hs,hd,hx,es,ep,TH,?_,λi k v e=>?_⟩
 .have l1:es.size=xs.length:=size_of_entries he;have l2:kvs.length=xs.length:=rq pr;omega
 .obtain⟨b,hb,e1,e2,_⟩:=ANC pr e;have q:=entry_at he i;rw[hb] at q;exact⟨_,b.2.1,q,rfl,e2⟩
end
def pI(d : Ξ)(o:sR)(kvs:List (Key×V)):It:=⟨λi H=>H d=some (.DK o (.dK kvs))/\i<kvs.length,λi H x H'=>H'=H/\∃k v,kvs[i]?=some (k,v)/\x=kV k,λi H=>H d=some (.DK o (.dK kvs))/\kvs.length<=i⟩
def AXH(d : Ξ)(o:sR)(kvs:List (List Key×V)):It:=⟨λi H=>H d=some (.DK o (.dT kvs))/\i<kvs.length,λi H x H'=>H'=H/\∃(k:List Key) (v:V) (q : Ξ),kvs[i]?=some (k,v)/\x=.ref q/\H q=some (.tup (k.map kV)),λi H=>H d=some (.DK o (.dT kvs))/\kvs.length<=i⟩
theorem VP{o:sR}{es Y0:Array tY}{ep eY:Nat}(h:o.data=.dict es ep)(h':o.data=.dict Y0 eY):Y0=es/\eY=ep:=by rw[h] at h';cases h';exact⟨rfl,rfl⟩
section
variable {P:pQ}{w:qt}{K : ξ}{tg:qU}{d : Ξ}{o:sR}{es:Array tY}{ep:Nat}
theorem AO9{kvs:List (Key×V)}(it : Ξ)(Yj:o.data=.dict es ep):Turn P w K tg (pI d o kvs) [it] it (λi h=>h.IsKeyIter it d i kvs.length ep) where
 mem:=by simp
 obj:=λi h st b hb=>by
  have e:b=it:=by simpa using hb
  subst e;obtain⟨oi,e,c,dd⟩:=st;exact⟨oi,e,λv z=>by rw[dd] at z;cases z⟩
 keep:=λi h h' st k=>st.at λoi e=>k it (by simp) oi e
 item:=by
  intro X hP hw hK hc i AB s σ H E I hf st hg;subst hP hw hK;obtain⟨hd,hi⟩:=hg;obtain⟨f0,f1,f2,f3,f4,f5⟩:=hf it (by simp);obtain⟨hs,eS,hx,Y0,eY,vs,TH,hsz,kv,hm⟩:=I.iz hd;obtain⟨rfl,rfl⟩:=VP Yj TH;obtain⟨⟨k,v⟩,iU⟩:∃p,kvs[i]?=some p:=⟨kvs[i],n_ hi⟩
  obtain⟨u,hu,ru⟩:=AVQ kv iU;have hl:kvs.length=vs.length:=rq kv;rw[hl] at st;refine wpAny_pyNext_dict_item st hm hu λkey h' cY Si sb=>?_;have I1:Inv X AB σ H {s with heap:=h'}:=I.turned (t':=s.toks) (λb ob hb e=>(sb.2 b hb).trans e) f0 f1 f3 f4 f5;obtain⟨oi,e,c,dd⟩:=id Si;refine⟨key,rfl,WM (s:={s with heap:=h'}) e c dd (by decide) ⟨kV k,H,I1,AQw (show S4 k key=true from cY),⟨rfl,k,v,iU,rfl⟩,?_,λb hb=>(hf b hb).1⟩⟩;show h'.IsKeyIter it d (i+1) kvs.length _;rw[hl];exact Si
 done:=by intro X hP hw hK hc i AB s σ H E I hf st hg;subst hP hw hK;obtain⟨hd,hi⟩:=hg;obtain⟨f0,f1,f2,f3,f4,f5⟩:=hf it (by simp);obtain⟨hs,eS,hx,Y0,eY,vs,TH,hsz,kv,hm⟩:=I.iz hd;obtain⟨rfl,rfl⟩:=VP Yj TH;exact AEs (I.ok.hd hc) st eS TH hsz hi λh' eb=>⟨rfl,I.turned (t':=s.toks) (λb ob hb e=>eb b ob hb e) f0 f1 f3 f4 f5⟩
 self:=λA i s Q E st h=>wpAny_pyIter_keyiter st h
theorem AMr{kvs:List (List Key×V)}(it : Ξ)(Yj:o.data=.dict es ep):Turn P w K tg (AXH d o kvs) [it] it (λi h=>h.IsKeyIter it d i kvs.length ep) where
 mem:=by simp
 obj:=λi h st b hb=>by
  have e:b=it:=by simpa using hb
  subst e;obtain⟨oi,e,c,dd⟩:=st;exact⟨oi,e,λv z=>by rw[dd] at z;cases z⟩
 keep:=λi h h' st k=>st.at λoi e=>k it (by simp) oi e
 item:=by
  intro X hP hw hK hc i AB s σ H E I hf st hg;subst hP hw hK;obtain⟨hd,hi⟩:=hg;obtain⟨f0,f1,f2,f3,f4,f5⟩:=hf it (by simp);obtain⟨hs,eS,hx,Y0,eY,TH,hsz,ent⟩:=I.iy hd;obtain⟨rfl,rfl⟩:=VP Yj TH;obtain⟨⟨k,v⟩,iU⟩:∃p,kvs[i]?=some p:=⟨kvs[i],n_ hi⟩
  obtain⟨en,q,oJ,cY,hq⟩:=ent i k v iU;refine AIb st eS TH hsz oJ λh' Si sb=>?_;have I1:Inv X AB σ H {s with heap:=h'}:=I.turned (t':=s.toks) (λb ob hb e=>(sb.2 b hb).trans e) f0 f1 f3 f4 f5;obtain⟨oi,e,c,dd⟩:=id Si;exact⟨en.key,rfl,WM (s:={s with heap:=h'}) e c dd (by decide) ⟨.ref q,H,I1,cY,⟨rfl,k,v,q,iU,rfl,hq⟩,Si,λb hb=>(hf b hb).1⟩⟩
 done:=by intro X hP hw hK hc i AB s σ H E I hf st hg;subst hP hw hK;obtain⟨hd,hi⟩:=hg;obtain⟨f0,f1,f2,f3,f4,f5⟩:=hf it (by simp);obtain⟨hs,eS,hx,Y0,eY,TH,hsz,ent⟩:=I.iy hd;obtain⟨rfl,rfl⟩:=VP Yj TH;exact AEs (I.ok.hd hc) st eS TH hsz hi λh' eb=>⟨rfl,I.turned (t':=s.toks) (λb ob hb e=>eb b ob hb e) f0 f1 f3 f4 f5⟩
 self:=λA i s Q E st h=>by refine wpAny_pyIter_slot st.typeIs F.slot_dict_keyiterator_iter (v_ F.slot_dict_keyiterator_iter st.typeIs F.entry_dict_keyiterator_iter ?_ (F.args_dict_keyiterator_iter_1 _));show p_ _ _ (ret (.ref it)) _ _ s;exact pX ⟨_,rfl,"dict_keyiterator",_,st.typeIs,F.slot_dict_keyiterator_next.lookup,h⟩
end
def AWd(td:TE):TI:=λσ H R=>td σ H λx H1=>∃d o,x=.ref d/\((∃kvs,H1 d=some (.DK o (.dK kvs))/\R (pI d o kvs) H1)\/∃kvs,H1 d=some (.DK o (.dT kvs))/\R (AXH d o kvs) H1)
section
variable {X:Cx}{tg e:qU}{td:TE}{apos LX:Pos}
theorem Ma(he:PE X e td):PI X tg e (AWd td):=by
 intro AB s σ H R I h;refine EC (he AB s σ H _ I h) λu s1 ⟨x,H1,I1,rx,d,o,ex,q⟩=>?_;subst ex;obtain rfl:u=qR d:=rx;rcases q with⟨kvs,hd,q⟩|⟨kvs,hd,q⟩
 .obtain⟨hs,eS,hx,es,ep,vs,TH,hsz,kv,hm⟩:=I1.iz hd;refine AJ2 hs eS hx TH (Xo (tk:=s1.toks) I1 _ (AO9 _ TH) ⟨_,pV _ rfl,rfl,?_⟩ q);rw[hsz]<;>rfl
 .obtain⟨hs,eS,hx,es,ep,TH,hsz,ent⟩:=I1.iy hd;refine AJ2 hs eS hx TH (Xo (tk:=s1.toks) I1 _ (AMr _ TH) ⟨_,pV _ rfl,rfl,?_⟩ q);rw[hsz]<;>rfl
end
end L2
section
namespace AYY
open PySem PyProof.Rows
end AYY
end
section
namespace TL
open PySem PySem.Builtin PySem.Builtin.Str PySem.StrLaws
end TL
end
namespace L2
open PySem PySem.Spec PyProof.Rows
section
variable {X:Cx}{AB:List (Ξ × sR)}{σ:St}{H:Hp}{s : Ω}{Q:VK}
end
section
variable {X:Cx}
end
section
variable {X:Cx}{o e:qU}{to te:TE}
end
section
variable {X:Cx}
end
def inClass(s:qX)(j:Nat):qX:=match s with
 |.ClassDef _ _ _ body _ _ _ _ _ _ _=>body.getD j (.Pass ⟨0,0,0,0⟩)
 |_=>.Pass ⟨0,0,0,0⟩
def TX(s:qX):wk:=match s with
 |.FunctionDef _ a _ _ _ _ _ _ _ _=>a
 |_=>{posonlyargs:=[],args:=[],vararg:=none,kwonlyargs:=[],kw_defaults:=[],kwarg:=none,defaults:=[]}
def Pe(s:qX):List qX:=match s with
 |.FunctionDef _ _ b _ _ _ _ _ _ _=>b
 |_=>[]
def AN(s:qX):ua:=match s with
 |.FunctionDef _ _ _ _ _ _ sc _ _ _=>sc
 |_=>{kind:=.function,names:=[],isGenerator:=false,isCoroutine:=false}
abbrev FI:Y6:=λ_ _ _ _ _ _=>False
abbrev E0:XK:=λ_ _ _=>False
theorem AS{X:Cx}:Passes FI X E0:=λ_ _ _ _ _ _ _ h=>h.elim
structure BX(K : ξ)(x qual:qf)(st:qX)(f : Ξ)(fd:tE):Prop where
 ex:∃(oc : Δ) (od:Option Ξ) (kV doc pm : Δ) (an:Option Ξ) (DM ct : Δ) (bP:Array (Option Δ)),
  fd=vf x qual (TX st) (Pe st) (AN st) .none kV doc pm an DM ct/\K.lookup f=some ⟨oc,od,.func fd,bP⟩/\yh K DM qual=true
 kp:sP K (.ref f)=true
section
variable {P:pQ}{w:qt}{K : ξ}{mg:qf->Option Δ}{AG:qM}
theorem BX.ok{x qual:qf}{st:qX}{f : Ξ}{fd:tE}{N ps:List qf}{k:Nat}{sp:Sp}(F:BX K x qual st f fd)(S:AU N ps (AN st))(len:∀vs H Q E,sp vs H Q E->vs.length=ps.length)
  (Yy:∀(DM : Δ) (A:qN) (AR:List yx) (s : Ω) (H:Hp) (vs:List V) (Q:VK) (E:XK),EI k (A.deeper (envOfC qual (AN st) s.heap.objs.size f DM))->sp vs H Q E ->
   ∃t,aL (YO FI P w K mg AG N qual (AN st) f DM A AR s H E).eB (Pe st) t/\t {nx:=λ_ H'=>Q .Es H',rt:=Q} (start N vs) H):A2 P w K mg AG FI (k+1) f fd ps sp:=by
 obtain⟨oc,od,kV,doc,pm,an,DM,ct,bP,rfl,lk,WK⟩:=F.ex;refine AUT lk WK S len λA AR s H vs Q E hr Yu=>?_;obtain⟨t,h,q⟩:=Yy DM A AR s H vs Q E hr Yu;exact⟨t,h.eB,q⟩
theorem BX.binds{x qual:qf}{st:qX}{f : Ξ}{fd:tE}{ps:List qf}(F:BX K x qual st f fd)
  (h:∀(kV doc pm : Δ) (an:Option Ξ) (DM ct : Δ) (us:List Δ),us.length=ps.length->bindArgs (vf x qual (TX st) (Pe st) (AN st) .none kV doc pm an DM ct) ⟨us,[]⟩=pure (ps.zip us)):Binds K fd ps []:=by
 obtain⟨oc,od,kV,doc,pm,an,DM,ct,bP,rfl,lk,WK⟩:=F.ex;exact .all (h kV doc pm an DM ct)
theorem Ag{x qual:qf}{st:qX}{f : Ξ}{oc : Δ}{od an:Option Ξ}{bP:Array (Option Δ)}{kV doc pm DM ct : Δ}(l:K.lookup f=some ⟨oc,od,.func (vf x qual (TX st) (Pe st) (AN st) .none kV doc pm an DM ct),bP⟩)
  (c:yh K DM qual=true) (k:sP K (.ref f)=true):BX K x qual st f (vf x qual (TX st) (Pe st) (AN st) .none kV doc pm an DM ct):=⟨⟨oc,od,kV,doc,pm,an,DM,ct,bP,rfl,l,c⟩,k⟩
end
theorem IG{A:qN}{k:Nat}(hr:EI k A):A.units+1<cLine:=pN (Nat.add_le_add_left (by decide:1<=64) _) hr.units
theorem AJd{n:Nat}(h:n<=1000):n<pY:=pN h (by decide)
section
variable {X:Cx}
theorem pv(i:Nat){x:qf}{pos:Pos}(hN:X.N[i]?=some x:=by rfl)(hv:k6 X.env.scope x:=by first|exact qh rfl|exact zF (qh rfl)|exact zF (zF rfl))(hd:(x==("__debug__" : qf))=false:=by decide)
  (WK:(x==("__classdict__" : qf))=false:=by decide):PE X (.Name x pos) (Sf i):=AU5 hN hv hd WK
theorem Ub:Om X (.builtin "len") (λxs H Q=>∃a kvs,xs=[V.ref a]/\H a=some (.dK kvs)/\Q (.int kvs.length) H):=by intro AB s σ H xs us Q I r h;obtain⟨a,kvs,rfl,ha,q⟩:=h;obtain⟨u,rfl,ru⟩:=vals1 r;cases ru;exact AW4 I (.inl ha) λt s' I'=>⟨.int kvs.length,H,I',⟨t,rfl⟩,q⟩
end
def AM(H H':Hp):Prop:=∀b o,H b=some o->H' b=some o
theorem AM.refl(H:Hp):AM H H:=λ_ _ h=>h
theorem AM.trans{H H1 H2:Hp}(a:AM H H1)(b:AM H1 H2):AM H H2:=λc o h=>b c o (a c o h)
theorem AM.free{H H':Hp}(e:AM H H'){l : Ξ}(h:H' l=Option.none):H l=Option.none:=by
 cases q:H l with
 |none=>rfl
 |some o=>rw[e l o q] at h;cases h
theorem AM.seq{K : ξ}{H H':Hp}{a : Ξ}{xs:List V}(e:AM H H')(h:Er K H a xs):Er K H' a xs:=by
 rcases h with(h|⟨o,h⟩)|h
 .exact .inl (.inl (e _ _ h))
 .exact .inl (.inr ⟨o,e _ _ h⟩)
 .exact .inr h
section
variable {κ:Type} [DecidableEq κ]
end
theorem at_of{xs:List V}{z:Int}{j:Nat}{v:V}(e:z=(j:Int))(h:xs[j]?=some v):WY xs z=some v:=by rw[e];exact Nh h
theorem Ys{α:Type}{l:List α}(hN:l.Nodup){i j:Nat}{x:α}(a:l[i]?=some x)(b:l[j]?=some x):i=j:=by obtain⟨h1,e1⟩:=l_.mp a;obtain⟨h2,e2⟩:=l_.mp b;exact(List.getElem_inj hN).mp (e1.trans e2.symm)
end L2
section
namespace L2
open PySem PySem.Spec PyProof.Rows
open PySem.W (WData Codec OpenSpec Well WellAll ReadsW ReadsAllW)
mutual
/-- x stands for the datum d,lists and tuples all the way -/
inductive Dw(K : ξ)(H:Hp):V->vn->Prop
 |Es:Dw K H .Es .none
 |bl (b:Bool):Dw K H (.bl b) (.bool b)
 |int (i:Int):Dw K H (.int i) (.int i)
 |str (x:qf):Dw K H (.str x) (.str x)
 |Yn (b:Array UInt8):Dw K H (.Yn b) (.bytes b.toList)
 |lst {a : Ξ}{xs:List V}{ds:List vn}:Er K H a xs->K2 K H xs ds->Dw K H (.ref a) (.list ds)
 |tup {a : Ξ}{xs:List V}{ds:List vn}:J1 K H a xs->K2 K H xs ds->Dw K H (.ref a) (.tuple ds)
inductive K2(K : ξ)(H:Hp):List V->List vn->Prop
 |nil:K2 K H [] []
 |cons {v:V}{vs:List V}{d:vn}{ds:List vn}:Dw K H v d->K2 K H vs ds->K2 K H (v::vs) (d::ds)
end
theorem AOt{K : ξ}{H:Hp}:∀ns:List Int,K2 K H (ns.map V.int) (ns.map WData.int)
 |[]=>.nil
 |n::r=>.cons (.int n) (AOt r)
theorem AOn{K : ξ}{H:Hp}:∀(ns:List Int) (xs:List V),K2 K H xs (ns.map WData.int)->xs=ns.map V.int
 |[],xs,h=>by cases h;rfl
 |n::r,xs,h=>by
  cases h with
  |cons h1 h2=>cases h1;rw[AOn r _ h2]<;>rfl
section
variable {P:pQ}{w:qt}{K : ξ}{H:Hp}{h:qM}{R:PySem.W.WRecords}{cl:qf->Option Ξ}
theorem AUm{a : Ξ}{xs:List V}(CC:Ot P w H h)(KX:K.In h)(q:Er K H a xs):∃(Bc:List Δ) (o:sR) (n:Nat),Vals xs Bc/\h.get? a=some o/\o.cls=.type "list" /\ o.data=.seq Bc.toArray n:=by
 rcases q with q|⟨o,Bc,n,e,hc,_,hd,_,hv⟩
 .obtain⟨_,Bc,n,hv,e⟩:=(show Fe P w H h a (.lst xs) from q.ok CC)
  exact⟨Bc,_,n,hv,e,rfl,rfl⟩
 .exact⟨Bc.toList,o,n,hv,KX _ _ e,hc,by simp[hd]⟩
theorem AUl{a : Ξ}{xs:List V}(CC:Ot P w H h)(KX:K.In h)(q:J1 K H a xs):∃(Bc:List Δ) (o:sR) (n:Nat),Vals xs Bc/\h.get? a=some o/\o.cls=.type "tuple" /\ o.data=.seq Bc.toArray n:=by
 rcases q with q|⟨o,Bc,n,e,hc,hd,_,hv⟩
 .obtain⟨_,Bc,hv,o,e,hc,n,hd⟩:=(show Fe P w H h a (.tup xs) from q.ok CC)
  exact⟨Bc,o,n,hv,e,hc,hd⟩
 .exact⟨Bc.toList,o,n,hv,KX _ _ e,hc,by simp[hd]⟩
theorem Dw.reads(CC:Ot P w H h)(KX:K.In h)(d:vn)(v:V)(u : Δ)(x:Dw K H v d):RelV v u->∃as,ReadsW R cl h u d as:=by
 refine Dw.rec (motive_1:=λv d _=>∀u,RelV v u->∃as,ReadsW R cl h u d as) (motive_2:=λvs ds _=>∀us,Vals vs us->∃as,ReadsAllW R cl h us ds as) ?_ ?_ ?_ ?_ ?_ ?_ ?_ ?_ ?_ x u
 .intro _ r;cases r;exact⟨_,.none⟩
 .intro b _ r;cases r;exact⟨_,.bool b⟩
 .rintro i _ ⟨t,rfl⟩;exact⟨_,.int i t⟩
 .rintro s _ ⟨t,rfl⟩;exact⟨_,.str s t⟩
 .rintro b _ ⟨t,rfl⟩;exact⟨_,.bytes _ t⟩
 .intro a xs ds hs _ ih u r;cases r;obtain⟨Bc,o,n,rv,ho,hc,hd⟩:=AUm CC KX hs;obtain⟨as,hr⟩:=ih Bc rv;exact⟨_,.list ho hc hd hr⟩
 .intro a xs ds hs _ ih u r;cases r;obtain⟨Bc,o,n,rv,ho,hc,hd⟩:=AUl CC KX hs;obtain⟨as,hr⟩:=ih Bc rv;exact⟨_,.tuple ho hc hd hr⟩
 .intro _ r;cases r;exact⟨_,.nil⟩
 .intro v vs d ds _ _ i1 i2 us r;cases r with
  |cons r1 r2=>obtain⟨as,q1⟩:=i1 _ r1;obtain⟨bs,q2⟩:=i2 _ r2;exact⟨_,.cons q1 q2⟩
end
mutual
/-- data that a codec tells -/
def bO:vn->Bool
 |.none=>true
 |.bool _=>true
 |.int _=>true
 |.str _=>true
 |.bytes _=>true
 |.list xs=>Sl xs
 |.tuple xs=>Sl xs
 |_=>false
def Sl:List vn->Bool
 |[]=>true
 |x::r=>bO x&&Sl r
end
theorem ALa{α:Type}{f:α->vn}(h:∀a,bO (f a)=true):∀l:List α,Sl (l.map f)=true
 |[]=>rfl
 |x::r=>by show(bO (f x)&&Sl (r.map f))=true;rw[h x,ALa h r]<;>rfl
theorem QS:∀(c:Codec) (a:c.denote),bO (c.enc a)=true
 |.unit,_=>rfl
 |.bool,_=>rfl
 |.int _ _,_=>rfl
 |.nat _ _,_=>rfl
 |.u8,_=>rfl
 |.bytes _ _,_=>rfl
 |.text _ _ _ _,_=>rfl
 |.list _ _ c,a=>ALa (λx=>QS c x) a
 |.pair c d,a=>by show(bO (c.enc a.1)&&(bO (d.enc a.2)&&true))=true;rw[QS c a.1,QS d a.2]<;>rfl
 |.triple c d e,a=>by show(bO (c.enc a.1)&&(bO (d.enc a.2.1)&&(bO (e.enc a.2.2)&&true)))=true;rw[QS c a.1,QS d a.2.1,QS e a.2.2]<;>rfl
 |.option c,none=>rfl
 |.option c,some x=>QS c x
theorem AJj:∀(cs:List Codec) (a:vC cs),Sl (vm cs a)=true
 |[],_=>rfl
 |c::cs,a=>by show(bO (c.enc a.1)&&Sl (vm cs a.2))=true;rw[QS c a.1,AJj cs a.2]<;>rfl
theorem AG1:∀{xs:List vn}{d:vn},d∈xs->d.weight<=xX xs
 |[],d,h=>absurd h (by simp)
 |x::r,d,h=>by
  show d.weight<=x.weight+1+xX r;rcases pM.mp h with e|m
  .rw[e];omega
  .have z:=AG1 m;omega
def toV: Δ -> V
 |.none=>.Es
 |.bool b=>.bl b
 |.int i _=>.int i
 |.str x _=>.str x
 |.bytes b _=>.Yn b
 |.ref a=>.ref a
 |_=>.Es
def Yo(A:List Ξ): Δ -> Prop
 |.none=>True
 |.bool _=>True
 |.int _ _=>True
 |.str _ _=>True
 |.bytes _ _=>True
 |.ref a=>a∈A
 |_=>False
theorem Yo.mono{A B:List Ξ}(h:∀a∈A,a∈B):∀{u : Δ},Yo A u->Yo B u:=λ{u} x=>by
 cases u with
 |ref a=>exact h a x
 |none=>trivial
 |bool b=>trivial
 |int i t=>trivial
 |str s t=>trivial
 |bytes b t=>trivial
 |_=>exact rL x
theorem AQv{A:List Ξ}{u : Δ}(x:Yo A u):RelV (toV u) u:=by
 cases u with
 |ref a=>rfl
 |none=>rfl
 |bool b=>rfl
 |int i t=>exact⟨t,rfl⟩
 |str s t=>exact⟨t,rfl⟩
 |bytes b t=>exact⟨t,rfl⟩
 |_=>exact rL x
theorem OO{A:List Ξ}:∀{vs:List Δ},(∀u∈vs,Yo A u)->Vals (vs.map toV) vs
 |[],_=>.nil
 |u::r,h=>.cons (AQv (h u (υ ..))) (OO λx hx=>h x (θ _ hx))
def Ni(h:qM)(A:List Ξ)(a : Ξ):Prop:=∃vs:List Δ,vs.length<=pY/\(∀u∈vs,Yo A u) /\
 (h.get? a=some {cls:=.type "list",data:=.seq vs.toArray}\/h.get? a=some {cls:=.type "tuple",data:=.seq vs.toArray})
theorem Ni.mono{h:qM}{A B:List Ξ}{a : Ξ}(k:∀a∈A,a∈B)(x:Ni h A a):Ni h B a:=by obtain⟨vs,h1,h2,h3⟩:=x;exact⟨vs,h1,λu hu=>(h2 u hu).mono k,h3⟩
theorem P8{P:yU}{h:qM}:∀{vs:List Δ}{ds:List vn},xP P h vs ds->vs.length=ds.length
 |_,_,.nil=>rfl
 |_,_,.cons _ b=>by show _+1=_+1;rw[P8 b]
theorem ATT{n:Nat}(h:n<=1048576):n<=pY:=a_ h (by decide)
section
variable {P:yU}{h:qM}
theorem AK0(m1 : Δ -> vn->Prop)(m2:List Δ -> List vn->Prop)(h1:∀u d,Yo [] u->Well P h u d->m1 u d)(hl:∀a vs ds,h.get? a=some {cls:=.type "list",data:=.seq vs.toArray}->xP P h vs ds->Sl ds=true->m2 vs ds->m1 (.ref a) (.list ds))
  (ht:∀a vs ds,h.get? a=some {cls:=.type "tuple",data:=.seq vs.toArray}->xP P h vs ds->Sl ds=true->m2 vs ds->m1 (.ref a) (.tuple ds)) (hn:m2 [] []) (hc:∀u us d ds,m1 u d->m2 us ds->m2 (u::us) (d::ds)) {us:List Δ}{ds:List vn}(x:xP P h us ds):Sl ds=true->m2 us ds:=by
 refine WellAll.rec (motive_1:=λu d _=>bO d=true->m1 u d) (motive_2:=λus ds _=>Sl ds=true->m2 us ds) (motive_3:=λ_ _ _=>True) (motive_4:=λ_ _ _=>True) (motive_5:=λ_ _ _=>True)
  (λ_=>h1 _ _ trivial .none) (λb _=>h1 _ _ trivial (.bool b)) (λi t _=>h1 _ _ trivial (.int i t)) (λs t _=>h1 _ _ trivial (.str s t)) ?_ (λb t _=>h1 _ _ trivial (.bytes b t)) ?_ (λe x i p=>hl _ _ _ e x p (i p)) (λe x i p=>ht _ _ _ e x p (i p)) ?_ ?_ ?_ ?_ (λ_=>hn) (λ_ _ i j p=>let q:=Bool.and_eq_true_iff.mp p;hc _ _ _ _ (i q.1) (j q.2)) ?_ ?_ ?_ ?_ ?_ ?_ x
 all_goals intros
 all_goals first|trivial|(rename bO _=true=>p;cases p)
theorem ASU{us:List Δ}{ds:List vn}(x:xP P h us ds)(p:Sl ds=true):(∀d∈ds,d.weight<=1048576)->∃A:List Ξ,(∀u∈us,Yo A u)/\∀a∈A,Ni h A a:=by
 have key:∀(a : Ξ) (vs:List Δ) (ds:List vn),(h.get? a=some {cls:=.type "list",data:=.seq vs.toArray}\/h.get? a=some {cls:=.type "tuple",data:=.seq vs.toArray})->xP P h vs ds->((∀d∈ds,d.weight<=1048576)->∃A:List Ξ,(∀u∈vs,Yo A u)/\∀a∈A,Ni h A a)->xX ds<=1048576->∃A:List Ξ,Yo A (.ref a)/\∀a∈A,Ni h A a:=λa vs ds ho dD ih z2=>by
  obtain⟨A,h1,h2⟩:=ih λd hd=>a_ (AG1 hd) z2;have k:∀b∈A,b∈a::A:=λb hb=>θ _ hb;refine⟨a::A,υ ..,λb hb=>?_⟩;rcases pM.mp hb with e|m
  .rw[e];exact⟨vs,ATT (by rw[P8 dD];exact a_ (PySem.W.length_le_weightAllW ds) z2),λu hu=>(h1 u hu).mono k,ho⟩
  .exact(h2 b m).mono k
 refine AK0 (λu d=>d.weight<=1048576->∃A:List Ξ,Yo A u/\∀a∈A,Ni h A a) (λus ds=>(∀d∈ds,d.weight<=1048576)->∃A:List Ξ,(∀u∈us,Yo A u)/\∀a∈A,Ni h A a)
  (λu d o _ _=>⟨[],o,nofun⟩) (λa vs ds e x _ i z=>key a vs ds (.inl e) x i z) (λa vs ds e x _ i z=>key a vs ds (.inr e) x i z) (λ_=>⟨[],nofun,nofun⟩) (λu us d ds i j z=>?_) x p
 obtain⟨A,a1,a2⟩:=i (z d (υ ..));obtain⟨B,b1,b2⟩:=j λe he=>z e (θ _ he);have kA:∀b∈A,b∈A++B:=λb hb=>pT.mpr (.inl hb);have kB:∀b∈B,b∈A++B:=λb hb=>pT.mpr (.inr hb);refine⟨A++B,λu hu=>?_,λb hb=>?_⟩
 .rcases pM.mp hu with e|m
  .rw[e];exact a1.mono kA
  .exact(b1 u m).mono kB
 .rcases pT.mp hb with m|m
  .exact(a2 b m).mono kA
  .exact(b2 b m).mono kB
end
def fR(o:sR):Option HO:=match o.data with
 |.seq vs _=>if (o.cls==rY "list")=true then some (.DK o (.lst (vs.toList.map toV))) else some (.DK o (.tup (vs.toList.map toV)))
 |_=>none
def JK(K : ξ)(h:qM)(A:List Ξ):Hp:=λb=>if b∈A then(if (K.lookup b).isNone=true then(h.get? b).bind fR else none) else none
def AUW(H:Hp):Prop:=∀b,H b=none\/∃o u,H b=some (.DK o u)
theorem AMI(vs:List Δ):fR {cls:=.type "list",data:=.seq vs.toArray}=some (.DK {cls:=.type "list",data:=.seq vs.toArray} (.lst (vs.map toV))):=by show(if (rY "list" == rY "list")=true then some (HO.DK {cls:=.type "list",data:=.seq vs.toArray} (.lst (vs.toArray.toList.map toV))) else some (HO.DK {cls:=.type "list",data:=.seq vs.toArray} (.tup (vs.toArray.toList.map toV))))=_;rw[η (beq_self_eq_true _)]
theorem AMH(vs:List Δ):fR {cls:=.type "tuple",data:=.seq vs.toArray}=some (.DK {cls:=.type "tuple",data:=.seq vs.toArray} (.tup (vs.map toV))):=by show(if (rY "tuple" == rY "list")=true then some (HO.DK {cls:=.type "tuple",data:=.seq vs.toArray} (.lst (vs.toArray.toList.map toV))) else some (HO.DK {cls:=.type "tuple",data:=.seq vs.toArray} (.tup (vs.toArray.toList.map toV))))=_;rw[ζ (by decide)]
section
variable {P:pQ}{w:qt}{K : ξ}{h:qM}{A:List Ξ}
theorem VU{b : Ξ}{o:sR}(hb:b∈A)(hk:K.lookup b=none)(e:h.get? b=some o):JK K h A b=fR o:=by unfold JK;rw[η hb,hk,η (show(none:Option sR).isNone=true from rfl),e]<;>rfl
theorem ATH{b : Ξ}{u:HO}(q:JK K h A b=some u):b∈A/\K.lookup b=none:=by
 unfold JK at q;by_cases hb:b∈A
 .rw[η hb] at q;cases hk:K.lookup b with
  |none=>exact⟨hb,rfl⟩
  |some o=>rw[hk,ζ (by simp)] at q;cases q
 .rw[ζ hb] at q;cases q
theorem Rf(ar:∀a∈A,Ni h A a){b : Ξ}{u:HO}(q:JK K h A b=some u):K.lookup b=none/\∃vs:List Δ,vs.length<=pY/\(∀u∈vs,Yo A u) /\
  ((h.get? b=some {cls:=.type "list",data:=.seq vs.toArray}/\u=.DK {cls:=.type "list",data:=.seq vs.toArray} (.lst (vs.map toV))) \/
   (h.get? b=some {cls:=.type "tuple",data:=.seq vs.toArray}/\u=.DK {cls:=.type "tuple",data:=.seq vs.toArray} (.tup (vs.map toV)))):=by
 obtain⟨hb,hk⟩:=ATH q;obtain⟨vs,h1,h2,h3⟩:=ar b hb;refine⟨hk,vs,h1,h2,?_⟩;rcases h3 with e|e
 .rw[VU hb hk e,AMI] at q;exact .inl ⟨e,(j_ q).symm⟩
 .rw[VU hb hk e,AMH] at q;exact .inr ⟨e,(j_ q).symm⟩
theorem AQH(ar:∀a∈A,Ni h A a):AUW (JK K h A):=λb=>by
 cases q:JK K h A b with
 |none=>exact .inl rfl
 |some u=>
  obtain⟨_,vs,_,_,⟨_,e⟩|⟨_,e⟩⟩:=Rf ar q
  .exact .inr ⟨_,_,by rw[e]⟩
  .exact .inr ⟨_,_,by rw[e]⟩
theorem ATy(ar:∀a∈A,Ni h A a):Ot P w (JK K h A) h:=λb u q=>by
 obtain⟨_,vs,h1,h2,⟨e,rfl⟩|⟨e,rfl⟩⟩:=Rf ar q
 .exact⟨e,by rw[χ];exact h1,vs,_,OO h2,e⟩
 .exact⟨e,by rw[χ];exact h1,vs,OO h2,_,e,rfl,_,rfl⟩
theorem U4{c c' : Δ}{vs us:List Δ}(e:(some {cls:=c,data:=.seq vs.toArray}:Option sR)=some {cls:=c',data:=.seq us.toArray}):c=c'/\vs=us:=by have e1:=j_ e;have e2:c=c':=congrArg Obj.cls e1;have e3:zB vs.toArray=zB us.toArray:=congrArg Obj.data e1;injection e3 with e4;refine⟨e2,?_⟩;have e5:=congrArg yR e4;simpa using e5
theorem AYT(KX:K.In h)(ar:∀a∈A,Ni h A a){a : Ξ}{vs:List Δ}(ha:a∈A)(e:h.get? a=some {cls:=.type "list",data:=.seq vs.toArray}):(∀u∈vs,Yo A u)/\Er K (JK K h A) a (vs.map toV):=by
 obtain⟨us,h1,h2,h3⟩:=ar a ha;have hu:us=vs:=by
  rcases h3 with q|q
  .rw[e] at q;exact(U4 q).2.symm
  .rw[e] at q;exact absurd (Value.type.inj (U4 q).1) (by decide)
 subst hu;refine⟨h2,?_⟩;cases hk:K.lookup a with
 |none=>exact .inl (.inr ⟨_,by rw[VU ha hk e,AMI]⟩)
 |some o=>have e2:=KX a o hk;rw[e] at e2;obtain rfl:=j_ e2;exact .inr ⟨_,us.toArray,_,hk,rfl,rfl,rfl,by rw[pZ];exact h1,by simpa using OO h2⟩
theorem AYS(KX:K.In h)(ar:∀a∈A,Ni h A a){a : Ξ}{vs:List Δ}(ha:a∈A)(e:h.get? a=some {cls:=.type "tuple",data:=.seq vs.toArray}):(∀u∈vs,Yo A u)/\J1 K (JK K h A) a (vs.map toV):=by
 obtain⟨us,h1,h2,h3⟩:=ar a ha;have hu:us=vs:=by
  rcases h3 with q|q
  .rw[e] at q;exact absurd (Value.type.inj (U4 q).1) (by decide)
  .rw[e] at q;exact(U4 q).2.symm
 subst hu;refine⟨h2,?_⟩;cases hk:K.lookup a with
 |none=>exact .inl (.inr ⟨_,by rw[VU ha hk e,AMH]⟩)
 |some o=>have e2:=KX a o hk;rw[e] at e2;obtain rfl:=j_ e2;exact .inr ⟨_,us.toArray,_,hk,rfl,rfl,by rw[pZ];exact h1,by simpa using OO h2⟩
theorem AVg{Pm:yU}(KX:K.In h)(ar:∀a∈A,Ni h A a){us:List Δ}{ds:List vn}(x:xP Pm h us ds)(p:Sl ds=true):(∀u∈us,Yo A u)->K2 K (JK K h A) (us.map toV) ds:=by
 refine AK0 (λu d=>Yo A u->Dw K (JK K h A) (toV u) d) (λus ds=>(∀u∈us,Yo A u)->K2 K (JK K h A) (us.map toV) ds) (λu d o x _=>?_) (λa vs ds e _ _ i hu=>?_) (λa vs ds e _ _ i hu=>?_) (λ_=>.nil) (λu us d ds i j hu=>.cons (i (hu _ (υ ..))) (j λu m=>hu u (θ _ m))) x p
 .cases x with
  |none=>exact .Es
  |bool b=>exact .bl b
  |int i=>exact .int i
  |str s=>exact .str s
  |bytes b=>exact(Dw.Yn b.toArray :)
  |float=>cases o
  |_=>cases o
 .obtain⟨h2,hs⟩:=AYT KX ar hu e;exact .lst hs (i h2)
 .obtain⟨h2,hs⟩:=AYS KX ar hu e;exact .tup hs (i h2)
end
def Vc(ts:List Ξ)(H:Hp):Hp:=λb=>if b∈ts then some (.P1 #[]) else H b
def Wg(ts:List Ξ)(H:Hp):Prop:=∀b,(b∈ts/\H b=some (.P1 #[]))\/(b∉ts/\(H b=none\/∃o u,H b=some (.DK o u)))
theorem AQf{K : ξ}{H H':Hp}{a : Ξ}{xs:List V}(s:∀b u,H b=some u->H' b=some u)(h:Er K H a xs):Er K H' a xs:=by
 rcases h with(h|⟨o,h⟩)|h
 .exact .inl (.inl (s _ _ h))
 .exact .inl (.inr ⟨o,s _ _ h⟩)
 .exact .inr h
theorem AQe{K : ξ}{H H':Hp}{a : Ξ}{xs:List V}(s:∀b u,H b=some u->H' b=some u)(h:J1 K H a xs):J1 K H' a xs:=by
 rcases h with(h|⟨o,h⟩)|h
 .exact .inl (.inl (s _ _ h))
 .exact .inl (.inr ⟨o,s _ _ h⟩)
 .exact .inr h
theorem K2.grow{K : ξ}{H H':Hp}(s:∀b u,H b=some u->H' b=some u){vs:List V}{ds:List vn}(x:K2 K H vs ds):K2 K H' vs ds:=K2.rec (motive_1:=λv d _=>Dw K H' v d) (motive_2:=λvs ds _=>K2 K H' vs ds) .Es .bl .int .str .Yn (λhs _ ha=>.lst (AQf s hs) ha) (λhs _ ha=>.tup (AQe s hs) ha) .nil (λ_ _ a b=>.cons a b) x
theorem API{P:pQ}{w:qt}{K : ξ}{mg mb:qf->Option Δ}{CX:Y6}{k:Nat}{fa : Ξ}{fd:tE}{ps:List qf}{sp:Sp}{s₁ : Ω}{vals:List Δ}{ds:List vn}{R:PySem.W.WRecords}{cl:qf->Option Ξ}{d0:vn}
  (KX:K.In s₁.heap) (l6:s₁.heap.Ns h_ mg) (hb:s₁.heap.Ns builtinsNs mb) (hbb:∀x:qf,x ≠ "__name__" -> mb x=bootBuiltins x) (AXv:s₁.heap.NoLimit) (aE:s₁.heap.NoSeer) (hbm:∃bm ob,mg "__builtins__" = some (.ref bm)/\bm≠builtinsNs/\s₁.heap.get? bm=some ob/\ob.cls=.type "module" /\ ob.dict=some builtinsNs/\ob.data=.plain) (ts:List Ξ) (fQ:∀P∈ts,s₁.heap.get? P=some {cls:=.none,data:=.fields #[]}/\K.lookup P=none/\isCodeTable s₁.heap P) (hg:s₁.gens = #[])
  (j9:xP w.params s₁.heap vals ds) (RM:Sl ds=true) (hwt:∀d∈ds,d.weight<=1048576) (hr:EI k callerA)
  (F:∀AG:qM,K.In AG->AG.Ns h_ mg->A2 P w K mg AG CX k fa fd ps sp) (cu:∀(s : Ω) (us:List Δ),us.length=ps.length->wY s fd ⟨us,[]⟩ (ps.zip us)) (hlen:ds.length=ps.length)
  (Yu:∀(H:Hp) (xs:List V),Wg ts H->K2 K H xs ds->sp xs H (λv H'=>Dw K H' v d0) λ_ _ _=>False)
  (ir:∀H e s',CX [] H s₁ (λ_ _ _=>False) e s'->False):
  codeAny (model P w) callerA (.call (.ref fa) ⟨vals,[]⟩) (λr s'=>∃u as,r=.ok (.ret u)/\ReadsW R cl s'.heap u d0 as/\OldK s₁.heap s'.heap/\s'.os=s₁.os/\yu s'.gens) s₁:=by
 obtain⟨A,ho,ar⟩:=ASU j9 RM hwt;have hO:AUW (JK K s₁.heap A):=AQH ar;have CC:Ot P w (JK K s₁.heap A) s₁.heap:=ATy ar;have hS:=AVg KX ar j9 RM ho;have hV:=OO ho;have hK:∀b u,JK K s₁.heap A b=some u->K.lookup b=none:=λb u q=>(Rf ar q).1;have bQ:∀{b : Ξ}{o:sR}{es:Array tY}{ep:Nat},s₁.heap.get? b=some o->o.data=.dict es ep->JK K s₁.heap A b=none:=λ{b o es ep} e d=>by
  cases q:JK K s₁.heap A b with
  |none=>rfl
  |some u=>
   obtain⟨_,vs,_,_,⟨e2,_⟩|⟨e2,_⟩⟩:=Rf ar q
   .rw[e2] at e;cases e;have d':zB vs.toArray _=zE es ep:=d;cases d'
   .rw[e2] at e;cases e;have d':zB vs.toArray _=zE es ep:=d;cases d'
 have jt:∀{b : Ξ}{o:sR},s₁.heap.get? b=some o->o.cls=.type "module" -> JK K s₁.heap A b=none:=λ{b o} e c=>by
  cases q:JK K s₁.heap A b with
  |none=>rfl
  |some u=>
   obtain⟨_,vs,_,_,⟨e2,_⟩|⟨e2,_⟩⟩:=Rf ar q
   .rw[e2] at e;cases e;have c':rY "list" = rY "module":=c;injection c' with c';exact absurd c' (by decide)
   .rw[e2] at e;cases e;have c':rY "tuple" = rY "module":=c;injection c' with c';exact absurd c' (by decide)
 have nT:∀Pl∈ts,JK K s₁.heap A Pl=none:=λPl hP=>by
  cases q:JK K s₁.heap A Pl with
  |none=>rfl
  |some u=>
   obtain⟨_,vs,_,_,⟨e2,_⟩|⟨e2,_⟩⟩:=Rf ar q
   .rw[(fQ Pl hP).1] at e2;cases e2
   .rw[(fQ Pl hP).1] at e2;cases e2
 have tn:∀b,b∉ts->Vc ts (JK K s₁.heap A) b=JK K s₁.heap A b:=λb hb=>by unfold Vc;rw[ζ hb]
 have ty:∀b,b∈ts->Vc ts (JK K s₁.heap A) b=some (.P1 #[]):=λb hb=>by unfold Vc;rw[η hb]
 have sT:∀b u,JK K s₁.heap A b=some u->Vc ts (JK K s₁.heap A) b=some u:=λb u q=>by rw[tn b λhb=>by rw[nT b hb] at q;cases q];exact q
 replace hO:Wg ts (Vc ts (JK K s₁.heap A)):=λb=>by
  by_cases hb:b∈ts
  .exact .inl ⟨hb,ty b hb⟩
  .rw[tn b hb];exact .inr ⟨hb,hO b⟩
 replace CC:Ot P w (Vc ts (JK K s₁.heap A)) s₁.heap:=λb u q=>by
  by_cases hb:b∈ts
  .rw[ty b hb] at q;cases q;exact(fQ b hb).1
  .rw[tn b hb] at q;refine(CC b u q).Ws (λ_ _ _ e=>e) (λc e=>sT c _ e) λc xs e=>sT c _ e
 replace hS:=K2.grow sT hS
 replace hK:∀b u,Vc ts (JK K s₁.heap A) b=some u->K.lookup b=none:=λb u q=>by
  by_cases hb:b∈ts
  .exact(fQ b hb).2.1
  .rw[tn b hb] at q;exact hK b u q
 replace bQ:∀{b : Ξ}{o:sR}{es:Array tY}{ep:Nat},s₁.heap.get? b=some o->o.data=.dict es ep->Vc ts (JK K s₁.heap A) b=none:=λ{b o es ep} e d=>by
  by_cases hb:b∈ts
  .rw[(fQ b hb).1] at e;cases e;have d':Data.fields #[]=zE es ep:=d;cases d'
  .rw[tn b hb];exact bQ e d
 replace jt:∀{b : Ξ}{o:sR},s₁.heap.get? b=some o->o.cls=.type "module" -> Vc ts (JK K s₁.heap A) b=none:=λ{b o} e c=>by
  by_cases hb:b∈ts
  .rw[(fQ b hb).1] at e;cases e;have c':uA=rY "module":=c;cases c'
  .rw[tn b hb];exact jt e c
 clear nT tn ty sT;generalize Vc ts (JK K s₁.heap A)=H at hO CC hS hK bQ jt;have VS:∀{b : Ξ}{o:sR},s₁.heap.get? b=some o->H b=none->(YI s₁.heap H).get? b=some o:=λe n=>ARs e n;have gE:∀{b : Ξ}{m:qf->Option Δ},s₁.heap.Ns b m->(YI s₁.heap H).Ns b m:=λ{b m} ⟨o,es,ep,e,d,r⟩=>⟨o,es,ep,VS e (bQ e d),d,r⟩
 have nK:∀b o,K.lookup b=some o->H b=none:=λb o e=>by
  cases q:H b with
  |none=>rfl
  |some u=>rw[hK b u q] at e;cases e
 have hKb:K.In (YI s₁.heap H):=λb o e=>VS (KX b o e) (nK b o e);have hM:Mod K mg (YI s₁.heap H):=⟨hKb,gE l6,⟨mb,gE hb,hbb⟩,let ⟨mc,h1,h2⟩:=AXv;⟨mc,gE h1,h2⟩,⟨let ⟨mc,h1,h2,h3⟩:=aE.statics;⟨mc,gE h1,h2,h3⟩,let ⟨mm,h1,h2⟩:=aE.mods;⟨mm,gE h1,h2⟩,let ⟨mb',h1,h2⟩:=aE.imp;⟨mb',gE h1,h2⟩,let ⟨mg',bm,ob,h1,h2,h3,h4,h5⟩:=aE.main;⟨mg',bm,ob,gE h1,h2,VS h3 (jt h3 h4),h4,h5⟩⟩,let ⟨bm,ob,b1,b2,b3,b4,b5,b6⟩:=hbm;⟨bm,ob,b1,b2,VS b3 (jt b3 b4),b4,b5,b6⟩⟩
 have e0:Uz P w K mg (YI s₁.heap H) callerA [] s₁ H:=⟨rfl,hM,λb o e=>ATG e,vS (AP1 _ _),trivial,λb hb=>absurd (show b∈([]:List Ξ) from hb) (by simp),CC,.of_eq hg⟩
 have hl:vals.length=ps.length:=by rw[P8 j9];exact hlen
 refine vN ((F _ hKb (gE l6)).run callerA [] s₁ H ⟨vals,[]⟩ vals (vals.map toV) _ _ hr e0 (cu s₁ vals hl) hV (Yu H _ hO hS)) λr s' x=>?_;cases r with
 |error e=>exact(ir H e s' x).elim
 |ok fl=>
  cases fl with
  |next=>exact rL x
  |brk=>exact rL x
  |cont=>exact rL x
  |ret u=>
   obtain⟨v,H',os,bare,un,iP,r',q⟩:=x;have kept:∀b o,b∉ts->s₁.heap.get? b=some o->s'.heap.get? b=some o:=λb o hb e=>by
    cases q2:H b with
    |none=>exact un.keep b o e q2 (by intro z;exact absurd (show b∈([]:List Ξ) from z) (by simp)) (by simp)
    |some u2=>
     rcases hO b with⟨Jg,_⟩|⟨_,z|⟨ob,u3,z⟩⟩
     .exact absurd Jg hb
     .rw[q2] at z;cases z
     .have z2:=un.WO b ob _ z;obtain⟨e1,_⟩:=CC b _ z;obtain⟨e2,_⟩:=iP b _ z2;rw[e] at e1;cases e1;exact e2
   have kT:∀b o,b∈ts->s₁.heap.get? b=some o->isCodeTable s₁.heap b/\o={cls:=.none,data:=.fields #[]}/\∃more,s'.heap.get? b=some {cls:=.none,data:=.fields (#[]++more)}:=λb o hb e=>by
    have z:H b=some (.P1 #[]):=by
     rcases hO b with⟨_,z⟩|⟨n,_⟩
     .exact z
     .exact absurd hb n
    obtain⟨more,z2⟩:=un.Wr b _ z;have z3:=iP b _ z2;rw[(fQ b hb).1] at e;exact⟨(fQ b hb).2.2,(j_ e).symm,more,z3⟩
   have KX':K.In s'.heap:=λb o e=>kept b o (λhb=>by rw[(fQ b hb).2.1] at e;cases e) (KX b o e);obtain⟨as,hrd⟩:=Dw.reads (R:=R) (cl:=cl) iP KX' d0 v u q r';refine⟨u,as,rfl,hrd,⟨λb o e=>?_,λb o e=>?_⟩,os,bare⟩
   .by_cases hb:b∈ts
    .obtain⟨t1,rfl,more,t3⟩:=kT b o hb e;exact .inr (.inl ⟨t1,rfl,#[],more,rfl,t3⟩)
    .exact .inl (kept b o hb e)
   .by_cases hb:b∈ts
    .obtain⟨t1,rfl,more,t3⟩:=kT b o hb e;exact⟨_,t3⟩
    .exact⟨o,kept b o hb e⟩
theorem AHm{ds:List vn}(h:WData.layableAll ds=true):∀d∈ds,d.weight<=1048576:=λd hd=>(PySem.W.layableW_iff.mp (tK.mp h d hd)).2.2
theorem AH2:∀(cs:List Codec) (a:vC cs),(vm cs a).length=cs.length
 |[],_=>rfl
 |c::cs,a=>by show(vm cs a.2).length+1=cs.length+1;rw[AH2 cs a.2]
theorem AO7{r:zI}{k:Nat}{q:pQ}{loose:List qf}{XP:(qf->Option Δ)->qM->Prop}{YP:qt->qM->Prop}{d:DefRec}{K:yU -> ξ}{CX:qt->Y6}{ps:List qf}{sp:qt->Sp}
  (Yt:r.wellSaid=true) (hi:importsNone q=true) (l9:d.params.defaults=[]) (hlen:r.args.length=ps.length) (hr:EI k callerA)
  (hY:∀(w:qt) (h:qM),YP w h->(K w.params).In h) (ts:List Ξ) (oS:∀(w:qt) (h:qM),YP w h->∀P∈ts,h.get? P=some {cls:=.none,data:=.fields #[]}/\(K w.params).lookup P=none/\isCodeTable h P)
  (F:∀(w:qt) (mg:qf->Option Δ) (fa : Ξ) (h:qM),YP w h->(K w.params).In h->h.Ns h_ mg->mg d.name=some (.ref fa) ->
   ∃fd:tE,(∀(s : Ω) (us:List Δ),us.length=ps.length->wY s fd ⟨us,[]⟩ (ps.zip us)) /\
    ∀AG:qM,(K w.params).In AG->AG.Ns h_ mg->A2 r.prog w (K w.params) mg AG (CX w) k fa fd ps (sp w))
  (Yu:∀(w:qt) (H:Hp) (xs:List V) (a:vC r.args),Wg ts H->ya r.args a=true->wZ r.args r.asked a=true->K2 (K w.params) H xs (vm r.args a) ->
   sp w xs H (λv H'=>Dw (K w.params) H' v (r.ret.enc (wZ r.args r.f a))) λ_ _ _=>False)
  (ir:∀(w:qt) (H:Hp) (s : Ω) (e : Δ) (s' : Ω),CX w [] H s (λ_ _ _=>False) e s'->False):
  yi q loose XP YP r d [] (λf vs=>zv f vs):=by
 intro w Wt s₁ mg mb G Y fa o pm cd doc dV kV ho hd WK hD kI hg args vals as hpre hlay hrd j9 hlo;obtain⟨a,e1,e2⟩:=PySem.W.os_pre_some hpre;obtain⟨e3,Wy⟩:=Codec.encAll_of_decAll r.args args a e1;subst e3;have KX:=hY w _ Y;obtain⟨fd,hb,hF⟩:=F w mg fa _ Y KX G.T.g kI;refine PySem.W.enter_call (vN (API (R:=[]) (cl:=classAt Wt.heap) (d0:=r.ret.enc (wZ r.args r.f a)) KX G.T.g G.T.b G.T.builtins G.T.nolimit (G.T.seer hi) G.T.bmain ts (oS w _ Y) hg j9 (AJj _ _) (AHm hlay) hr hF hb (by rw[AH2];exact hlen)
  (λH xs hO hS=>Yu w H xs a hO Wy e2 hS) λH e s'=>ir w H s₁ e s') λr' s' hq=>?_)
 obtain⟨u,as',rfl,h1,h2,h3,h4⟩:=hq;exact⟨.inl ⟨u,_,as',rfl,λ_=>rfl,h1,(OpenSpec.post_iff Yt Wy _ _).mpr rfl,λz=>Bool.noConfusion (show false=true from z)⟩,h2,h3,h4⟩
theorem AMn{r:zI}{k:Nat}{q:pQ}{loose:List qf}{XP:(qf->Option Δ)->qM->Prop}{YP:qt->qM->Prop}{d:DefRec}{K:yU -> ξ}{CX:Y6}{ps:List qf}{sp : ξ -> Sp}
  (Yt:r.wellSaid=true) (hi:importsNone q=true) (l9:d.params.defaults=[]) (hlen:r.args.length=ps.length) (hr:EI k callerA)
  (hY:∀(w:qt) (h:qM),YP w h->(K w.params).In h) (ts:List Ξ) (oS:∀(w:qt) (h:qM),YP w h->∀P∈ts,h.get? P=some {cls:=.none,data:=.fields #[]}/\(K w.params).lookup P=none/\isCodeTable h P)
  (F:∀(w:qt) (mg:qf->Option Δ) (fa : Ξ) (h:qM),YP w h->(K w.params).In h->h.Ns h_ mg->mg d.name=some (.ref fa) ->
   ∃fd:tE,(∀(s : Ω) (us:List Δ),us.length=ps.length->wY s fd ⟨us,[]⟩ (ps.zip us)) /\
    ∀AG:qM,(K w.params).In AG->AG.Ns h_ mg->A2 r.prog w (K w.params) mg AG CX k fa fd ps (sp (K w.params)))
  (Yu:∀(K : ξ) (H:Hp) (xs:List V) (a:vC r.args),Wg ts H->ya r.args a=true->wZ r.args r.asked a=true->K2 K H xs (vm r.args a) ->
   sp K xs H (λv H'=>Dw K H' v (r.ret.enc (wZ r.args r.f a))) λ_ _ _=>False)
  (ir:∀(H:Hp) (s : Ω) (e : Δ) (s' : Ω),CX [] H s (λ_ _ _=>False) e s'->False):
  yi q loose XP YP r d [] (λf vs=>zv f vs):=
 AO7 (K:=K) (CX:=λ_=>CX) (sp:=λw=>sp (K w.params)) Yt hi l9 hlen hr hY ts oS F (λw H xs a h1 h2 h3 h4=>Yu (K w.params) H xs a h1 h2 h3 h4) λ_ H s e s'=>ir H s e s'
abbrev KOf{K : ξ}{h:qM}(_:K.In h): ξ:=K
end L2
end
namespace L2
open PySem PySem.Spec PyProof.Rows
section
variable {X:Cx}{x:qf}{p pos:Pos}
theorem An{i:Int}(hg:Gl X x)(hm:∃k,X.mg x=some (.int i k))(hd:(x==("__debug__" : qf))=false:=by decide):PE X (.Name x pos) (tC (.int i)):=by obtain⟨k,e⟩:=hm;exact AOO hg e ⟨k,rfl⟩ hd
theorem El{a : Ξ}(hg:Gl X x)(hm:X.mg x=some (.ref a))(hd:(x==("__debug__" : qf))=false:=by decide):PE X (.Name x pos) (tC (.ref a)):=AOO hg hm rfl hd
def jC(P:pQ)(w:qt)(K : ξ)(a : Ξ)(f:Int->Option Δ):Prop:=∃o es ep,K.lookup a=some o/\o.ExactDict/\o.data=.dict es ep/\KeysOf (BN P w) es/\∀k:Int,findBy (BN P w).is es (.inl k)=f k
def AV3(f:Int->Option Δ)(a : Ξ)(td ty:TE):TE:=λσ H Q=>td σ H λx H1=>ty σ H1 λy H2=>∃(i:Int) (v:V) (u : Δ),x=.ref a/\y=.int i/\f i=some u/\RelV v u/\Q v H2
theorem AS6{a : Ξ}{f:Int->Option Δ}{o i:qU}{td ty:TE}(hk:jC X.prog X.w X.K a f)(ho:PE X o td)(hi:PE X i ty)(hs:jB i):PE X (.Subscript o i pos) (AV3 f a td ty):=by
 intro AB s σ H Q I h;refine AN0 PySem.F.slot_dict_getitem.lookup hs (EC (ho AB s σ H _ I h) λu s1 ⟨x,H1,I1,rx,q1⟩=>EC (hi AB s1 σ H1 _ I1 q1) λiv s2 ⟨y,H2,I2,ry,n,v,u2,ex,ey,fu,rv,q2⟩=>?_);subst ex;subst ey;obtain rfl:u=qR a:=rx;obtain⟨ob,es,ep,lk,ed,dt,ko,fb⟩:=hk;have g:=I2.YF a ob lk;have mo:s2.heap.MapOf (BN X.prog X.w) a (λk=>findBy (BN X.prog X.w).is es k):=⟨ob,es,ep,g,ed,dt,ko,λ_=>rfl⟩
 refine⟨⟨ob,g,ed.1⟩,?_⟩;exact wpAny_getItem_of (k:=pS n) (S7 (k:=pS n) ry) mo ((fb n).trans fu) ⟨v,H2,I2.tok _,rv,q2⟩
def AUk(C : Ξ -> Sp->Prop)(i:Nat)(t:TA):TE:=λσ H Q=>∃f,σ[i]?=some (some (.ref f))/\(∃sp,C f sp)/\t σ H λvs H1=>∃sp,C f sp/\sp vs H1 Q E0
theorem ALd{i:Nat}{e:qU}{es:List qU}{t:TA}{C : Ξ -> Sp->Prop}(hv:PE X (.Name x p) (Sf i))
  (hC:∀f sp,C f sp->∃k fd ps,A2 X.prog X.w X.K X.mg X.AG FI k f fd ps sp/\EI k X.A/\sP X.K (.ref f)=true/\Binds X.K fd ps []) (ha:PA X (e::es) t)
  (he:qy (e::es) X.env=(false,eval e X.env)::qy es X.env:=by rfl) (RM:(backTo pos (qy es X.env)).any (·.1)=false:=by rfl):
  PE X (.Call (.Name x p) (e::es) [] pos) (AUk C i t):=by
 intro AB s σ H Q I h;obtain⟨f,ef,⟨sp0,hc0⟩,h⟩:=h;obtain⟨_,_,_,_,_,kp,_⟩:=hC f sp0 hc0;refine rX (EC (hv AB s σ H (λv H1=>v=.ref f/\H1=H) I (Tw ef ⟨rfl,rfl⟩)) λu s1 ⟨v,H1,I1,rv,ev,eH⟩=>?_);subst ev;subst eH;obtain rfl:u=qR f:=rv;refine vG (h₀:=X.AG) I1.ok.mod.jS kp (EC (ha pos AB s1 σ H1 _ I1 h) λus s2 ⟨vs,H2,I2,r,sp,hc,q⟩=>⟨I2.YF,?_⟩) he RM;obtain⟨k,fd,ps,F,hr,_,hb⟩:=hC f sp hc;exact Vm (Us:=[]) F hr hb .nil AS I2 r (by rw[rC];exact q)
theorem JR:W4 X (binaryOp .Mult) (rI IntMulOk λi j=>.int (i*j)):=opI λ_ _ _ _ _ _ _ hc q=>mul_int q hc
structure Plain(X:Cx):Prop where
 tree:X.prog.given.tree=none
 ex:∃env l,X.stack=env::l/\env.scope.isGenerator=false/\env.scope.isCoroutine=false/\env.builtins=builtinsNs/\env.globals=h_
theorem ALg(hp:Plain X){k:Nat}(hr:EI k X.A)(hk:32<=k):W4 X (binaryOp .FloorDiv) (rI (λ_ j=>0<j) λi j=>.int (i/j)):=by intro AB s σ H x y v u Q I rx ry h;obtain⟨i,j,rfl,rfl,hc,q⟩:=h;obtain⟨t,rfl⟩:=rx;obtain⟨t',rfl⟩:=ry;obtain⟨env,l,e1,e2,e3,e4,e5⟩:=hp.ex;have sr:s.heap.NoSeer:=I.ok.mod.seer.keeps I.bk;have room:PySem.PylongRoom (model X.prog X.w) X.A s:=PySem.PylongRoom.of I.nolimit (by have:=hr.dp;show X.A.depth+100<_;omega) (PySem.SeerAt.of sr hp.tree (I.ok.frames.trans (by rw[e1])) e2 e3 e4 e5);exact floordiv_int (by omega) (by rw[Int.fdiv_eq_ediv_of_nonneg i (by omega)];exact⟨.int _,H,I.tok _,⟨_,rfl⟩,q⟩) (.inr room)
end
def WJ(ys:List (Int × Δ))(i:Int):Option Δ:=(ys.find? λy=>y.1==i).map (·.2)
theorem ATc{P:pQ}{w:qt}{K : ξ}{a : Ξ}{ep:Nat}{es:Array tY}{ys:List (Int × Δ)}(l:K.lookup a=some ⟨.type "dict",none,.dict es ep,#[]⟩)
  (e:sG (λ(y:Int × Δ) (d:tY)=>∃tk,d=⟨hashInt y.1,.int y.1 tk,y.2⟩) ys es.toList):jC P w K a (WJ ys):=by
 refine⟨_,es,ep,l,⟨rfl,rfl,rfl⟩,rfl,λd hd=>?_,λk=>?_⟩
 .have Et:d∈es.toList:=by simpa using hd
  have key:∀{ys:List (Int × Δ)}{ds:List tY},sG (λ(y:Int × Δ) (d:tY)=>∃tk,d=⟨hashInt y.1,.int y.1 tk,y.2⟩) ys ds->∀d∈ds,∃k:Key,(BN P w).is k d.key=true/\d.hash=(BN P w).hash k:=by
   intro ys ds q
   induction q with
   |nil=>intro d hd;cases hd
   | @cons y d' ys ds h t ih=>
    intro d hd;rcases pM.mp hd with z|z
    .obtain⟨tk,rfl⟩:=h;subst z;exact⟨.inl y.1,AJz y.1 tk,rfl⟩
    .exact ih d z
  exact key e d Et
 .unfold findBy WJ;rw[<-Array.find?_toList];generalize es.toList=ds at e
  induction e with
  |nil=>rfl
  | @cons y d ys ds h t ih=>
   obtain⟨tk,rfl⟩:=h;rw[t7,t7];have e1:(BN P w).is (pS k) (rF y.1 tk)=(y.1==k):=rfl;simp only[e1];cases y.1==k with
   |true=>rfl
   |false=>exact ih
theorem Ox{K : ξ}{a : Ξ}{od:Option Ξ}{Bc:Array Δ}{n:Nat}{sl:Array (Option Δ)}{xs:List V}(l:K.lookup a=some ⟨.type "tuple",od,.seq Bc n,sl⟩)(hz:Bc.size<=pY)(r:Vals xs Bc.toList)(H:Hp):J1 K H a xs:=.inr ⟨_,Bc,n,l,rfl,rfl,hz,r⟩
section
variable {X:Cx}
theorem FH:Om X (.builtin "len") (λxs H Q=>∃p ys,xs=[.ref p]/\H p=some (.lst ys)/\Q (.int ys.length) H):=by intro AB s σ H xs us Q I r h;obtain⟨p,ys,e,h1,h2⟩:=h;exact AFF AB s σ H xs us Q I r ⟨p,ys,e,.inl (Er.of h1),h2⟩
def AUK:R2:=λx y H Q=>∃p xs i v,x=.ref p/\y=.int i/\H p=some (.lst xs)/\WY xs i=some v/\Q v H
theorem A3:jc X AUK:=by intro value slice AB s σ H x y v u Q I r1 r2 h hs;obtain⟨p,xs,i,z,e1,e2,h1,h2,h3⟩:=h;exact AOm value slice AB s σ H x y v u Q I r1 r2 ⟨p,xs,i,z,e1,e2,Er.of h1,h2,h3⟩ hs
theorem Ol{α:Type}(a:α)(l:List α):WY (a::l) 0=some a:=Nh (j:=0) rfl
theorem MV{α:Type}(a b:α)(l:List α):WY (a::b::l) 1=some b:=Nh (j:=1) rfl
theorem AW9{α:Type}(a b c:α)(l:List α):WY (a::b::c::l) 2=some c:=Nh (j:=2) rfl
theorem AW8{α:Type}(a b c d:α)(l:List α):WY (a::b::c::d::l) 3=some d:=Nh (j:=3) rfl
end
theorem AM.new{H:Hp}{p : Ξ}{o:HO}(h:H p=none):AM H (upd H p o):=λb u q=>by rw[AH (AO q h)];exact q
theorem AM.tup{K : ξ}{H H':Hp}{a : Ξ}{xs:List V}(e:AM H H')(h:J1 K H a xs):J1 K H' a xs:=by
 rcases h with(h|⟨o,h⟩)|h
 .exact .inl (.inl (e _ _ h))
 .exact .inl (.inr ⟨o,e _ _ h⟩)
 .exact .inr h
def br(J:It)(g:TG)(tt:TT)(te:TE)(vs:List Nat)(σ:St)(H1:Hp)(D : Ξ)(Qd:Hp->Prop):Prop:=∃W:Nat->Nat->Hp->Prop,(∃m,W 0 m (upd H1 D (.lst [])))/\∀i m H,W i m H ->
 (J.stop i H/\Qd H)\/(J.go i H/\∃Nx:Hp->Prop,(∀H',Nx H'->∃m',m'<m/\W (i+1) m' H')/\∀x H',J.er i H x H'->g x (wipe σ vs) H' λσ2 H2=>wipe σ2 vs=wipe σ vs/\tt σ2 H2 λb H3=>if b=true then te σ2 H3 λy H4=>∃acc,H4 D=some (.lst acc)/\acc.length<pY/\Nx (upd H4 D (.lst (acc++[y]))) else Nx H3)
theorem AUj(wi:TI)(g:TG)(tt:TT)(te:TE)(vs:List Nat)(σ:St)(H:Hp)(Q:VK):jg wi g tt te vs σ H Q=wi σ H λJ H1=>∀D,H1 D=none->br J g tt te vs σ H1 D (Q (.ref D)):=rfl
def AUC(J:It)(g:TG)(tb:TS)(D:Ends)(σ:St)(H1:Hp):Prop:=∃W:Nat->Nat->St->Hp->Prop,(∃m,W 0 m σ H1)/\∀i m σ H,W i m σ H ->
 (J.stop i H/\D.nx σ H)\/(J.go i H/\∃N:St->Hp->Prop,(∀σ' H',N σ' H'->∃m',m'<m/\W (i+1) m' σ' H')/\∀x H',J.er i H x H'->g x σ H' λσ2 H2=>tb {D with nx:=N,ct:=N,bk:=D.nx} σ2 H2)
theorem ASm(wi:TI)(g:TG)(tb:TS)(D:Ends)(σ:St)(H:Hp):AV5 wi g tb D σ H=wi σ H λJ H1=>AUC J g tb D σ H1:=rfl
theorem ASR:bootBuiltins "all" = some (.builtin "all"):=by decide +kernel
theorem ASQ:bootBuiltins "min" = some (.builtin "min"):=by decide +kernel
theorem IV:bootBuiltins "len" = some (.builtin "len"):=by decide +kernel
theorem AKB:bootBuiltins "sorted" = some (.builtin "sorted"):=by decide +kernel
theorem Rc:bootBuiltins "list" = some (.type "list"):=by decide +kernel
theorem AO1:bootBuiltins "dict" = some (.type "dict"):=by decide +kernel
theorem CW{α:Type}:∀{l:List α}{i:Nat}{x:α},l[i]?=some x->l.take (i+1)=l.take i++[x]
 |[],i,x,h=>by simp at h
 |a::l,0,x,h=>by have e:a=x:=j_ h;subst e;rfl
 |a::l,i+1,x,h=>by
  have ih:=CW (l:=l) (i:=i) (x:=x) h;show a::l.take (i+1)=a::l.take i++[x]
  rw[ih];rfl
theorem AWZ{K : ξ}{a : Ξ}{xs:List V}{g:TG}{tt:TT}{te:TE}{vs:List Nat}{σ:St}{H1:Hp}{D : Ξ}{Qd:Hp->Prop}(h:V->Option V)(hD:H1 D=none)(hl:Er K H1 a xs)(hz:xs.length<=1000)
  (hs:∀x,x∈xs->∀H,AM H1 H->∀N:Option V->Hp->Prop,N (h x) H->g x (wipe σ vs) H λσ2 H2=>wipe σ2 vs=wipe σ vs/\tt σ2 H2 λb H3=>if b=true then te σ2 H3 λy H4=>N (some y) H4 else N none H3)
  (hd:Qd (upd H1 D (.lst (xs.filterMap h)))):
  br (dZ K a) g tt te vs σ H1 D Qd:=by
 refine ATU (xs:=xs) (λi H=>H=upd H1 D (.lst ((xs.take i).filterMap h))) rfl (λi H _ e=>by rw[e];exact(AM.new hD).seq hl) (λi x H hx e=>?_) (λH e=>by rw[e,qL];exact hd);subst e;have hm:x∈xs:=qQ hx;have tk:(xs.take (i+1)).filterMap h=(xs.take i).filterMap h++(match h x with|some y=>[y]|none=>[]):=by rw[CW hx,List.filterMap_append];cases e:h x<;>simp[rB,e]
 refine hs x hm _ (AM.new hD) (λo H'=>match o with
  |some y=>∃acc,H' D=some (.lst acc)/\acc.length<pY/\upd H' D (.lst (acc++[y]))=upd H1 D (.lst ((xs.take (i+1)).filterMap h))
  |none=>H'=upd H1 D (.lst ((xs.take (i+1)).filterMap h))) ?_
 cases e:h x with
 |none=>rw[e] at tk;rw[tk,rC]
 |some y=>rw[e] at tk;refine⟨_,AD,?_,by rw[Q5,tk]⟩;refine pN (uC _ _) (pN (qD _ _) (AJd hz))
theorem AOe{K : ξ}{a : Ξ}{xs:List V}{g:TG}{tt:TT}{te:TE}{vs:List Nat}{σ:St}{H1:Hp}{D : Ξ}{Qd:Hp->Prop}(h:V->Option V)(hD:H1 D=none)(hl:J1 K H1 a xs)(hz:xs.length<=1000)
  (hs:∀x,x∈xs->∀H,AM H1 H->∀N:Option V->Hp->Prop,N (h x) H->g x (wipe σ vs) H λσ2 H2=>wipe σ2 vs=wipe σ vs/\tt σ2 H2 λb H3=>if b=true then te σ2 H3 λy H4=>N (some y) H4 else N none H3)
  (hd:Qd (upd H1 D (.lst (xs.filterMap h)))):
  br (jD K a) g tt te vs σ H1 D Qd:=by
 refine AVL (xs:=xs) (λi H=>H=upd H1 D (.lst ((xs.take i).filterMap h))) rfl (λi H _ e=>by rw[e];exact(AM.new hD).tup hl) (λi x H hx e=>?_) (λH e=>by rw[e,qL];exact hd);subst e;have hm:x∈xs:=qQ hx;have tk:(xs.take (i+1)).filterMap h=(xs.take i).filterMap h++(match h x with|some y=>[y]|none=>[]):=by rw[CW hx,List.filterMap_append];cases e:h x<;>simp[rB,e]
 refine hs x hm _ (AM.new hD) (λo H'=>match o with
  |some y=>∃acc,H' D=some (.lst acc)/\acc.length<pY/\upd H' D (.lst (acc++[y]))=upd H1 D (.lst ((xs.take (i+1)).filterMap h))
  |none=>H'=upd H1 D (.lst ((xs.take (i+1)).filterMap h))) ?_
 cases e:h x with
 |none=>rw[e] at tk;rw[tk,rC]
 |some y=>rw[e] at tk;refine⟨_,AD,?_,by rw[Q5,tk]⟩;refine pN (uC _ _) (pN (qD _ _) (AJd hz))
def Walks(J:It)(xs:List V)(H:Hp):Prop:=∀i,(i<xs.length->J.go i H)/\(xs.length<=i->J.stop i H)/\(i<xs.length->∀x H',J.er i H x H'->H'=H/\xs[i]?=some x)
theorem CV{K : ξ}{a : Ξ}{xs:List V}{H:Hp}(h:Er K H a xs):Walks (dZ K a) xs H:=λi=>⟨λhi=>⟨xs,xs[i],h,n_ hi⟩,λhi=>⟨xs,h,hi⟩,λ_ x H' y=>⟨y.1,y.2 xs h⟩⟩
theorem AO6{K : ξ}{a : Ξ}{xs:List V}{H:Hp}(h:J1 K H a xs):Walks (jD K a) xs H:=λi=>⟨λhi=>⟨xs,xs[i],h,n_ hi⟩,λhi=>⟨xs,h,hi⟩,λ_ x H' y=>⟨y.1,y.2 xs h⟩⟩
def steps(lo c:Int)(n:Nat):List V:=(pW n).map λi=>V.int (lo+(i:Nat)*c)
theorem G7(lo c:Int)(n:Nat):(steps lo c n).length=n:=by unfold steps;rw[χ,qx]
theorem QE{lo c:Int}{n i:Nat}(h:i<n):(steps lo c n)[i]?=some (.int (lo+(i:Nat)*c)):=by unfold steps;rw[m_,rJ h];rfl
theorem AK1{lo:Int}{n:Nat}{H:Hp}:Walks (mU lo n) (steps lo 1 n) H:=λi=>by rw[G7];refine⟨λh=>h,λh=>h,λh x H' y=>⟨y.1,?_⟩⟩;rw[QE h,y.2,Int.mul_one]
theorem AKM{lo c:Int}{n:Nat}{H:Hp}:Walks (pJ lo c n) (steps lo c n) H:=λi=>by rw[G7];refine⟨λh=>h,λh=>h,λh x H' y=>⟨y.1,?_⟩⟩;rw[QE h,y.2]
def Ae(D : Ξ)(H H':Hp):Prop:=∀b o,b≠D->H b=some o->H' b=some o
inductive Sel{α:Type}(R:α->Option V->Prop):List α->List V->Prop
 |nil:Sel R [] []
 |skip {x:α}{xs:List α}{ys:List V}:R x none->Sel R xs ys->Sel R (x::xs) ys
 |take {x:α}{y:V}{xs:List α}{ys:List V}:R x (some y)->Sel R xs ys->Sel R (x::xs) (y::ys)
section
variable {α:Type}
theorem Sel.mono{R R':α->Option V->Prop}(h:∀x o,R x o->R' x o):∀{xs:List α}{ys:List V},Sel R xs ys->Sel R' xs ys
 |_,_,.nil=>.nil
 |_,_,.skip r s=>.skip (h _ _ r) (Sel.mono h s)
 |_,_,.take r s=>.take (h _ _ r) (Sel.mono h s)
theorem Sel.cB{R:α->Option V->Prop}{x:α}(r:R x none):∀{xs:List α}{ys:List V},Sel R xs ys->Sel R (xs++[x]) ys
 |_,_,.nil=>.skip r .nil
 |_,_,.skip q s=>.skip q (Sel.cB r s)
 |_,_,.take q s=>.take q (Sel.cB r s)
theorem Sel.cA{R:α->Option V->Prop}{x:α}{y:V}(r:R x (some y)):∀{xs:List α}{ys:List V},Sel R xs ys->Sel R (xs++[x]) (ys++[y])
 |_,_,.nil=>.take r .nil
 |_,_,.skip q s=>.skip q (Sel.cA r s)
 |_,_,.take q s=>.take q (Sel.cA r s)
theorem Sel.len{R:α->Option V->Prop}:∀{xs:List α}{ys:List V},Sel R xs ys->ys.length<=xs.length
 |_,_,.nil=>b_ _
 |_,_,.skip _ s=>Nat.le_succ_of_le (Sel.len s)
 |_,_,.take _ s=>Nat.succ_le_succ (Sel.len s)
theorem Sel.Zp{f:α->Option V}:∀{xs:List α}{ys:List V},Sel (λx o=>o=f x) xs ys->ys=xs.filterMap f
 |_,_,.nil=>rfl
 |_,_,.skip r s=>by rw[rB,<-r];exact Sel.Zp s
 |_,_,.take r s=>by rw[rB,<-r,Sel.Zp s]
theorem Sel.AWV{f:α->V}:∀{xs:List α}{ys:List V},Sel (λx o=>o=some (f x)) xs ys->ys=xs.map f
 |_,_,.nil=>rfl
 |_,_,.skip r s=>by cases r
 |_,_,.take r s=>by injection r with r;rw[k_,<-r,Sel.AWV s]
theorem Sel.all{R:α->Option V->Prop}{F:V->α->Prop}(h:∀x o,R x o->∃y,o=some y/\F y x):∀{xs:List α}{ys:List V},Sel R xs ys->sG F ys xs
 |_,_,.nil=>.nil
 |_,_,.skip r s=>by obtain⟨y,e,_⟩:=h _ _ r;cases e
 |_,_,.take r s=>by obtain⟨y,e,q⟩:=h _ _ r;injection e with e;subst e;exact .cons q (Sel.all h s)
end
theorem PR{α:Type}{J:It}{g:TG}{tt:TT}{te:TE}{vs:List Nat}{σ:St}{H1:Hp}{D : Ξ}{Qd:Hp->Prop}(xs:List V)(ds:List α)(R:Hp->α->Option V->Prop)(hlen:xs.length=ds.length)(hw:∀H,AM H1 H->Walks J xs H)(hz:xs.length<=10000)(hD:H1 D=none)
  (mono:∀H H' ys x o,H D=some (.lst ys)->Ae D H H'->R H x o->R H' x o)
  (hs:∀(i:Nat) (x:V) (d:α),xs[i]?=some x->ds[i]?=some d->∀H,AM H1 H->∀N:Option V->Hp->Prop,(∀o H',AM H H'->R H' d o->N o H')->g x (wipe σ vs) H λσ2 H2=>wipe σ2 vs=wipe σ vs/\tt σ2 H2 λb H3=>if b=true then te σ2 H3 λy H4=>N (some y) H4 else N none H3)
  (hd:∀H ys,AM H1 H->H D=some (.lst ys)->Sel (R H) ds ys->Qd H):br J g tt te vs σ H1 D Qd:=by
 refine⟨λi m H=>m=xs.length-i/\i<=xs.length/\AM H1 H/\∃ys,H D=some (.lst ys)/\Sel (R H) (ds.take i) ys,⟨xs.length,by simp,qG _,AM.new hD,[],AD,.nil⟩,?_⟩;rintro i m H ⟨rfl,hi,s1,ys,hy,sel⟩;obtain⟨w1,w2,w3⟩:=hw H s1 i;by_cases Na:i<xs.length
 .refine .inr ⟨w1 Na,λH'=>AM H1 H'/\∃ys,H' D=some (.lst ys)/\Sel (R H') (ds.take (i+1)) ys,λH' ⟨q1,q2⟩=>⟨xs.length-(i+1),by omega,rfl,Na,q1,q2⟩,λx H' y=>?_⟩;obtain⟨e,hx⟩:=w3 Na x H' y;subst e;have iS:i<ds.length:=by omega
  have ZE:ds[i]?=some ds[i]:=n_ iS;refine hs i x _ hx ZE _ s1 (λo H4=>match o with
   |some y=>∃acc,H4 D=some (.lst acc)/\acc.length<pY/\(AM H1 (upd H4 D (.lst (acc++[y])))/\∃ys,(upd H4 D (.lst (acc++[y]))) D=some (.lst ys)/\Sel (R (upd H4 D (.lst (acc++[y])))) (ds.take (i+1)) ys)
   |none=>AM H1 H4/\∃ys,H4 D=some (.lst ys)/\Sel (R H4) (ds.take (i+1)) ys) (λo H4 s2 r=>?_)
  have lY:=s2 _ _ hy;have AWA:Sel (R H4) (ds.take i) ys:=sel.mono λx o q=>mono _ _ ys x o hy (λb ob _ h=>s2 b ob h) q;rw[CW ZE];cases o with
  |none=>exact⟨s1.trans s2,ys,lY,AWA.cB r⟩
  |some y=>
   have sx:Ae D H4 (upd H4 D (.lst (ys++[y]))):=λb ob nb h=>by rw[AH nb];exact h
   refine⟨ys,lY,?_,λb ob h=>?_,ys++[y],AD,?_⟩
   .have:=sel.len;rw[sD] at this;exact pN (a_ this (a_ (Nat.min_le_right _ _) (by omega:ds.length<=10000))) (by decide)
   .exact sx b ob (AO h hD) (s2 _ _ (s1 b ob h))
   .exact(AWA.mono λx o q=>mono _ _ ys x o lY sx q).cA (mono _ _ ys _ _ lY sx r)
 .have e:i=xs.length:=by omega
  subst e;rw[hlen,qL] at sel;exact .inl ⟨w2 (b_ _),hd H ys s1 hy sel⟩
section
variable {X:Cx}(K : ξ) (hK:X.K=K)
include hK
theorem S9:jc X (iA K):=by subst hK;exact AOm
theorem Cm:jc X (g9 K):=by subst hK;exact Zm
theorem AW{e:qU}{f:qf}{pos:Pos}{ta:TE}(he:PE X e ta)(hb:uV e f X.env (eval e X.env)=eval e X.env):PE X (.Attribute e f pos) (gn K ta f):=by subst hK;exact Mz he hb
theorem OB:Om X (.builtin "len") (λxs H Q=>∃p ys,xs=[.ref p]/\(Er K H p ys\/J1 K H p ys)/\Q (.int ys.length) H):=by subst hK;exact AFF
theorem AI8:Om X (.type "list") (λxs H Q=>∃p ys,xs=[.ref p]/\(Er K H p ys\/J1 K H p ys)/\∀l,H l=none->Q (.ref l) (upd H l (.lst ys))):=by subst hK;exact AFE
theorem Vg:pF X (g8 K):=by subst hK;exact ASs
theorem AHR:W4 X (compareOp .In) (rIn K false):=by subst hK;exact APZ
theorem FO{tg l:qU}{tl:TE}(hl:PE X l tl):PI X tg l (cQ K tl):=by subst hK;exact AON hl
theorem AS1{tg l:qU}{tl:TE}(hl:PE X l tl):PI X tg l (iH K tl):=by subst hK;exact ZW hl
end
section
variable {X:Cx}
theorem AH7:Om X (.type "dict") (λxs H Q=>∃a kvs,xs=[.ref a]/\H a=some (.dK kvs)/\∀p,H p=none->Q (.ref p) (upd H p (.dK kvs))):=by intro AB s σ H xs us Q I r h;obtain⟨a,kvs,rfl,hd,q⟩:=h;obtain⟨u,rfl,rx⟩:=vals1 r;cases rx;exact ASH I (Rd.of hd) λp s' hp I'=>⟨.ref p,_,I',rfl,q p hp⟩
def AT7(ta:TA):TE:=λσ H Q=>ta σ H λvs H1=>∃i j:Int,vs=[.int i,.int j]/\∀r,H1 r=none->Q (.ref r) (upd H1 r (.jM i j))
theorem AS4{a b:qU}{ta:TA}{p pos:Pos}(hg:Gl X "range")(hm:X.mg "range" = none)(ha:PA X [a,b] ta)(hs:qy [a,b] X.env=[(false,eval a X.env),(false,eval b X.env)]:=by rfl)(iK:qy [b] X.env=[(false,eval b X.env)]:=by rfl):
  PE X (.Call (.Name "range" p) [a,b] [] pos) (AT7 ta):=by
 intro AB s σ H Q I h;refine zS (Qe I hg hm zg (sV (EC (ha pos AB s σ H _ I h) λus s1 ⟨vs,H1,I1,r1,q1⟩=>?_) (by rw[hs,iK]) (by rw[iK];rfl)));obtain⟨i,j,e,q⟩:=q1;subst e;cases r1 with
 |cons r rr=>
  cases rr with
  |cons r' rr=>cases rr;obtain⟨t,rfl⟩:=r;obtain⟨t',rfl⟩:=r';refine call_range_2 ?_;exact⟨.ref s1.heap.objs.size,_,I1.laid (a:=s1.heap.objs.size) (o:=.jM i j) (λb o e=>pq _ e) (b_ _) ⟨_,_,_,pV _ rfl⟩,rfl,q _ (I1.CC.fresh (b_ _))⟩
theorem AMo{lo:Int}{n:Nat}{acc:Array Δ}(h:ItemsOf (λi v=>∃t,v=.int (lo+i*1) t) acc n):Vals (steps lo 1 n) acc.toList:=by
 have key:∀(vs:List Δ) (ys:List V),vs.length=ys.length->(∀(i:Nat) (v : Δ) (y:V),vs[i]?=some v->ys[i]?=some y->RelV y v)->Vals ys vs:=by
  intro vs
  induction vs with
  |nil=>
   intro ys hl _;cases ys with
   |nil=>exact .nil
   |cons y ys=>simp at hl
  |cons v vs ih=>
   intro ys hl hr;cases ys with
   |nil=>simp at hl
   |cons y ys=>exact .cons (hr 0 v y rfl rfl) (ih ys (by simpa using hl) λi v y h1 h2=>hr (i+1) v y (by simpa using h1) (by simpa using h2))
 refine key _ _ (by rw[G7,qw];exact h.1) λi v y h1 h2=>?_;have hi:i<n:=by have:=(l_.mp h2).1;rw[G7] at this;exact this
 rw[QE hi] at h2;cases h2;obtain⟨t,e⟩:=h.2 i v (by rw[<-v9];exact h1);exact⟨t,e⟩
theorem AI7:Om X (.type "list") (λxs H Q=>X.calm=true/\∃r i j,xs=[.ref r]/\H r=some (.jM i j)/\(-(2^62)<=i/\i<2^62 /\ -(2^62)<=j/\j<2^62)/\(j-i).toNat<=10000/\∀l,H l=none->Q (.ref l) (upd H l (.lst (steps i 1 (j-i).toNat)))):=by intro AB s σ H xs us Q I r h;obtain⟨Qh,a,i,j,rfl,hd,⟨b1,b2,b3,b4⟩,hz,q⟩:=h;obtain⟨u,rfl,rx⟩:=vals1 r;cases rx;obtain⟨t,u,v,hr⟩:=I.CC _ _ hd;refine call_list_range (n:=(j-i).toNat) (I.ok.hd Qh) hr (small_one b1 b2 b3 b4) (by rw[rangeSize_one];split<;>omega) (by omega) λh' tk Uy c' kp e it=>?_;refine⟨.ref s.heap.objs.size,_,I.laid kp (b_ _) (show Fe X.prog X.w _ h' _ (.lst (steps i 1 (j-i).toNat)) from⟨by rw[G7];exact a_ hz (by decide),Uy.toList,c',AMo it,by rw[e]⟩),rfl,q _ (I.CC.fresh (b_ _))⟩
def UR(v d : Ξ)(h:qM):Prop:=h.get? v=some {cls:=.type "dict_values",data:=.fields #[.ref d]}
def AT5(td:TE):TE:=λσ H Q=>td σ H λx H1=>∃d kvs,x=.ref d/\H1 d=some (.dK kvs)/\∀v,H1 v=none->Q (.ref v) (upd H1 v (.ext (UR v d)))
theorem Xq{e:qU}{td:TE}{apos LX:Pos}(he:PE X e td)(cz:uV e "values" X.env (eval e X.env)=eval e X.env:=by rfl)(cW:(apos.endLine==LX.line)=true:=by rfl):PE X (.Call (.Attribute e "values" apos) [] [] LX) (AT5 td):=by
 intro AB s σ H Q I h;refine xj (T:="dict") (id:="dict.values") cz rfl cW F.plainAttrs_dict F.slot_dict_values F.type_dict_values (EC (he AB s σ H _ I h) λu s1 ⟨x,H1,I1,rx,d,kvs,ex,hd,q⟩=>?_);subst ex;obtain rfl:u=qR d:=rx;obtain⟨z,hs,vs,rel,dd⟩:=Qj I1.CC (Rd.of hd);refine⟨dd.typeIs,dd.mapOf.noDict,?_⟩;have I2:Inv X AB σ (upd H1 s1.heap.objs.size (.ext (UR s1.heap.objs.size d))) {s1 with heap:=s1.heap.push {cls:=.type "dict_values",data:=.fields #[.ref d]} }:=I1.laid (t':=s1.toks) (λb ob q=>pq _ q) (b_ _) ⟨pV _ rfl,⟨_,pV _ rfl⟩,λh1 h2 q1 q2=>q2 _ q1⟩
 have fin:EP X AB σ Q (.ref s1.heap.objs.size) {s1 with heap:=s1.heap.push {cls:=.type "dict_values",data:=.fields #[.ref d]} }:=⟨.ref s1.heap.objs.size,_,I2,rfl,q _ (I1.CC.fresh (b_ _))⟩
 show p_ _ _ (callWith LX (.builtin "dict.values") [.ref d] [] []) _ X.xe s1;exact method_meetsIn F.slot_dict_values F.entry_dict_values rfl (PySem.evalArgs_none ⟨rfl,dd.typeIs,F.args_dict_values_1 _,_,meets_dict_values (BN X.prog X.w) d hs,⟨vs,dd⟩,fin⟩)
theorem NH:Om X (.type "list") (λxs H Q=>X.calm=true/\∃v d kvs,xs=[.ref v]/\H v=some (.ext (UR v d))/\H d=some (.dK kvs)/\∀l,H l=none->Q (.ref l) (upd H l (.lst (kvs.map (·.2))))):=by
 intro AB s σ H xs us Q I r h;obtain⟨Qh,v,d,kvs,rfl,hv,hd,q⟩:=h;obtain⟨u,rfl,rx⟩:=vals1 r;cases rx;obtain⟨z,hs,vs,rel,dd⟩:=Qj I.CC (Rd.of hd);obtain⟨ep,jZ⟩:=dd.dictAt;obtain⟨vw,_,_⟩:=I.CC _ _ hv;have hl:kvs.length=vs.length:=rq rel;refine PySem.W.kdl_call (PySem.W.kdl_values (knd:=BN X.prog X.w) (kvs:=vs) (ep:=ep)) (I.ok.hd Qh) ⟨⟨_,vw,rfl,rfl⟩,jZ⟩ (by rw[<-hl];exact z) λh' tk Uy c' kp e it=>?_;have ev:Uy.toList=vs.map (·.2):=PySem.W.kdl_vals_eq _ (by rw[qw];exact it.1) λj v e=>it.2 j v (by rw[<-v9];exact e);have rv:Vals (kvs.map (·.2)) Uy.toList:=by
  rw[ev];clear ev e it jZ dd hs z q hd hv;unfold KV at rel
  induction rel with
  |nil=>exact .nil
  |cons h t ih=>exact .cons h.2 (ih (by simpa using hl))
 exact⟨.ref s.heap.objs.size,_,I.laid kp (b_ _) (show Fe X.prog X.w _ h' _ (.lst (kvs.map (·.2))) from⟨by rw[χ];exact z,Uy.toList,c',rv,by rw[e]⟩),rfl,q _ (I.CC.fresh (b_ _))⟩
end
theorem AGa(l : Ξ)(items:Array Δ)(n:Nat)(b : Ξ)(dt:Option Ξ)(sl:Array (Option Δ))(JI:Array Δ)(n2:Nat)(hs0:¬(!items.isEmpty&&tO (items.size+JI.size))=true)(hs1:items.size<=pY)(iK:items.size+JI.size<=pY+1):
  Meets (zb.«list.extend» ⟨[.ref l,.ref b],[]⟩) (λ_ R s=>s.heap.get? l=some {cls:=.type "list",dict:=none,data:=.seq items n,slots:=#[]}/\s.heap.get? b=some {cls:=.type "tuple",dict:=dt,data:=.seq JI n2,slots:=sl}/\R (.ok (.ret uA)) {s with heap:=s.heap.update l (qS λx=>x++JI),toks:=s.toks}):=
 .of_wp λprog w A R s h=>by
  obtain⟨hp,g,d,tk,os⟩:=s;obtain⟨hl,hb,h⟩:=h;have f1:=AutoSeq1.idx_int;have f2:=AutoSeq1.sub_tuple_tuple;have f3:=AutoSeq1.sub_list_list;have f4:=AutoSeq1.sub_tuple_list;have f5:=AutoSeq1.sub_list_tuple;have hz':(items++JI).size<=pY+1:=by rw[Array.size_append];exact iK
  wp_walk using(wF hl rfl (hz:=hs1) (_hz':=hz')),AutoSeq1.wpAny_loadPart' hl,AutoSeq1.wpAny_loadPart' hb;exact⟨_,rfl,h⟩
section
variable {X:Cx}(K : ξ) (hK:X.K=K)
def ALV:V->List V->Hp->VK->Prop:=λx vs H Q=>∃l b xs zs,x=.ref l/\vs=[.ref b]/\H l=some (.lst xs)/\J1 K H b zs/\xs.length+zs.length<=100000/\Q .Es (upd H l (.lst (xs++zs)))
include hK
theorem ANL:pG X "list.extend" (ALV K):=by
 subst hK;intro AB s σ H x vs v us Q I rx rv h;obtain⟨l,b,xs,zs,rfl,rfl,hH,hB,hz,q⟩:=h;cases rx;obtain⟨u,rfl,ru⟩:=rv.one;cases ru;obtain⟨z,Bc,n,r,hl,e⟩:=I.ay hH;obtain⟨Uw,r2,⟨o,ho,hc,n2,hd⟩,z2⟩:=I.tuple hB;have sl:(100000:Nat)<=pY:=by decide
 have l2:=r2.length;have hsz:Bc.toArray.size+Uw.toArray.size<=pY:=by rw[pZ,pZ];omega
 have cV:¬ (!Bc.toArray.isEmpty&&tO (Bc.toArray.size+Uw.toArray.size))=true:=by rw[ALq hsz,ue];exact Λ
 obtain⟨oc,od,odt,bP⟩:=o;dsimp only at hc hd;subst hc hd;refine zf F.slot_list_extend ⟨_,e,rfl⟩ F.entry_list_extend (F.args_list_extend_2 _ _)
  (AGa l Bc.toArray n b od bP Uw.toArray n2 cV (by rw[pZ];omega) (by omega)) ⟨e,ho,?_⟩
 refine⟨.Es,_,I.iC (its':=Bc++Uw) hH e (by simp) (r.append r2) ?_,rfl,q⟩;rw[pP];omega
end
theorem CP{J:It}{g:TG}{tb:TS}{D:Ends}{σ:St}{H1:Hp}(xs:List V)(W:Nat->St->Hp->Prop)(h0:W 0 σ H1)(hw:∀i σ H,W i σ H->Walks J xs H)
  (turn:∀i x σ H,xs[i]?=some x->W i σ H->g x σ H λσ2 H2=>tb {D with nx:=λσ' H'=>W (i+1) σ' H',ct:=λσ' H'=>W (i+1) σ' H',bk:=D.nx} σ2 H2)
  (done:∀σ H,W xs.length σ H->D.nx σ H):AUC J g tb D σ H1:=by
 refine⟨λi m σ H=>m=xs.length-i/\i<=xs.length/\W i σ H,⟨_,rfl,qG _,h0⟩,?_⟩;rintro i m σ H ⟨rfl,hi,w⟩;obtain⟨w1,w2,w3⟩:=hw i σ H w i;by_cases Na:i<xs.length
 .refine .inr ⟨w1 Na,λσ' H'=>W (i+1) σ' H',λσ' H' q=>⟨xs.length-(i+1),by omega,rfl,Na,q⟩,λx H' y=>?_⟩;obtain⟨e,hx⟩:=w3 Na x H' y;subst e;exact turn i x σ _ hx w
 .have e:i=xs.length:=by omega
  subst e;exact .inl ⟨w2 (b_ _),done σ H w⟩
theorem GY{d : Ξ}{o:sR}{kvs:List (Key×V)}{H:Hp}(h:H d=some (.DK o (.dK kvs))):Walks (pI d o kvs) (kvs.map λkv=>kV kv.1) H:=λi=>by rw[χ];refine⟨λhi=>⟨h,hi⟩,λhi=>⟨h,hi⟩,λhi x H' y=>⟨y.1,?_⟩⟩;obtain⟨k,v,e,ex⟩:=y.2;rw[m_,e,ex];rfl
theorem Tq{K : ξ}{a : Ξ}{xs:List V}{H:Hp}(h:Er K H a xs):Walks (pH K a xs.length) xs.reverse H:=λi=>by rw[rH];refine⟨λhi=>⟨hi,xs,_,h,n_ (by omega)⟩,λhi=>hi,λhi x H' y=>⟨y.1,?_⟩⟩;rw[uf hi];exact y.2 xs h
theorem BX.nI{P:pQ}{w:qt}{K : ξ}{mg:qf->Option Δ}{AG:qM}{x qual:qf}{st:qX}{f : Ξ}{fd:tE}{N ps:List qf}{k:Nat}{sp:Sp}(F:BX K x qual st f fd)(S:AU N ps (AN st))(len:∀vs H Q E,sp vs H Q E->vs.length=ps.length)
  (Yy:∀(DM : Δ) (A:qN) (AR:List yx) (s : Ω) (H:Hp) (vs:List V) (Q:VK) (E:XK),fd.code=DM->EI k (A.deeper (envOfC qual (AN st) s.heap.objs.size f DM))->sp vs H Q E ->
   ∃t,aL (YO FI P w K mg AG N qual (AN st) f DM A AR s H E).eB (Pe st) t/\t {nx:=λ_ H'=>Q .Es H',rt:=Q} (start N vs) H):A2 P w K mg AG FI (k+1) f fd ps sp:=by
 obtain⟨oc,od,kV,doc,pm,an,DM,ct,bP,rfl,lk,WK⟩:=F.ex;refine AUT lk WK S len λA AR s H vs Q E hr Yu=>?_;obtain⟨t,h,q⟩:=Yy DM A AR s H vs Q E rfl hr Yu;exact⟨t,h.eB,q⟩
theorem Plain.eB{X:Cx}(h:Plain X):Plain X.eB:=⟨h.tree,h.ex⟩
theorem ALZ{CX:Y6}{P:pQ}{w:qt}{K : ξ}{mg:qf->Option Δ}{AG:qM}{N ps:List qf}{qual:qf}{scope:ua}{f : Ξ}{cd : Δ}{A:qN}{AR:List yx}{s : Ω}{H:Hp}{E:XK}(S:AU N ps scope)(hP:P.given.tree=none):
  Plain (YO CX P w K mg AG N qual scope f cd A AR s H E):=⟨hP,_,_,rfl,S.gen,S.co,rfl,rfl⟩
end L2
namespace L2
section
variable {α:Type} [LT α] {a b c:α}{p q r:Prop}
def Lx(a b:α)(q:Prop):Prop:=a<b\/(a=b/\q)
theorem Lx.tr(T:∀{a b c:α},a<b->b<c->a<c)(h:Lx a b p)(k:Lx b c q)(f:p->q->r):Lx a c r:=by
 rcases h with h|⟨rfl,h⟩
 .rcases k with k|⟨rfl,k⟩
  .exact .inl (T h k)
  .exact .inl h
 .rcases k with k|⟨rfl,k⟩
  .exact .inl k
  .exact .inr ⟨rfl,f h k⟩
theorem cI(T:a<b\/a=b\/b<a)(h:p\/q):Lx a b p\/Lx b a q:=by
 rcases T with k|k|k
 .exact .inl (.inl k)
 .exact h.imp (λh=>.inr ⟨k,h⟩) λh=>.inr ⟨k.symm,h⟩
 .exact .inr (.inl k)
theorem Lx.an(N:∀{a b:α},a<b->¬ b<a)(h:Lx a b p)(k:Lx b a q):a=b/\p/\q:=by
 rcases h with h|⟨rfl,h⟩
 .rcases k with k|⟨rfl,k⟩
  .exact absurd k (N h)
  .exact absurd h (N h)
 .exact⟨rfl,h,(k.resolve_left λz=>N z z).2⟩
end
open PySem PySem.Spec PyProof.Rows
def Y3(P:pQ)(w:qt)(K : ξ)(mg:qf->Option Δ)(AG:qM)(N:List qf)(qual:qf)(scope:ua)(f : Ξ)(cd : Δ)(cl:List (qf × Ξ))(A:qN)(AR:List yx)(s : Ω)(H:Hp):Cx where
 prog:=P
 w:=w
 K:=K
 mg:=mg
 AG:=AG
 A:=A.deeper (wQ qual scope s.heap.objs.size f cd cl)
 N:=N
 Wt:=s
 gc:=H
 env:=wQ qual scope s.heap.objs.size f cd cl
 AR:=AR
 stack:=wQ qual scope s.heap.objs.size f cd cl::AR
 ex:=[]
 calm:=true
 fn:=λ_=>false
 pn:=[]
 xe:=λ_ _=>False
structure AMf(scope:ua)(p:qf)(fr:List qf):Prop where
 kind:scope.kind=.function
 co:scope.isCoroutine=false
 gen:scope.isGenerator=false
 par:scope.names.lookup p=some .local
 ART:∀x∈scope.names,x.2≠.cell
 free:∀y∈scope.names,y.2=.free->y.1∈fr
theorem ATX{P:pQ}{w:qt}{K : ξ}{mg:qf->Option Δ}{AG:qM}{A:qN}{AR:List yx}{s : Ω}{H:Hp}{name qual p:qf}{params:wk}{body:qU}{scope:ua}{cl:List (qf × Ξ)}{pm Qn u : Δ}{c' f : Ξ}{fr N:List qf}{σ:St}{t:TE}{Q:VK}
  (e0:Uz P w K mg AG A AR s H) (hh:A.handled=none) (AX7:A.depth<recursionLimit) (S:AMf scope p fr)
  (hf:s.heap.get? f=some (qZ name qual params body scope cl pm c' Qn)) (WK:s.heap.CodeRec (.ref c') qual)
  (cu:bindArgs (PySem.W.kla_fn name qual params body scope cl pm (.ref c') Qn) ⟨[u],[]⟩=pure [(p,u)])
  (Uq:∀x∈fr,∃c,cl.lookup x=some c) (AXy:∀x y c,cl.lookup x=some c->cl.lookup y=some c->x=y)
  (ARv:∀x c,cl.lookup x=some c->(∃v,s.heap.IsCell c v)/\H c=none)
  (hσ:σ.length=N.length) (AXu:∀(i:Nat) (x:qf) (v:V),N[i]?=some x->σ[i]?=some (some v)->(x=p/\RelV v u)\/(scope.names.lookup x=some .free/\∃c y,cl.lookup x=some c/\s.heap.IsCell c (some y)/\RelV v y))
  (hb:PE (Y3 P w K mg AG N qual scope f (.ref c') cl A AR s H) body t) (ht:t σ H Q):
  codeAny (model P w) A (.call (.ref f) ⟨[u],[]⟩) (CR FI AR P w H s Q E0) s:=by
 have lim:s.heap.NoLimit:=e0.mod.nolimit.keeps λb o e=>(e0.bs b o e).1;refine PySem.W.kla_callFunE AX7 hf rfl S.co S.gen rfl WK ?_;rw[cu];refine pX (wpAny_newFunctionEnv S.ART (λy hy=>?_) (λh₁ l6 hsb=>⟨lim.fresh _ hsb,?_⟩) S.kind)
 .rw[i_.mp hy];exact S.par
 show codeAny _ _ (.expr body (wQ qual scope s.heap.objs.size f (.ref c') cl)) _ _;have hk₁:∀b o,s.heap.get? b=some o->h₁.get? b=some o:=λb o e=>hsb.extBut b o (qK (qu e)) (pq _ e);have bQ:∀b : Ξ,b∉(Y3 P w K mg AG N qual scope f (.ref c') cl A AR s H).ex:=λb z=>absurd (show b∈([]:List Ξ) from z) (by simp);have okX:(Y3 P w K mg AG N qual scope f (.ref c') cl A AR s H).Ok:=by
  refine⟨e0.mod,S.kind,rfl,rfl,b_ _,AXy,λx hx=>?_,λx c z _=>?_,λ_=>hh,Around.frames_deeper e0.frames,.inr ⟨rfl,rfl⟩,λb z=>absurd z (bQ b),e0.bs,e0.bV,λb _ _=>bQ b,λb z=>absurd z (bQ b),e0.TM,e0.fX⟩
  .have hx:scope.names.lookup x=some .cell\/scope.names.lookup x=some .free:=hx;rcases hx with hx|hx
   .exact absurd rfl (S.ART _ (qF hx))
   .exact Uq x (S.free _ (qF hx) rfl)
  .exact absurd (show false=true from z) Λ
 have I:Inv (Y3 P w K mg AG N qual scope f (.ref c') cl A AR s H) [] σ H {s with heap:=h₁,toks:=s.toks+1}:=by
  refine⟨okX,rfl,e0.bare,Un.kept hk₁,⟨_,l6,λi x v h1 h2 h3=>?_⟩,λx c e=>?_,e0.CC.fresh (b_ _),λx c e=>(ARv x c e).2,λp hp=>absurd (show p∈([]:List (Ξ × sR)) from hp) (by simp),e0.CC.kept hk₁,hσ⟩
  .rcases AXu i x v h1 h2 with⟨rfl,r⟩|⟨k,c,y,e,⟨o,ho,hd⟩,r⟩
   .exact⟨u,r,.inl ⟨S.par,by simp⟩⟩
   .exact⟨y,r,.inr ⟨.inr k,c,e,o,hk₁ _ _ ho,hd⟩⟩
  .obtain⟨⟨v,o,ho,hd⟩,_⟩:=ARv x c e;exact⟨v,o,hk₁ _ _ ho,hd⟩
 refine PySem.W.kla_codeExpr (rQ (hb [] _ σ H Q I ht) (λv s' h=>?_) λ_ _ z=>z.elim);obtain⟨x,H',J,rx,q⟩:=h;exact⟨x,H',J.os,J.bare,J.AG,J.CC,rx,q⟩
def gY(b:Bool):Int:=if b then 1 else 0
def mV(h:qM)(Lk:Bool)(v : Δ)(k:Int×Int):Prop:=∃a o xs n x t,v=.ref a/\h.get? a=some o/\o.data=.seq xs n/\xs.toList=[x,.int k.2 t]/\((Lk=false/\∃u,x=.int k.1 u)\/(Lk=true/\∃b,x=.bool b/\k.1=gY b))
open Classical in
noncomputable def V2 (h:qM) (Lk:Bool) (v : Δ):Option (Int×Int):=if z:∃k,mV h Lk v k then some (choose z) else none
def Yg(a b:Int×Int):Bool:=decide (a.1<b.1)||(decide (a.1=b.1)&&decide (a.2<b.2))
theorem NV{a b:Int×Int}:Yg a b=true↔a.1<b.1\/(a.1=b.1/\a.2<b.2):=by unfold Yg;rw[t9,qm,decide_eq_true_iff,decide_eq_true_iff,decide_eq_true_iff]
theorem O8{a b:Int×Int}:Yg a b=false↔¬ (a.1<b.1\/(a.1=b.1/\a.2<b.2)):=by rw[<-NV];cases Yg a b<;>simp
@[reducible] noncomputable def Z8 (h:qM) (Lk:Bool):KeyKind where
 α:=Int×Int
 blt:=Yg
 irrefl a:=O8.mpr λh=>yF _ (h.resolve_left (yF _)).2
 trans a b c h1 h2:=NV.mpr (Lx.tr wW (NV.mp h1) (NV.mp h2) wW)
 negTrans a b c h:=by rw[NV] at *;rw[NV];omega
 total a b h1 h2:=by
  rw[O8] at h1 h2;have:a.1=b.1/\a.2=b.2:=by omega
  exact vQ this.1 this.2
 keyOf:=V2 h Lk
 dflt:=(0,0)
theorem AJm{h:qM}{Lk:Bool}{v : Δ}{k:Int×Int}(e:V2 h Lk v=some k):mV h Lk v k:=by
 unfold V2 at e;split at e
 .cases e;exact Classical.choose_spec _
 .cases e
theorem AOR{h:qM}{Lk:Bool}{v : Δ}{k:Int×Int}(z:mV h Lk v k):V2 h Lk v=some k:=by
 unfold V2;rw[dif_pos ⟨k,z⟩];obtain⟨a,o,xs,n,x,t,rfl,ho,hd,hl,c⟩:=Classical.choose_spec (⟨k,z⟩:∃k,mV h Lk v k);generalize Classical.choose _=j at *;obtain⟨b,p,ys,m,y,u,e,Yk,Et,iT,c'⟩:=z;cases e;rw[ho] at Yk;cases Yk;rw[hd] at Et;cases Et;rw[hl] at iT;injection iT with e1 e2;injection e2 with e2;injection e2 with e2;refine congrArg some (vQ ?_ e2);subst e1;rcases c with⟨b1,_,rfl⟩|⟨b1,_,rfl,e⟩
 .rcases c' with⟨_,_,f⟩|⟨b2,_⟩
  .injection f
  .rw[b1] at b2;cases b2
 .rcases c' with⟨b2,_⟩|⟨_,_,f,g⟩
  .rw[b1] at b2;cases b2
  .cases f;rw[e,g]
section
variable {prog:pQ}{w:qt}{A:qN}{E : Δ -> Ω -> Prop}{s : Ω}
theorem ANE{a b:Bool}{Q:Bool -> Ω -> Prop}(h:Q (decide (gY a<gY b)) s):p_ (model prog w) A (oneLt' true (.bool a) (.bool b)) Q E s:=by rw[oneLt'_eq];simp only[if_true];refine c_ (wpAny_cRoomFor_byValue rfl ?_);refine c_ (wpAny_callSpecialIfBound?_slot (typeIs_bool' s a) F.slot_bool_lt (call_gives F.slot_bool_lt (typeIs_bool' s a) F.entry_int_lt (F.args_int_lt_2 _ _) (gives_int_lt_bools a b) ?_));exact rR h
theorem APY{Lk:Bool}:G.LtAt prog w s (Z8 s.heap Lk) (tuples' true):=by
 intro A E x y a b Q hx hy hq;obtain⟨a₁,o₁,xs,n,x1,t1,rfl,ho₁,hd₁,hl₁,c1⟩:=AJm hx;obtain⟨a₂,o₂,ys,m,y1,t2,rfl,ho₂,hd₂,hl₂,c2⟩:=AJm hy;refine PySem.W.kat_lt ho₁ hd₁ ho₂ hd₂ ?_;rw[hl₁,hl₂];have YH:Q (Yg a b) s:=hq;have z1:xs.size=2:=by rw[<-qw,hl₁];rfl
 have z2:ys.size=2:=by rw[<-qw,hl₂];rfl
 rw[z1,z2];have snd:a.1=b.1->PySem.W.KatLex prog w A true (decide (2<2)) Q [(rF a.2 t1,rF b.2 t2)] 1 s:=λe=>by
  refine xJ (xG (yg (λe2=>xZ (PySem.W.kat_nil ?_)) (λe2=>yf ?_)))
  .have:a.2=b.2:=by simpa using e2
   have z:Yg a b=decide (2<2):=by rw[show decide (2<2)=false from rfl,O8];omega
   rw[z] at YH;exact YH
  .have ne:¬ a.2=b.2:=by simpa using e2
   have z:Yg a b=decide (a.2<b.2):=by
    by_cases c:a.2<b.2
    .rw[zqt c,NV];omega
    .rw[zdf c,O8];omega
   rw[z] at YH;exact oneLt_any_int YH
 have fst:¬ a.1=b.1->Yg a b=decide (a.1<b.1):=λne=>by
  by_cases c:a.1<b.1
  .rw[zqt c,NV];omega
  .rw[zdf c,O8];omega
 show PySem.W.KatLex prog w A true _ Q [(x1,y1),(rF a.2 t1,rF b.2 t2)] 0 s;rcases c1 with⟨hB,u,rfl⟩|⟨hB,p,rfl,e1⟩
 .rcases c2 with⟨_,v,rfl⟩|⟨gU,_⟩
  .refine xJ (xG (yg (λe2=>xZ (snd (by simpa using e2))) (λe2=>yf ?_)));have ne:¬ a.1=b.1:=by simpa using e2
   rw[fst ne] at YH;exact oneLt_int YH
  .rw[hB] at gU;cases gU
 .rcases c2 with⟨gU,_⟩|⟨_,q,rfl,e2⟩
  .rw[hB] at gU;cases gU
  .have inj:(p=q)↔a.1=b.1:=by rw[e1,e2];cases p<;>cases q<;>simp[gY]
   refine xJ (SeqAt.EqAt.bool_bool p q prog w _ _ (yg (λe3=>xZ (snd (inj.mp (by simpa using e3)))) (λe3=>yf ?_)));have ne:¬ a.1=b.1:=λz=>by have:=inj.mpr z;rw[this] at e3;simp at e3
   rw[fst ne,e1,e2] at YH;exact ANE YH
end
theorem J5{H H':Hp}{r : Ξ}{o:HO}(s:AM H H')(h:H r=none):AM H (upd H' r o):=λb u hb=>by rw[AH (AO hb h)];exact s b u hb
def G4(a : Ξ)(o:sR):HO:=.ext (λh=>h.get? a=some o)
section
variable {X:Cx}{AB:List (Ξ × sR)}{σ:St}{H:Hp}{s : Ω}{h':qM}
theorem Inv.UU{a : Ξ}{o:sR}(I:Inv X AB σ H s)(ha:H a=some (G4 a o)):s.heap.get? a=some o:=(I.CC _ _ ha).1
theorem VO{P:pQ}{w:qt}{H:Hp}{h:qM}{a : Ξ}{o:sR}(e:h.get? a=some o):Fe P w H h a (G4 a o):=⟨e,⟨o,e⟩,λ_ _ p k=>k _ p⟩
theorem Inv.iD(I:Inv X AB σ H s)(o:sR)(gO:o.isFreed=false):Inv X AB σ (upd H s.heap.objs.size (G4 s.heap.objs.size o)) {s with heap:=s.heap.push o}:=I.laid (t':=s.toks) (λb ob q=>pq _ q) (b_ _) (VO (pV _ gO))
theorem Inv.ZP{a : Ξ}{o o':sR}{t':Nat}(I:Inv X AB σ H s)(ha:H a=some (G4 a o))(hs:vX a s.heap h')(Yk:h'.get? a=some o'):Inv X AB σ (upd H a (G4 a o')) {s with heap:=h',toks:=t'}:=I.write (e:=a) (by rw[ha];trivial) (.inl rfl) (λb u n e=>(hs.2 b n).trans e) ⟨_,Yk⟩ (VO Yk)
theorem Inv.toL{a : Ξ}{Bc:List Δ}{n:Nat}{ys:List V}(I:Inv X AB σ H s)(ha:H a=some (G4 a {cls:=.type "list",data:=.seq Bc.toArray n}))(r:Vals ys Bc)(z:ys.length<=pY):Inv X AB σ (upd H a (.lst ys)) s:=I.write (t':=s.toks) (h':=s.heap) (e:=a) (by rw[ha];trivial) (.inl rfl) (λb u _ e=>e) ⟨_,I.UU ha⟩ ⟨z,Bc,n,r,I.UU ha⟩
end
def Tc(H:Hp)(kv:Int->V)(k : Δ)(n:Int):Prop:=∃b,k=.ref b/\H b=some (.tup [kv n,.int n])
def dX(Lk:Bool)(kv:Int->V)(g:Int->Int)(ns:List Int):Prop:=∀n∈ns,(Lk=false/\kv n=.int (g n))\/(Lk=true/\∃b,kv n=.bl b/\g n=gY b)
theorem AOk{P:pQ}{w:qt}{H:Hp}{h:qM}{Lk:Bool}{kv:Int->V}{g:Int->Int}{k : Δ}{n:Int}(CC:Ot P w H h)(hv:(Lk=false/\kv n=.int (g n))\/(Lk=true/\∃b,kv n=.bl b/\g n=gY b))(ka:Tc H kv k n):
  V2 h Lk k=some (g n,n)/\∃a o xs m f,k=.ref a/\h.get? a=some o/\o.cls=.type "tuple" /\ o.data=.seq xs m/\xs[0]?=some f/\((Lk=false/\∃d t,f=.int d t)\/(Lk=true/\∃b,f=.bool b)):=by
 obtain⟨b,rfl,hb⟩:=ka;obtain⟨_,Bc,r,o,ho,hc,m,hd⟩:=CC _ _ hb;cases r with
 |cons r1 r=>
  cases r with
  |cons r2 r=>
   cases r;obtain⟨t2,rfl⟩:=r2;rcases hv with⟨hB,e⟩|⟨hB,b',e,eg⟩
   .rw[e] at r1;obtain⟨t1,rfl⟩:=r1;refine⟨?_,b,o,_,m,_,rfl,ho,hc,hd,rfl,.inl ⟨hB,_,_,rfl⟩⟩;exact AOR ⟨b,o,_,m,_,t2,rfl,ho,hd,rfl,.inl ⟨hB,_,rfl⟩⟩
   .rw[e] at r1;cases r1;refine⟨?_,b,o,_,m,_,rfl,ho,hc,hd,rfl,.inr ⟨hB,_,rfl⟩⟩;exact AOR ⟨b,o,_,m,_,t2,rfl,ho,hd,rfl,.inr ⟨hB,_,rfl,eg⟩⟩
section
variable {prog:pQ}{w:qt}{A:qN}{E : Δ -> Ω -> Prop}{s : Ω}
theorem APq{Lk:Bool}{ks:List Δ}{Q:SortKind -> Ω -> Prop}(Yl:0<ks.length)
  (hk:∀k∈ks,∃a o xs m f,k=.ref a/\s.heap.get? a=some o/\o.cls=.type "tuple" /\ o.data=.seq xs m/\xs[0]?=some f/\((Lk=false/\∃d t,f=.int d t)\/(Lk=true/\∃b,f=.bool b)))
  (h:Q (tuples' true) s):p_ (model prog w) A (keyKind' ks.toArray) Q E s:=by
 have key:∀ks:List Δ,(∀k∈ks,∃a o xs m f,k=.ref a/\s.heap.get? a=some o/\o.cls=.type "tuple" /\ o.data=.seq xs m/\xs[0]?=some f/\((Lk=false/\∃d t,f=.int d t)\/(Lk=true/\∃b,f=.bool b))) ->
   ∃fs:List Δ,PySem.W.KatTups s.heap ks fs/\fs.length=ks.length/\∀f∈fs,(Lk=false/\∃d t,f=.int d t)\/(Lk=true/\∃b,f=.bool b):=by
  intro ks
  induction ks with
  |nil=>intro _;exact⟨[],trivial,rfl,λf hf=>by cases hf⟩
  |cons k ks ih=>
   intro hk;obtain⟨a,o,xs,m,f,rfl,ho,hc,hd,hf,aG⟩:=hk k (υ ..);obtain⟨fs,f1,f2,f3⟩:=ih λk bD=>hk k (θ _ bD);refine⟨f::fs,PySem.W.KatTups.cons ho hc hd hf f1,by rw[o_,o_,f2],λg hg=>?_⟩;rcases pM.mp hg with rfl|hg
   .exact aG
   .exact f3 g hg
 obtain⟨fs,f1,f2,f3⟩:=key ks hk;cases Lk with
 |false=>
  have e:(rY "int" != rY "tuple")=true:=by first|rfl|decide
  refine PySem.W.kat_kind (T:=rY "int") f1 (by omega) (λv hv=>?_) rfl (by rw[e];exact h);rcases f3 v hv with⟨_,d,t,rfl⟩|⟨z,_⟩
  .exact PySem.W.Looks.of_pure rfl
  .cases z
 |true=>
  have e:(rY "bool" != rY "tuple")=true:=by first|rfl|decide
  refine PySem.W.kat_kind (T:=rY "bool") f1 (by omega) (λv hv=>?_) rfl (by rw[e];exact h);rcases f3 v hv with⟨z,_⟩|⟨_,b,rfl⟩
  .cases z
  .exact PySem.W.Looks.of_pure rfl
end
theorem ALO{κ:KeyKind}{xs:Array Keyed}(h:SortedToK κ xs xs.size):xs.toList.Pairwise λp q=>κ.kle ((κ.keyOf p.1).getD κ.dflt) ((κ.keyOf q.1).getD κ.dflt):=by rw[sE];intro i j hi hj cZ;rw[qw] at hi hj;have:=h i j (tN cZ) hj;unfold KK at this;rw[vo hi,vo hj] at this;simpa using this
def dY(X:Cx)(AB:List (Ξ × sR))(σ:St)(H:Hp)(A:qN)(f : Δ)(kv:Int->V)(ns:List Int):Prop:=∀(n:Int) (t:xF) (H':Hp) (s' : Ω),n∈ns->Inv X AB σ H' s'->AM H H'->p_ (model X.prog X.w) A (call f [.int n t]) (λu aX=>∃b XN,Inv X AB σ XN aX/\u=.ref b/\AM H' XN/\XN b=some (.tup [kv n,.int n])) (λ_ _=>False) s'
theorem Tc.same{H H':Hp}{kv:Int->V}{k : Δ}{n:Int}(h:Tc H kv k n)(s:AM H H'):Tc H' kv k n:=let ⟨b,e,q⟩:=h;⟨b,e,s _ _ q⟩
theorem QU{α β:Type}{F:α->β->Prop}{x:α}{y:β}(h:F x y):∀{l:List α}{m:List β},sG F l m->sG F (l++[x]) (m++[y])
 |_,_,.nil=>.cons h .nil
 |_,_,.cons a r=>.cons a (QU h r)
section
variable {X:Cx}{AB:List (Ξ × sR)}{σ:St}{H:Hp}{E : Δ -> Ω -> Prop}{A:qN}
theorem AJc{H1:Hp}{s : Ω}{st:SortSt}{a kS : Ξ}{e e1:Nat}{keys:Array Δ}{vs:List Δ}{ns:List Int}{Lk:Bool}{g:Int->Int}{P:PySem.Fin -> Ω -> Prop}(I:Inv X AB σ H1 s)(gM:kS≠a)(sH:AM H H1)(gK:H a=none)(eO:H kS=none)
  (hS:H1 kS=some (G4 kS (seqObj "list" keys e))) (hA:H1 a=some (G4 a (seqObj "list" #[] e1))) (hz:keys.size<=pY) (hvs:vs.length=keys.size)
  (hi:ug vs ns) (hk:∀p∈keys.toList.zip vs,V2 s.heap Lk p.1=some (g (numOf p.2),numOf p.2))
  (hp:(arrOf st).toList.Perm (keys.toList.zip vs)) (hs:(arrOf st).toList.Pairwise λp q=>Yg ((V2 s.heap Lk q.1).getD (0,0)) ((V2 s.heap Lk p.1).getD (0,0))=false) (hfl:failedOf st=none)
  (h:∀(Lg:List Int) (H':Hp) (s' : Ω),Inv X AB σ (upd H' a (.lst (Lg.map V.int))) s'->AM H H'->Lg.Perm ns->Lg.Pairwise (λx y=>Yg (g y,y) (g x,x)=false)->P (.done (.ret .none)) s'):
  p_ (model X.prog X.w) A (ksk_tail a false e1 (.ref kS) st) P E s:=by
 have gS:=I.UU hS;have gA:=I.UU hA;have s1:=rP s.heap kS (qS λ_=>(#[]:Array Δ));obtain⟨c1,gR⟩:∃c,(s.heap.update kS (qS λ_=>(#[]:Array Δ))).get? kS=some (seqObj "list" #[] c):=⟨_,um gS λ_=>#[]⟩
 have oY:(s.heap.update kS (qS λ_=>(#[]:Array Δ))).get? a=some (seqObj "list" #[] e1):=(s1.2 a gM.symm).trans gA;have I1:Inv X AB σ (upd H1 kS (G4 kS (seqObj "list" #[] c1))) {s with heap:=s.heap.update kS (qS λ_=>(#[]:Array Δ))}:=I.ZP (t':=s.toks) hS s1 gR;have s2:=rP (s.heap.update kS (qS λ_=>(#[]:Array Δ))) a (qS λ_=>(arrOf st).map (·.2));obtain⟨c2,aG⟩:∃c,((s.heap.update kS (qS λ_=>(#[]:Array Δ))).update a (qS λ_=>(arrOf st).map (·.2))).get? a=some (seqObj "list" ((arrOf st).map (·.2)) c):=⟨_,um oY λ_=>(arrOf st).map (·.2)⟩
 have hA1:upd H1 kS (G4 kS (seqObj "list" #[] c1)) a=some (G4 a (seqObj "list" #[] e1)):=by rw[AH gM.symm];exact hA
 have hlen:=hi.length;have sz:(arrOf st).size=vs.length:=by have:=hp.length_eq;rw[qw,x_,qw] at this;omega
 have mem:∀p∈(arrOf st).toList,V2 s.heap Lk p.1=some (g (numOf p.2),numOf p.2)/\∃n t,p.2=.int n t:=λp Yi=>by have hm:=hp.mem_iff.mp Yi;exact⟨hk p hm,hi.all _ (vA hm).2⟩
 have hI:ug ((arrOf st).toList.map xK) (((arrOf st).toList.map xK).map numOf):=intsAre_map _ λv hv=>by obtain⟨p,Yi,rfl⟩:=Θ.mp hv;exact(mem p Yi).2
 have hP:(((arrOf st).toList.map xK).map numOf).Perm ns:=by have h1:=(hp.map xK).map numOf;rw[List.map_snd_zip (by have e:=qw (xs:=keys);omega),hi.nums] at h1;exact h1
 have hO:(((arrOf st).toList.map xK).map numOf).Pairwise (λx y=>Yg (g y,y) (g x,x)=false):=by rw[tV,tV];refine hs.imp_of_mem λ{p q} Yi YH hr=>?_;rw[(mem p Yi).1,(mem q YH).1] at hr;exact hr
 have I2:Inv X AB σ (upd (upd H1 kS (G4 kS (seqObj "list" #[] c1))) a (G4 a (seqObj "list" ((arrOf st).map (·.2)) c2))) {s with heap:=(s.heap.update kS (qS λ_=>(#[]:Array Δ))).update a (qS λ_=>(arrOf st).map (·.2))}:=I1.ZP (t':=s.toks) hA1 s2 aG;have ea:((arrOf st).map (·.2))=((arrOf st).toList.map xK).toArray:=by apply Array.toList_inj.mp;simp
 rw[ea] at I2;have I3:=I2.toL (ys:=(((arrOf st).toList.map xK).map numOf).map V.int) AD (AEi hI) (by rw[χ,χ,χ,qw];omega);rw[Q5] at I3;unfold ksk_tail
 try dsimp only
 refine c_ (xD gS rfl ?_ (by omega) (qG _));refine c_ (xg ?_);refine c_ (seqEpoch_at oY rfl ?_);refine c_ (xD oY rfl ?_ (qG _) (a_ (vS (show(if false=true then((arrOf st).map (·.2)).reverse else(arrOf st).map (·.2)).size=vs.length by rw[ζ Λ,Array.size_map];exact sz)) (by omega)));rw[hfl];simp only[bne_self_eq_false,uR,if_false];rw[<-ea] at I3;exact pX (h _ _ _ I3 (J5 sH eO) hP hO)
end
theorem AHO{α β γ:Type}{F:α->β->Prop}{f:γ->β}:∀{l:List α}{m:List γ},sG F l (m.map f)->∀p∈l.zip m,F p.1 (f p.2)
 |[],_,_,p,hp=>by rw[List.zip_nil_left] at hp;cases hp
 |_::_,[],h,p,hp=>by rw[List.zip_nil_right] at hp;cases hp
 |x::l,y::m,h,p,hp=>by
  cases h with
  |cons a r=>
   rw[vI] at hp;rcases pM.mp hp with rfl|hp
   .exact a
   .exact AHO r p hp
section
variable {X:Cx}{AB:List (Ξ × sR)}{σ:St}{H:Hp}{E : Δ -> Ω -> Prop}{A:qN}{H1:Hp}{s : Ω}{a kS : Ξ}{e e1:Nat}{vs:List Δ}{ns:List Int}{Lk:Bool}{kv:Int->V}{g:Int->Int}{P:PySem.Fin -> Ω -> Prop}
theorem AQk{keys:Array Δ}(I:Inv X AB σ H1 s)(gM:kS≠a)(sH:AM H H1)(gK:H a=none)(eO:H kS=none)
  (hS:H1 kS=some (G4 kS (seqObj "list" keys e))) (hA:H1 a=some (G4 a (seqObj "list" #[] e1))) (hz:ns.length<=pY) (hi:ug vs ns) (hv:dX Lk kv g ns) (hk:sG (Tc H1 kv) keys.toList ns)
  (h:∀(Lg:List Int) (H':Hp) (s' : Ω),Inv X AB σ (upd H' a (.lst (Lg.map V.int))) s'->AM H H'->Lg.Perm ns->Lg.Pairwise (λx y=>Yg (g y,y) (g x,x)=false)->P (.done (.ret .none)) s'):
  p_ (model X.prog X.w) A (ksk_end a false vs.toArray e1 (.ref kS) keys) P E s:=by
 have hlen:=hi.length;have kl:keys.size=ns.length:=by rw[<-qw];exact rq hk
 have iU:sG (Tc H1 kv) keys.toList (vs.map numOf):=by rw[hi.nums];exact hk
 have kz:∀p∈keys.toList.zip vs,V2 s.heap Lk p.1=some (g (numOf p.2),numOf p.2):=λp hp=>by
  have:=AHO iU p hp;have hm:numOf p.2∈ns:=by rw[<-hi.nums];exact Θ.mpr ⟨p.2,(vA hp).2,rfl⟩
  exact(AOk I.CC (hv _ hm) this).1
 have zl:(keys.zip vs.toArray).toList=keys.toList.zip vs:=by simp
 have hzs:(keys.zip vs.toArray).size=vs.length:=by rw[<-qw,zl,x_,qw];omega
 unfold ksk_end
 try dsimp only
 rw[ζ (show¬ false=true from Λ)];by_cases h2:vs.toArray.size<2
 .rw[η h2,η h2];refine c_ (pX ?_);rw[StateT.run_pure];refine c_ (pX ?_)
  try dsimp only
  refine AJc (st:=SortSt.mk' general' (keys.zip vs.toArray) #[] 7 none) I gM sH gK eO hS hA (by omega) (by omega) hi kz ?_ ?_ rfl h
  .show(keys.zip vs.toArray).toList.Perm _;rw[zl]
  .show(keys.zip vs.toArray).toList.Pairwise _;rw[sE];intro i j hi' hj cZ;rw[qw,hzs] at hj;rw[pZ] at h2;omega
 .rw[ζ h2,ζ h2];rw[pZ] at h2;have ek:keys=keys.toList.toArray:=by simp
  have kk:∀{Q:SortKind -> Ω -> Prop},Q (tuples' true) s->p_ (model X.prog X.w) A (keyKind' keys) Q E s:=λ{Q} hq=>by rw[ek];refine APq (Lk:=Lk) (by rw[qw];omega) (λk bD=>?_) hq;obtain⟨n,hn,ka⟩:=AHP hk k bD;exact(AOk I.CC (hv n hn) ka).2
  refine c_ (kk ?_);refine c_ (rQ (G.wpS_sortRunsSt (κ:=Z8 s.heap Lk) (kd:=tuples' true) (a₀:=keys.zip vs.toArray) (st:=SortSt.mk' (tuples' true) (keys.zip vs.toArray) #[] 7 none)
   (Q:=λ_ Si=>(arrOf Si).Perm (keys.zip vs.toArray)/\failedOf Si=none/\SortedToK (Z8 s.heap Lk) (arrOf Si) (keys.zip vs.toArray).size)
   APY (λp hp=>?_) ⟨Array.Perm.refl _,rfl,rfl⟩ rfl (Stable.refl _) (by rw[hzs];omega) λSi a1 a2 a3 _=>⟨a1,a2,a3⟩) ?_ λ_ _ e=>e)
  .rw[zl] at hp;exact⟨_,kz p hp⟩
  rintro⟨⟨⟩,Si⟩ s' ⟨rfl,hp,hf,hs⟩
  try dsimp only
  have Yi:(arrOf Si).toList.Perm (keys.toList.zip vs):=by rw[<-zl];exact Array.perm_iff_toList_perm.mp hp
  refine AJc I gM sH gK eO hS hA (by omega) (by omega) hi kz Yi ?_ hf h;have:=ALO (κ:=Z8 s'.heap Lk) (xs:=arrOf Si) (by rw[hp.size_eq];exact hs);exact this
where
 AHP {α β:Type}{F:α->β->Prop}:∀{l:List α}{m:List β},sG F l m->∀x∈l,∃y,y∈m/\F x y
  |_,_,.nil,x,hx=>by cases hx
  |_,_,.cons a r,x,hx=>by
   rcases pM.mp hx with rfl|hx
   .exact⟨_,υ ..,a⟩
   .obtain⟨y,hy,f⟩:=AHP r x hx;exact⟨y,θ _ hy,f⟩
theorem APK{f : Δ}(I:Inv X AB σ H1 s)(gM:kS≠a)(sH:AM H H1)(gK:H a=none)(eO:H kS=none)
  (hS:H1 kS=some (G4 kS (seqObj "list" #[] 0))) (hA:H1 a=some (G4 a (seqObj "list" #[] e1))) (hz:ns.length<=pY) (hi:ug vs ns) (hv:dX Lk kv g ns) (turn:dY X AB σ H A f kv ns)
  (h:∀(Lg:List Int) (H':Hp) (s' : Ω),Inv X AB σ (upd H' a (.lst (Lg.map V.int))) s'->AM H H'->Lg.Perm ns->Lg.Pairwise (λx y=>Yg (g y,y) (g x,x)=false)->P (.done (.ret .none)) s'):
  p_ (model X.prog X.w) A (ksk_rest a f false vs.toArray e1 (.ref kS)) P E s:=by
 have hlen:=hi.length;unfold ksk_rest;refine c_ (wpAny_rule ?_)
 first
  |rw[List.forIn_toArray]
  |(rw[<-Array.forIn_toList];simp only[List.toList_toArray])
  |rw[<-Array.forIn_toList]
 refine c_ (ksk_fold (λi s'=>∃H' kA e,Inv X AB σ H' s'/\AM H H'/\H' kS=some (G4 kS (seqObj "list" kA e))/\H' a=some (G4 a (seqObj "list" #[] e1))/\sG (Tc H' kv) kA.toList (ns.take i)) vs 0 s
  ⟨H1,#[],0,I,sH,hS,hA,by rw[List.take_zero];exact .nil⟩ ?step ?done)
 case step=>
  rintro j x s' hx ⟨H',kA,e,I',Q9,fW,hA',hk⟩;simp only[uu] at hk ⊢;have hj:j<vs.length:=(l_.mp hx).1;obtain⟨n,hn⟩:∃n,ns[j]?=some n:=⟨_,n_ (by omega)⟩
  obtain⟨t,ht⟩:=hi.get j n hn;rw[ht] at hx;cases hx;have kz:kA.size<=vs.length:=by have h1:=rq hk;rw[qw,sD] at h1;omega
  refine c_ (yz (rQ (turn n t H' s' (qQ hn) I' Q9) (λu aX he=>?_) λ_ _ hF=>hF.elim));obtain⟨b,XN,I2,rfl,s2,hb⟩:=he
  try dsimp only
  have gT:=s2 _ _ fW;have hA2:=s2 _ _ hA';have gS:=I2.UU gT;have s1:=rP aX.heap kS (qS (·.push (.ref b)));obtain⟨c2,aG⟩:∃c2,(aX.heap.update kS (qS (·.push (.ref b)))).get? kS=some (seqObj "list" (kA.push (.ref b)) c2):=⟨_,um gS (·.push (.ref b))⟩
  have I3:=I2.ZP (t':=aX.toks) gT s1 aG;have kb:∀{k : Δ}{m:Int},Tc XN kv k m->Tc (upd XN kS (G4 kS (seqObj "list" (kA.push (.ref b)) c2))) kv k m:=λ{k m} ⟨b',e',q'⟩=>⟨b',e',by rw[AH (λz=>by rw[z,gT] at q';cases q')];exact q'⟩
  refine c_ (xD gS rfl ?_ (by omega) (a_ (vS (Array.size_push ..)) (by omega)));refine pX ⟨rfl,_,kA.push (.ref b),c2,I3,J5 (Q9.trans s2) eO,AD,by rw[AH gM.symm];exact hA2,?_⟩;have ek:ns.take (j+1)=ns.take j++[n]:=by rw[xw,hn];rfl
  rw[ek,Array.toList_push];exact QU (kb ⟨b,rfl,hb⟩) (Paired.SA hk λ_ _ q=>kb (q.same s2))
 case done=>
  rintro s' ⟨H',kA,e,I',Q9,fW,hA',hk⟩;rw[show ns.take (0+vs.length)=ns from vU (by omega)] at hk
  try dsimp only
  refine c_ (listItems_at (I'.UU fW) rfl ?_);exact AQk I' gM Q9 gK eO fW hA' hz hi hv hk h
theorem APJ{f : Δ}{n:Nat}(I:Inv X AB σ H1 s)(sH:AM H H1)(gK:H a=none)(hA:H1 a=some (G4 a (seqObj "list" vs.toArray n)))(hz:ns.length<=pY)(hi:ug vs ns)(hv:dX Lk kv g ns)(turn:dY X AB σ H A f kv ns)
  (h:∀(Lg:List Int) (H':Hp) (s' : Ω),Inv X AB σ (upd H' a (.lst (Lg.map V.int))) s'->AM H H'->Lg.Perm ns->Lg.Pairwise (λx y=>Yg (g y,y) (g x,x)=false)->P (.done (.ret .none)) s'):
  p_ (model X.prog X.w) A (ksk_tree a f false) P E s:=by
 have hlen:=hi.length;have ho:=I.UU hA;have s1:=rP s.heap a (qS λ_=>(#[]:Array Δ));obtain⟨e1,ho1⟩:∃e1,(s.heap.update a (qS λ_=>(#[]:Array Δ))).get? a=some (seqObj "list" #[] e1):=⟨_,um ho λ_=>#[]⟩
 have I1:Inv X AB σ (upd H1 a (G4 a (seqObj "list" #[] e1))) {s with heap:=s.heap.update a (qS λ_=>(#[]:Array Δ))}:=I.ZP (t':=s.toks) hA s1 ho1;have I2:Inv X AB σ (upd H1 a (G4 a (seqObj "list" #[] e1))) {s with heap:=(s.heap.update a (qS λ_=>(#[]:Array Δ))).push (seqObj "tuple" vs.toArray 0)}:=I1.kept (t':=s.toks) λb o q=>pq _ q;have I3:=I2.iD (seqObj "list" #[] 0) rfl;have fr:upd H1 a (G4 a (seqObj "list" #[] e1)) ((s.heap.update a (qS λ_=>(#[]:Array Δ))).push (seqObj "tuple" vs.toArray 0)).objs.size=none:=I2.CC.fresh (b_ _);have nka:((s.heap.update a (qS λ_=>(#[]:Array Δ))).push (seqObj "tuple" vs.toArray 0)).objs.size≠a:=λz=>by rw[z,AD] at fr;cases fr
 have sH1:AM H (upd H1 a (G4 a (seqObj "list" #[] e1))):=J5 sH gK;have eO:H ((s.heap.update a (qS λ_=>(#[]:Array Δ))).push (seqObj "tuple" vs.toArray 0)).objs.size=none:=sH1.free fr;unfold ksk_tree;refine c_ (listItems_at ho rfl ?_);refine c_ (xD ho rfl ?_ (by rw[pZ];omega) (qG _));refine c_ (seqEpoch_at ho1 rfl ?_);refine c_ (wpAny_newTuple ?_ (by show vs.length<=_;omega));refine c_ (xB ?_ (qG _));refine uU ?_;exact APK I3 nka (J5 sH1 eO) gK eO AD (by rw[AH nka.symm,AD]) hz hi hv turn h
end
def Tf(P:pQ)(w:qt)(l : Ξ)(ns:List Int)(s : Ω):Prop:=∀(A:qN) (E : Δ -> Ω -> Prop) (Q:List Δ -> Ω -> Prop),A.handled=none->(∀vs h' tk,ug vs ns->(∀b o,s.heap.get? b=some o->h'.get? b=some o)->Q vs {s with heap:=h',toks:=tk})->p_ (model P w) A (collect (.ref l)) Q E s
section
variable {X:Cx}{AB:List (Ξ × sR)}{σ:St}{H:Hp}{E : Δ -> Ω -> Prop}{s : Ω}{l q : Ξ}{ns:List Int}{Lk:Bool}{kv:Int->V}{g:Int->Int}{Q : Δ -> Ω -> Prop}
theorem AM7(I:Inv X AB σ H s)(Qh:X.calm=true)(hc:Tf X.prog X.w l ns s)(hz:ns.length<=pY)(hv:dX Lk kv g ns)(turn:dY X AB σ H X.A.in1.in1 (.ref q) kv ns)
  (h:∀(D : Ξ) (Lg:List Int) (H':Hp) (s' : Ω),Inv X AB σ (upd H' D (.lst (Lg.map V.int))) s'->AM H H'->H D=none->Lg.Perm ns->Lg.Pairwise (λx y=>Yg (g y,y) (g x,x)=false)->Q (.ref D) s'):
  p_ (model X.prog X.w) X.A (call (.builtin "sorted") [.ref l] [(ur "key",.ref q)]) Q E s:=by
 refine call_function_entry_kw kind_sorted plain_sorted entry_sorted (ksk_s1 _ _) ?_;unfold zb.«sorted»;refine c_ (m:=checkCount "sorted" 1 1 _) (pX ?_);refine c_ (hc _ _ _ (I.ok.hd Qh) λvs h' tk hi kp=>?_);have hlen:=hi.length;have I1:Inv X AB σ H {s with heap:=h',toks:=tk}:=I.kept (t':=tk) kp;refine c_ (xB ?_ (by omega));have I2:=I1.iD (seqObj "list" vs.toArray 0) rfl;have fr:H h'.objs.size=none:=I1.CC.fresh (b_ _);refine c_ (uU (wpAny_call_entry_kw slot_list_sort ⟨_,pV _ rfl,rfl⟩ entry_list_sort ?body (ksk_l1 _ _)))
 case body=>
  show p_ (model X.prog X.w) X.A.in1.in1 (zb.«list.sort» ⟨[.ref h'.objs.size],[(ur "key",.ref q)]⟩) _ _ _;rw[ksk_t1];refine APJ I2 (J5 (.refl H) fr) fr AD hz hi hv turn λLg H' s' I' Q9 p1 p2=>⟨_,rfl,?_⟩
  exact pX ⟨_,rfl,h _ Lg H' s' I' Q9 fr p1 p2⟩
end
abbrev I3:=Int×Int×Int
def XX(x y:I3):Prop:=x.1<y.1\/(x.1=y.1/\(x.2.1<y.2.1\/(x.2.1=y.2.1/\x.2.2<y.2.2)))
def bz(x:I3):List Int:=[x.1,x.2.1,x.2.2]
theorem t3n{x:I3}:¬ XX x x:=λh=>have n {i:Int}:=yF i;n ((h.resolve_left n).2.resolve_left n).2
theorem AWX(x y:I3):HT.lexLt (bz x) (bz y)=true↔XX x y:=by
 unfold bz XX;rw[HT.PN,HT.PN,HT.PN,HT.AD4];by_cases h1:x.1=y.1
 .rw[η h1];by_cases h2:x.2.1=y.2.1
  .rw[η h2];by_cases h3:x.2.2=y.2.2
   .rw[η h3];constructor
    .intro z;cases z
    .intro z;omega
   .rw[ζ h3,decide_eq_true_iff];omega
  .rw[ζ h2,decide_eq_true_iff];omega
 .rw[ζ h1,decide_eq_true_iff];omega
section
variable {X:Cx}{AB:List (Ξ × sR)}{σ:St}{H:Hp}{s : Ω}{h':qM}
end
def Z3(X:Cx)(σ:St)(H:Hp)(A:qN)(f : Δ)(kf:Int->I3)(ns:List Int):Prop:=∀(AB:List (Ξ × sR)) (n:Int) (t:xF) (H':Hp) (s' : Ω),n∈ns->Inv X AB σ H' s'->AM H H'->p_ (model X.prog X.w) A (call f [.int n t]) (λu aX=>∃b XN,Inv X AB σ XN aX/\u=.ref b/\AM H' XN/\XN b=some (.tup ((bz (kf n)).map V.int))) (λ_ _=>False) s'
theorem Va{P:pQ}{w:qt}{H:Hp}{h:qM}{b : Ξ}{ks:List Int}(CC:Ot P w H h)(hb:H b=some (.tup (ks.map V.int))):∃Bc:Array Δ,zM h b Bc/\ug Bc.toList ks:=by obtain⟨_,Bc,r,it⟩:=CC _ _ hb;refine⟨_,it,?_⟩;rw[List.toList_toArray];exact US r
where
 US:∀{ks:List Int}{us:List Δ},Vals (ks.map V.int) us->ug us ks
  |[],_,h=>by cases h;exact .nil
  |k::ks,_,h=>by
   cases h with
   |cons a r=>obtain⟨t,rfl⟩:=a;exact .cons k t (US r)
theorem AL2{P:pQ}{w:qt}{H:Hp}{h:qM}{l : Ξ}{ks:List Int}(CC:Ot P w H h)(hb:H l=some (.lst (ks.map V.int))):∃vs:List Δ,h.IsList l vs.toArray/\ug vs ks:=by obtain⟨_,Bc,n,r,e⟩:=CC _ _ hb;exact⟨Bc,⟨_,e,rfl,n,rfl⟩,Va.US r⟩
section
variable {X:Cx}{AB:List (Ξ × sR)}{σ:St}{H:Hp}{A:qN}{l q It S : Ξ}{vs:List Δ}{ns:List Int}{kf:Int->I3}{R:zu -> Ω -> Prop}{Q : Δ -> Ω -> Prop}{E : Δ -> Ω -> Prop}{s : Ω}
theorem Inv.AW2{p : Ξ × sR}(I:Inv X (AB++[p]) σ H s):Inv X AB σ H s/\s.heap.get? p.1=some p.2/\H p.1=none:=by have z:=I.pin p (p9 _ (p9 _ (i_.mpr rfl)));exact⟨I.VC λq hq=>I.pin q (p9 _ (qT _ hq)),z.1,z.2.1⟩
theorem Inv.AYV{p : Ξ × sR}(I:Inv X AB σ H s)(f:Ri X AB H p.1)(h:s.heap.get? p.1=some p.2)(d:∀v,p.2.data≠.cell v):Inv X (AB++[p]) σ H s:=I.VC λq hq=>(pT.mp hq).elim (λz=>I.pin q (p9 _ z)) λz=>by rw[i_.mp z];exact⟨h,f.1,f.2.1,f.2.2.1,d⟩
theorem ANv{oI:sR}{f : Δ}{H1:Hp}{s : Ω}{n:Int}{t:xF}(turn:Z3 X σ H A f kf ns)(hn:n∈ns)(I:Inv X AB σ H1 s)(sH:AM H H1)(fp:Ri X AB H1 It)(gI:s.heap.get? It=some oI)(hd:∀v,oI.data≠.cell v){Q : Δ -> Ω -> Prop}
  (h:∀b H2 s2,Inv X AB σ H2 s2->AM H1 H2->Ri X AB H2 It->s2.heap.get? It=some oI->H2 b=some (.tup ((bz (kf n)).map V.int))->Q (.ref b) s2):p_ (model X.prog X.w) A (call f [.int n t]) Q E s:=by
 refine rQ (turn (AB++[(It,oI)]) n t H1 s hn (I.AYV (p:=(It,oI)) fp gI hd) sH) (λu s2 he=>?_) λ_ _ z=>z.elim;obtain⟨b,H2,I2,rfl,T7,hb⟩:=he;obtain⟨I3,g3,n3⟩:=I2.AW2;exact h b H2 s2 I3 T7 ⟨n3,fp.2⟩ g3 hb
theorem ARV(hh:A.handled=none)(hu:A.in1.units<cLine)(hl:∀H' s',Inv X AB σ H' s'->AM H H'->∃vs:List Δ,s'.heap.IsList l vs.toArray/\ug vs ns)(ig:S≠It)(kM:l≠It)(jV:H S=none)
  (turn:Z3 X σ H A.in1 (.ref q) kf ns)
  (hR:∀(n:Int) (t:xF) (H':Hp) (s' : Ω),n∈ns->(∀m∈ns,¬ XX (kf m) (kf n))->Inv X AB σ H' s'->AM H H'->R (.ok (.ret (.int n t))) s'):
  ∀(r j:Nat) (H1:Hp) (s : Ω) (nb:Int) (tb:xF) (kb : Ξ) (c:Nat),ns.length-(j+1)=r->j+1<=ns.length->Inv X AB σ H1 s->AM H H1 ->
   H1 S=some (G4 S (seqObj "list" #[.int nb tb,.ref kb] c))->Ri X AB H1 It->s.heap.IsListIter It l (j+1) ->
   H1 kb=some (.tup ((bz (kf nb)).map V.int))->nb∈ns->(∀m∈ns.take (j+1),¬ XX (kf m) (kf nb)) ->
   codeAny (model X.prog X.w) A (.builtin "min.loop" ⟨[.ref It,.ref q,.ref S],[]⟩) R s:=by
 have Yw:(toString "min" ++ toString ".loop" : String) = "min.loop":=by decide
 intro r
 induction r with
 |zero=>
  intro j H1 s nb tb kb c hr hj I sH hS fp hit hkb hnb hbest;obtain⟨vs,kD,hi⟩:=hl _ _ I sH;have W:=xH (prog:=X.prog) (w:=X.w) (A:=A.in1) hh It l kM vs.toArray;have hlen:=hi.length;have hsz:vs.toArray.size=ns.length:=by rw[pZ];exact hlen
  have bE:j+1=ns.length:=by omega
  have gS:=I.UU hS;refine vz vP ?_;rw[vd su _];show p_ _ A.in1 (seqItems? (.ref S) >>= _) _ _ _;refine c_ (yb gS rfl ?_);show p_ _ A.in1 (tryCatch (pyNext (.ref It)) _ >>= _) _ _ _;refine c_ (uZ (W.done _ _ _ ⟨by rw[hsz,<-bE];exact hit,kD⟩ λh' jH bD=>?_));have I1:Inv X AB σ H1 {s with heap:=h',toks:=jH}:=I.turned (λb o n e=>bD b o (by simpa using n) e) fp.1 fp.2.1 fp.2.2.2.1 fp.2.2.2.2.1 fp.2.2.2.2.2;have gS':=I1.UU hS;have s1:=rP h' S (qS λ_=>(#[]:Array Δ));obtain⟨c1,gR⟩:∃c,(h'.update S (qS λ_=>(#[]:Array Δ))).get? S=some (seqObj "list" #[] c):=⟨_,um gS' λ_=>#[]⟩
  have I2:=I1.ZP (t':=jH) hS s1 gR;show p_ _ A.in1 (updateSeq S (λ_=>#[]) >>= _) _ _ _;refine c_ ?_;refine wF gS' rfl (c_ (xg (pX ?_)));exact hR nb tb _ _ hnb (λm hm=>hbest m (by rw[bE,qL];exact hm)) I2 (J5 sH jV)
 |succ r ih=>
  intro j H1 s nb tb kb c hr hj I sH hS fp hit hkb hnb hbest;obtain⟨vs,kD,hi⟩:=hl _ _ I sH;have W:=xH (prog:=X.prog) (w:=X.w) (A:=A.in1) hh It l kM vs.toArray;have hlen:=hi.length;have hsz:vs.toArray.size=ns.length:=by rw[pZ];exact hlen
  have Na:j+1<ns.length:=by omega
  have gS:=I.UU hS;refine vz vP ?_;rw[vd su _];show p_ _ A.in1 (seqItems? (.ref S) >>= _) _ _ _;refine c_ (yb gS rfl ?_);show p_ _ A.in1 (tryCatch (pyNext (.ref It)) _ >>= _) _ _ _;refine c_ (uZ (W.item (j+1) _ _ _ (by rw[hsz];exact Na) ⟨hit,kD⟩ λv h' jH hP iJ bD=>?_));have hv:vs[j+1]?=some v:=by simpa using hP
  obtain⟨n,hn⟩:∃n,ns[j+1]?=some n:=⟨_,n_ Na⟩
  obtain⟨t,ht⟩:=hi.get _ n hn;rw[ht] at hv;cases hv;have kH:n∈ns:=qQ hn;have I1:Inv X AB σ H1 {s with heap:=h',toks:=jH}:=I.turned (λb o n e=>bD b o (by simpa using n) e) fp.1 fp.2.1 fp.2.2.2.1 fp.2.2.2.2.1 fp.2.2.2.2.2;obtain⟨lM,iR,iQ,Yj⟩:=id iJ.1;show p_ _ A.in1 (tryCatch (holding [rF n t] (call (.ref q) [rF n t])) _ >>= _) _ _ _;refine c_ (uZ (uU (ANv turn kH I1 sH fp iR (λv z=>by rw[Yj] at z;cases z) λb H2 s2 I2 T7 eX g2 hb=>?_)));have gT:=T7 _ _ hS;have AWi:=T7 _ _ hkb;have gS2:=I2.UU gT;obtain⟨it1,u1,u2⟩:=Va I2.CC hb;obtain⟨it2,w1,w2⟩:=Va I2.CC AWi;have AXx:s2.heap.IsListIter It l (j+1+1):=⟨lM,g2,iQ,Yj⟩
  show p_ _ A.in1 (tryCatch (holding [rF n t,.ref b] (richCompare .Lt (.ref b) (.ref kb) >>= _)) _ >>= _) _ _ _;refine c_ (uZ (uU (c_ (show p_ _ A.in1 (richCompare .Lt (.ref b) (.ref kb)) _ _ _ from HT.ANR u1 w1 u2 w2 hu ?_))));refine c_ (uU (rR ?_));refine c_ (xg (pX ?_));have tk2:ns.take (j+1+1)=ns.take (j+1)++[n]:=by rw[xw,hn];rfl
  by_cases Jg:XX (kf n) (kf nb)
  .have s1:=rP s2.heap S (qS λ_=>#[rF n t,.ref b]);obtain⟨c2,aG⟩:∃c2,(s2.heap.update S (qS λ_=>#[rF n t,.ref b])).get? S=some (seqObj "list" #[rF n t,.ref b] c2):=⟨_,um gS2 λ_=>#[rF n t,.ref b]⟩
   have I3:=I2.ZP (t':=s2.toks) gT s1 aG;simp only[(AWX _ _).mpr Jg,if_true];refine c_ ?_;refine wF gS2 rfl (c_ (xg ?_));rw[Yw];refine pX ⟨xC su _,ih (j+1) _ _ n t b c2 (by omega) Na I3 (J5 (sH.trans T7) jV) AD ⟨by rw[AH ig.symm];exact eX.1,eX.2⟩ ⟨lM,(s1.2 It ig.symm).trans g2,iQ,Yj⟩ (by rw[AH (λz=>by rw[z,gT] at hb;cases hb)];exact hb) kH λm hm=>?_⟩;rw[tk2] at hm;rcases pT.mp hm with hm|hm
   .exact λz=>hbest m hm (Lx.tr wW z Jg λx y=>Lx.tr wW x y wW)
   .rw[i_.mp hm];exact t3n
  .have e0:HT.lexLt (bz (kf n)) (bz (kf nb))=false:=by rw[<-Bool.not_eq_true,AWX];exact Jg
   simp only[e0,uR,if_false];refine c_ (xg ?_);rw[Yw];refine pX ⟨xC su _,ih (j+1) _ _ nb tb kb c (by omega) Na I2 (sH.trans T7) gT eX AXx AWi hnb λm hm=>?_⟩;rw[tk2] at hm;rcases pT.mp hm with hm|hm
   .exact hbest m hm
   .rw[i_.mp hm];exact Jg
theorem ATN{l q : Ξ}(I:Inv X AB σ H s)(Qh:X.calm=true)(hu:X.A.in1.units<cLine)(hH:H l=some (.lst (ns.map V.int)))(Yl:0<ns.length)(turn:Z3 X σ H X.A.in1 (.ref q) kf ns)
  (hQ:∀(n:Int) (t:xF) (H':Hp) (s' : Ω),n∈ns->(∀m∈ns,¬ XX (kf m) (kf n))->Inv X AB σ H' s'->AM H H'->Q (.int n t) s'):
  p_ (model X.prog X.w) X.A (call (.builtin "min") [.ref l] [(ur "key",.ref q)]) Q E s:=by
 have Yw:(toString "min" ++ toString ".loop" : String) = "min.loop":=by decide
 have hh:=I.ok.hd Qh;have hl:∀H' s',Inv X AB σ H' s'->AM H H'->∃vs:List Δ,s'.heap.IsList l vs.toArray/\ug vs ns:=λH' s' I' Q9=>AL2 I'.CC (Q9 _ _ hH);obtain⟨vs,kL,hi⟩:=hl _ _ I (.refl H);have hlen:=hi.length;obtain⟨ol,hol,_⟩:=id kL;have hll:l<s.heap.objs.size:=qu hol;refine kmk_tree PySem.F.kind_min PySem.F.plain_min PySem.F.entry_min (kmk_min_key _ _) ?_;show p_ _ X.A.in1 (Builtin.Builtins.bindParams "min" ["key","default"] 0 ⟨[],[(ur "key",.ref q)]⟩ >>= _) _ _ s;refine c_ (wpAny_of_eq (show Builtin.Builtins.bindParams "min" ["key","default"] 0 ⟨[],[(ur "key",.ref q)]⟩=pure [some (.ref q),none] from rfl) ?_);refine c_ (pX ?_);refine c_ (w_ kL ?_);refine c_ (xB ?_ (qG _));rw[Yw];generalize hI0:({cls:=.type "list_iterator",data:=.fields #[.ref l,.int 0 0]}:sR)=oI0;have hS:(s.heap.push oI0).objs.size=s.heap.objs.size+1:=size_push' ..;have kM:l≠s.heap.objs.size:=qK hll;have ig:(s.heap.push oI0).objs.size≠s.heap.objs.size:=by rw[hS];exact xR (tG _)
 have hnI:H s.heap.objs.size=none:=I.CC.fresh (b_ _);have fp0:Ri X AB H s.heap.objs.size:=I.bJ (b_ _) hnI;have I1:Inv X AB σ H {s with heap:=s.heap.push oI0}:=I.kept (t':=s.toks) λb o e=>pq _ e;have I2:=I1.iD (seqObj "list" #[] 0) rfl;have jV:H (s.heap.push oI0).objs.size=none:=I1.CC.fresh (b_ _);refine pX ⟨xC su _,?_⟩;have fr:oI0.isFreed=false:=by rw[<-hI0];rfl
 have gI:((s.heap.push oI0).push (seqObj "list" #[] 0)).get? s.heap.objs.size=some oI0:=pq _ (pV _ fr);have gS:((s.heap.push oI0).push (seqObj "list" #[] 0)).get? (s.heap.push oI0).objs.size=some (seqObj "list" #[] 0):=pV _ rfl;have eX:Ri X AB (upd H (s.heap.push oI0).objs.size (G4 (s.heap.push oI0).objs.size (seqObj "list" #[] 0))) s.heap.objs.size:=⟨by rw[AH ig.symm];exact hnI,fp0.2⟩
 have dz:AM H (upd H (s.heap.push oI0).objs.size (G4 (s.heap.push oI0).objs.size (seqObj "list" #[] 0))):=J5 (.refl H) jV;generalize hSe:(s.heap.push oI0).objs.size=S at *;generalize hIe:s.heap.objs.size=It at *;obtain⟨mY,kD,hi2⟩:=hl _ _ I2 dz;have AWg:=hi2.length;have W:=xH (prog:=X.prog) (w:=X.w) (A:=X.A.in1) hh It l kM mY.toArray;have hsz:mY.toArray.size=ns.length:=by rw[pZ];exact AWg
 refine vz vP ?_;rw[vd su _];show p_ _ X.A.in1 (seqItems? (.ref _) >>= _) _ _ _;refine c_ (yb gS rfl ?_);show p_ _ X.A.in1 (tryCatch (pyNext (.ref It)) _ >>= _) _ _ _;refine c_ (uZ (W.item 0 _ _ _ (by rw[hsz];exact Yl) ⟨⟨_,gI,by rw[<-hI0],by rw[<-hI0];rfl⟩,kD⟩ λv h' jH hP iJ bD=>?_));have hv:mY[0]?=some v:=by simpa using hP
 obtain⟨n,hn⟩:∃n,ns[0]?=some n:=⟨_,n_ Yl⟩
 obtain⟨t,ht⟩:=hi2.get _ n hn;rw[ht] at hv;cases hv;have kH:n∈ns:=qQ hn;have I3:=I2.turned (h':=h') (t':=jH) (λb o n e=>bD b o (by simpa using n) e) eX.1 eX.2.1 eX.2.2.2.1 eX.2.2.2.2.1 eX.2.2.2.2.2;obtain⟨lM,iR,iQ,Yj⟩:=id iJ.1;show p_ _ X.A.in1 (tryCatch (holding [rF n t] (call (.ref q) [rF n t])) _ >>= _) _ _ _;refine c_ (uZ (uU (ANv turn kH I3 dz eX iR (λv z=>by rw[Yj] at z;cases z) λb H4 s4 I4 f7 fp4 g4 hb=>?_)));have oU:=f7 _ _ (AD (H:=H) (a:=S) (o:=G4 S (seqObj "list" #[] 0)));have gS4:=I4.UU oU;have s1:=rP s4.heap S (qS λ_=>#[rF n t,.ref b]);obtain⟨c2,aG⟩:∃c2,(s4.heap.update S (qS λ_=>#[rF n t,.ref b])).get? S=some (seqObj "list" #[rF n t,.ref b] c2):=⟨_,um gS4 λ_=>#[rF n t,.ref b]⟩
 have I5:=I4.ZP (t':=s4.toks) oU s1 aG;show p_ _ X.A.in1 (updateSeq S (λ_=>#[rF n t,.ref b]) >>= _) _ _ _;refine c_ ?_;refine wF gS4 rfl ?_;rw[Yw];refine pX ⟨xC su _,ARV hh hu hl ig kM jV turn hQ _ 0 _ _ n t b c2 rfl Yl I5 (J5 (dz.trans f7) jV) AD ⟨by rw[AH ig.symm];exact fp4.1,fp4.2⟩ ⟨lM,(s1.2 It ig.symm).trans g4,iQ,Yj⟩ (by rw[AH (λz=>by rw[z,oU] at hb;cases hb)];exact hb) kH λm hm=>?_⟩;rw[xw,hn,List.take_zero] at hm;rw[i_.mp hm];exact t3n
end
section
variable {X:Cx}{AB:List (Ξ × sR)}{σ:St}{H:Hp}{s : Ω}{l : Ξ}{ns:List Int}
theorem AI4(I:Inv X AB σ H s)(hl:H l=some (.lst (ns.map V.int)))(hz:ns.length<=pY):Tf X.prog X.w l ns s:=λA E Q _ h=>by obtain⟨vs,hv,hi⟩:=AL2 I.CC hl;have hlen:=hi.length;refine collect_list hv (h vs _ s.toks hi λb o e=>?_) (by omega);have hb:b≠s.heap.objs.size:=qK (qu e);rw[Heap.get?_update_ne _ _ _ _ hb,Heap.get?_push_ne _ _ _ hb];exact e
def AXI(P:pQ)(w:qt)(vs:List (Key × Δ))(s : Ω)(r:zu)(s' : Ω):Prop:=∃h' tk Uy c',r=.ok (.ret (.ref s.heap.objs.size))/\s'={s with heap:=h',toks:=tk}/\(∀b o,b≠s.heap.objs.size->(s.heap.push (seqObj "list" #[] 0)).get? b=some o->h'.get? b=some o)/\h'.get? s.heap.objs.size=some {cls:=.type "list",dict:=none,data:=.seq Uy c',slots:=#[]}/\ItemsOf (λi v=>∃k x,vs[i]?=some (k,x)/\(BN P w).is k v=true) Uy vs.length
theorem AI5{kvs:List (Key×V)}(I:Inv X AB σ H s)(hl:H l=some (.dK kvs))(hk:kvs.map (·.1)=ns.map pS):Tf X.prog X.w l ns s:=λA E Q hh h=>by
 obtain⟨z,hs,vs,rel,dd⟩:=Qj I.CC (Rd.of hl);obtain⟨ep,jZ⟩:=dd.dictAt;have hlen:kvs.length=vs.length:=rq rel;unfold collect;refine c_ (wpAny_runValue (vz entry_proto_collect' ?_));show p_ _ _ (do again (.builtin "list.__iadd__" ⟨[<-newList [],.ref l],[]⟩)) _ _ s;have Na:l<s.heap.objs.size:=jZ.lt_size;refine c_ (xB (pX ⟨Code.quiet_builtin _ (by decide +kernel),vN (R:=AXI X.prog X.w vs s) (vz entry_list_iadd' ?_) ?_⟩))
 .rw[vd (show plainId "list.__iadd__" = true by decide +kernel) _];exact PySem.W.kdl_extend (R:=AXI X.prog X.w vs s) (s:={s with heap:=s.heap.push (seqObj "list" #[] 0)}) (PySem.W.kdl_dict (knd:=BN X.prog X.w) (kvs:=vs) (ep:=ep) hs) hh (jZ.push _) s.heap.objs.size (xR Na) (xR Na) (.ref s.heap.objs.size) 0 (pV _ rfl) (λh' tk Uy c' kp fW it=>⟨h',tk,Uy,c',rfl,rfl,kp,fW,it⟩) (by rw[<-hlen];exact z)
 rintro r s' ⟨h',tk,Uy,c',rfl,rfl,kp,fW,it⟩;show p_ _ _ (do
   let o <-load s.heap.objs.size
   match o.data with
   |.seq xs _=>pure xs.toList
   |_=>unsupported "internal:collect") _ _ _
 refine c_ (wpAny_load fW ?_);refine pX (h _ h' tk ?_ λb o e=>kp b o (qK (qu e)) (pq _ e));have key:∀(vs:List (Key × Δ)) (ns:List Int) (us:List Δ),vs.map (·.1)=ns.map pS->us.length=vs.length->(∀(j:Nat) (v : Δ),us[j]?=some v->∃k x,vs[j]?=some (k,x)/\(BN X.prog X.w).is k v=true)->ug us ns:=by
  intro vs
  induction vs with
  |nil=>
   intro ns us hk hl _;cases ns with
   |nil=>
    cases us with
    |nil=>exact .nil
    |cons u us=>simp at hl
   |cons n ns=>simp at hk
  |cons q vs ih=>
   intro ns us hk hl hv;cases ns with
   |nil=>simp at hk
   |cons n ns=>
    cases us with
    |nil=>simp at hl
    |cons u us=>rw[k_,k_] at hk;injection hk with hk1 hk2;obtain⟨k,x,e1,e2⟩:=hv 0 u rfl;rw[rW] at e1;cases e1;have AXw:k=pS n:=hk1;subst AXw;have hu:∃t,u=.int n t:=ATM e2;obtain⟨t,rfl⟩:=hu;exact .cons n t (ih ns us hk2 (by simpa using hl) λj v e=>by simpa using hv (j+1) v (by simpa using e))
 refine key vs ns Uy.toList ?_ (by rw[qw];exact it.1) λj v e=>it.2 j v (by rw[<-v9];exact e);rw[<-hk];clear key it fW kp h hlen jZ dd hs z hl hk;unfold KV at rel
 induction rel with
 |nil=>rfl
 |cons a r ih=>rw[k_,k_,ih,a.1]
where
 ATM {prog:pQ}{w:qt}{n:Int}{u : Δ}(h:(BN prog w).is (pS n) u=true):∃t,u=.int n t:=by
  rw[ANN] at h;rcases Dj h with⟨i,t,e,rfl⟩|⟨x,t,e,rfl⟩
  .cases e;exact⟨t,rfl⟩
  .cases e
end
def jb(c : Ξ)(qual:qf):HO:=.ext (λh=>h.CodeRec (.ref c) qual)
def Y4(H:Hp)(P : Ξ)(pos:Pos)(qual:qf)(c : Ξ):Prop:=H P=some (.P1 #[rawInt pos.line,rawInt pos.col,.ref c])/\H c=some (jb c qual)
def Hg(H:Hp)(P : Ξ)(pos:Pos)(qual:qf):Prop:=H P=some (.P1 #[])\/∃c,Y4 H P pos qual c
theorem Hg.P1{H:Hp}{P : Ξ}{pos:Pos}{qual:qf}(h:Hg H P pos qual):∃ps,H P=some (.P1 ps):=by
 rcases h with h|⟨c,h,_⟩
 .exact⟨_,h⟩
 .exact⟨_,h⟩
theorem Hg.same{H H':Hp}{P : Ξ}{pos:Pos}{qual:qf}(h:Hg H P pos qual)(s:AM H H'):Hg H' P pos qual:=by
 rcases h with h|⟨c,h1,h2⟩
 .exact .inl (s _ _ h)
 .exact .inr ⟨c,s _ _ h1,s _ _ h2⟩
theorem Y4.same{H H':Hp}{P : Ξ}{pos:Pos}{qual:qf}{c : Ξ}(h:Y4 H P pos qual c)(s:AM H H'):Y4 H' P pos qual c:=⟨s _ _ h.1,s _ _ h.2⟩
theorem AVi{P:pQ}{w:qt}{H:Hp}{h:qM}{c : Ξ}{qual:qf}(CC:Ot P w H h)(e:H c=some (jb c qual)):h.CodeRec (.ref c) qual:=(CC _ _ e).1
theorem AW5{P:pQ}{w:qt}{H:Hp}{h:qM}{c : Ξ}{qual:qf}(r:h.CodeRec (.ref c) qual):Fe P w H h c (jb c qual):=by obtain⟨c2,o,vs,t,e1,e2,e3,e4⟩:=id r;cases e1;exact⟨r,⟨o,e2⟩,λh1 h2 ⟨c3,o3,vs3,t3,f1,f2,f3,f4⟩ k=>by cases f1;exact⟨_,o3,vs3,t3,rfl,k _ f2,f3,f4⟩⟩
section
variable {X:Cx}{AB:List (Ξ × sR)}{σ:St}{H:Hp}{s : Ω}{E : Δ -> Ω -> Prop}{params:wk}{body:qU}{scope:ua}{pos:Pos}{c P : Ξ}{Ko:List (qf × Ξ)}{Q : Δ -> Ω -> Prop}
theorem Inv.bAt(I:Inv X AB σ H s){ps:Array Δ}(hP:H P=some (.P1 ps)):s.heap.BuiltinsAt X.mg P/\h_≠P:=by
 obtain⟨bm,ob,b1,b2,b3,b4,b5,b6⟩:=I.mod.bmain;have hbP:bm≠P:=λz=>by have:=(I.bs _ _ b3).2;rw[z,hP] at this;cases this
 obtain⟨o,es,ep,e,hd,_⟩:=id I.mod.glob;refine⟨⟨bm,ob,b1,b2,λz=>?_,hbP,I.bk _ _ b3,b4,b5,b6⟩,λz=>?_⟩
 .rw[z,e] at b3;cases b3;rw[hd] at b6;cases b6
 .have:=(I.bs _ _ e).2;rw[z,hP] at this;cases this
theorem AVF(I:Inv X AB σ H s)(Ur:X.env.code=.ref c)(iX:tF X.K c P=true)(AX8:defaultsOf params X.env=([],[]))(aF:closureFor scope X.env=pure Ko)(tb:Hg H P pos (X.env.qual ++ "<lambda>"))
  (h:∀f c' Qn pm H' s',Inv X AB σ H' s'->Ae P H H'->H f=none->H' f=some (G4 f (qZ "<lambda>" (X.env.qual ++ "<lambda>") params body scope Ko pm c' Qn))->Y4 H' P pos (X.env.qual ++ "<lambda>") c'->Q (.ref f) s'):
  p_ (model X.prog X.w) X.A (eval (.Lambda params body scope pos) X.env) Q E s:=by
 have C:PySem.W.CodeHd s.heap c P:=PySem.W.codeHd_of_K I.YF iX;have hg:=I.mod.glob.keeps I.bk;refine PySem.W.kla_eval AX8 ?_;rcases tb with hP|⟨c',hP,mC⟩
 .obtain⟨bA,nG⟩:=I.bAt hP;have gP:s.heap.get? P=some (w4 #[]):=I.CC _ _ hP;refine PySem.W.kla_makeFunction (mg:=X.mg) aF I.ok.glob hg Ur C gP (by trivial) rfl nG bA λc' Qn h' tk hx jW Na AXn htb=>?_;have keep:∀b o,b≠P->s.heap.get? b=some o->(h'.push (qZ "<lambda>" (X.env.qual ++ "<lambda>") params body scope Ko ((X.mg "__name__").getD .none) c' Qn)).get? b=some o:=λb o n e=>pq _ (hx b o n e);have szP:s.heap.objs.size<=h'.objs.size:=a_ jW (tN Na);have fc:H c'=none:=I.CC.fresh jW;have ff:H h'.objs.size=none:=I.CC.fresh szP;have ncP:c'≠P:=λz=>by rw[z,hP] at fc;cases fc
  have nfP:h'.objs.size≠P:=λz=>by rw[z,hP] at ff;cases ff
  have ncf:c'≠h'.objs.size:=qK Na;generalize hH':upd (upd (upd H P (.P1 (#[] ++ #[rawInt pos.line,rawInt pos.col,.ref c']))) c' (jb c' (X.env.qual ++ "<lambda>"))) h'.objs.size (G4 h'.objs.size (qZ "<lambda>" (X.env.qual ++ "<lambda>") params body scope Ko ((X.mg "__name__").getD .none) c' Qn))=H';have e1:H' P=some (.P1 (#[] ++ #[rawInt pos.line,rawInt pos.col,.ref c'])):=by rw[<-hH',AH nfP.symm,AH ncP.symm,AD]
  have e2:H' c'=some (jb c' (X.env.qual ++ "<lambda>")):=by rw[<-hH',AH ncf,AD]
  have e3:H' h'.objs.size=some (G4 h'.objs.size (qZ "<lambda>" (X.env.qual ++ "<lambda>") params body scope Ko ((X.mg "__name__").getD .none) c' Qn)):=by rw[<-hH',AD]
  have e4:∀b,b≠P->b≠c'->b≠h'.objs.size->H' b=H b:=λb n1 n2 n3=>by rw[<-hH',AH n3,AH n2,AH n1]
  have sx:Ae P H H':=λb o n e=>by rw[e4 b n (AO e fc) (AO e ff)];exact e
  have gP':(h'.push (qZ "<lambda>" (X.env.qual ++ "<lambda>") params body scope Ko ((X.mg "__name__").getD .none) c' Qn)).get? P=some (w4 (#[] ++ #[rawInt pos.line,rawInt pos.col,.ref c'])):=pq _ htb;have un:Un X.fs [] H H' s.heap (h'.push (qZ "<lambda>" (X.env.qual ++ "<lambda>") params body scope Ko ((X.mg "__name__").getD .none) c' Qn)):=by
   have nQ:∀b,H b=none->b≠P:=λb n z=>by rw[z,hP] at n;cases n
   refine⟨λb o e n _ _=>keep b o (nQ b n) e,λb o e n _ _=>⟨o.slots,keep b o (nQ b n) e⟩,λb o e n _=>?_,λb o e _=>?_,λb xs e=>?_,λb o u e=>?_,λb ps e=>?_⟩
   .rw[e4 b (nQ b n) (qK (p8 (qu e) jW)) (qK (p8 (qu e) szP))];exact n
   .by_cases z:b=P
    .rw[z];exact⟨_,gP'⟩
    .exact⟨o,keep b o z e⟩
   .exact sx b _ (λz=>by rw[z,hP] at e;cases e) e
   .exact sx b _ (λz=>by rw[z,hP] at e;cases e) e
   .by_cases z:b=P
    .rw[z,hP] at e;cases e;exact⟨_,by rw[z];exact e1⟩
    .exact⟨#[],by rw[sx b _ z e];simp⟩
  have CC:Ot X.prog X.w H' (h'.push (qZ "<lambda>" (X.env.qual ++ "<lambda>") params body scope Ko ((X.mg "__name__").getD .none) c' Qn)):=λb u e=>by
   by_cases z1:b=P
   .rw[z1] at e ⊢;rw[e1] at e;cases e;exact gP'
   by_cases z2:b=c'
   .rw[z2] at e ⊢;rw[e2] at e;cases e;exact AW5 (AI6 AXn λb o q=>pq _ q)
   by_cases z3:b=h'.objs.size
   .rw[z3] at e ⊢;rw[e3] at e;cases e;exact VO (pV _ rfl)
   rw[e4 b z1 z2 z3] at e;refine(I.CC b u e).Ws (λd v hd q=>keep d v (λz=>?_) q) (λd q=>sx d _ (λz=>by rw[z,hP] at q;cases q) q) λd xs q=>sx d _ (λz=>by rw[z,hP] at q;cases q) q;rcases hd with rfl|hd
   .exact z1 z
   .rw[z,hP] at hd;cases hd
  have I':=I.un (t':=tk) un CC;refine h _ c' Qn _ H' _ I' sx ff e3 ⟨?_,e2⟩;rw[e1];rfl
 .obtain⟨bA,nG⟩:=I.bAt hP;have gP:s.heap.get? P=some (w4 #[rawInt pos.line,rawInt pos.col,.ref c']):=I.CC _ _ hP;refine PySem.W.kla_makeFunctionHit (mg:=X.mg) (cv:=.ref c') aF I.ok.glob hg Ur C gP ?_ ?_ bA λQn h' tk hk hsz=>?_
  .trivial
  .simp[codeAmong,rawInt]
  .have ff:H h'.objs.size=none:=I.CC.fresh hsz;have I':=I.laid (a:=h'.objs.size) (t':=tk) (h':=h'.push (qZ "<lambda>" (X.env.qual ++ "<lambda>") params body scope Ko ((X.mg "__name__").getD .none) c' Qn)) (o:=G4 h'.objs.size (qZ "<lambda>" (X.env.qual ++ "<lambda>") params body scope Ko ((X.mg "__name__").getD .none) c' Qn)) (λb u q=>pq _ (hk _ _ q)) hsz (VO (pV _ rfl));have sm:AM H (upd H h'.objs.size (G4 h'.objs.size (qZ "<lambda>" (X.env.qual ++ "<lambda>") params body scope Ko ((X.mg "__name__").getD .none) c' Qn))):=J5 (.refl H) ff;exact h _ c' Qn _ _ _ I' (λb o _ e=>sm b o e) ff AD ⟨sm _ _ hP,sm _ _ mC⟩
where
 AI6 {h h':qM}{v : Δ}{q:qf}(r:h.CodeRec v q) (k:∀b o,h.get? b=some o->h'.get? b=some o):h'.CodeRec v q:=by obtain⟨c,o,vs,t,f1,f2,f3,f4⟩:=r;exact⟨c,o,vs,t,f1,k _ _ f2,f3,f4⟩
end
structure aM(X:Cx)(params:wk)(body:qU)(scope:ua)(p:qf)(fr:List (qf×Nat))(Ko:List (qf × Ξ))(k:Nat)(t:TE):Prop where
 sc:AMf scope p (fr.map (·.1))
 bind:∀name qual cl pm cd Qn u,bindArgs (PySem.W.kla_fn name qual params body scope cl pm cd Qn) ⟨[u],[]⟩=pure [(p,u)]
 AYO:defaultsOf params X.env=([],[])
 clo:closureFor scope X.env=pure Ko
 sub:∀x c,Ko.lookup x=some c->X.env.cells.lookup x=some c
 has:∀q∈fr,(∃c,Ko.lookup q.1=some c)/\X.N[q.2]?=some q.1/\X.env.kindOf q.1=some .cell/\scope.names.lookup q.1=some .free
 run:∀(f c' : Ξ) (A:qN) (AR:List yx) (s : Ω) (H:Hp),EI k (A.deeper (wQ (X.env.qual ++ "<lambda>") scope s.heap.objs.size f (.ref c') Ko))->PE (Y3 X.prog X.w X.K X.mg X.AG (p::fr.map (·.1)) (X.env.qual ++ "<lambda>") scope f (.ref c') Ko A AR s H) body t
def Ro(fr:List (qf×Nat))(σ:St)(v:V):St:=some v::fr.map λq=>(σ[q.2]?).join
section
variable {X:Cx}{AB:List (Ξ × sR)}{σ:St}{H:Hp}{s : Ω}{E : Δ -> Ω -> Prop}{params:wk}{body:qU}{scope:ua}{p:qf}{fr:List (qf×Nat)}{Ko:List (qf × Ξ)}{k:Nat}{t:TE}
theorem AL6{A':qN}{f c' : Ξ}{Qn pm u : Δ}{v:V}{Q:VK}(L:aM X params body scope p fr Ko k t)(I:Inv X AB σ H s)(e0:Uz X.prog X.w X.K X.mg X.AG A' X.stack s H)(hr:EI (k+1) A')
  (hf:H f=some (G4 f (qZ "<lambda>" (X.env.qual ++ "<lambda>") params body scope Ko pm c' Qn))) (hc:H c'=some (jb c' (X.env.qual ++ "<lambda>"))) (rv:RelV v u) (ht:t (Ro fr σ v) H Q):
  p_ (model X.prog X.w) A' (call (.ref f) [u]) (EP X AB σ Q) E s:=by
 refine zc (vN (ATX (N:=p::fr.map (·.1)) (σ:=Ro fr σ v) e0 hr.hd hr.depth L.sc (I.UU hf) (AVi I.CC hc) (L.bind _ _ _ _ _ _ _) (λx hx=>?_) (λx y c e1 e2=>I.ok.inj x y c (L.sub _ _ e1) (L.sub _ _ e2)) (λx c e=>⟨I.cell x c (L.sub _ _ e),I.Nb x c (L.sub _ _ e)⟩) ?_ (λi x w h1 h2=>?_) (L.run f c' A' X.stack s H (hr.deeper _)) ht) λr s' hq=>?_)
 .obtain⟨q,hq,rfl⟩:=Θ.mp hx;exact(L.has q hq).1
 .unfold Ro;rw[o_,o_,χ,χ]
 .cases i with
  |zero=>left;rw[rW] at h1;unfold Ro at h2;rw[rW] at h2;cases h1;cases h2;exact⟨rfl,rv⟩
  |succ i=>
   right;rw[tW,m_] at h1;unfold Ro at h2;rw[tW,m_] at h2;cases hq:fr[i]? with
   |none=>rw[hq] at h1;cases h1
   |some q=>
    rw[hq] at h1 h2;cases h1;obtain⟨⟨c,gR⟩,hN,hk,gO⟩:=L.has q (qQ hq);have kW:σ[q.2]?=some (some w):=by
     cases hs:σ[q.2]? with
     |none=>rw[show(Option.map (λq:qf×Nat=>(σ[q.2]?).join) (some q))=some (σ[q.2]?).join from rfl,hs] at h2;cases h2
     |some o=>rw[show(Option.map (λq:qf×Nat=>(σ[q.2]?).join) (some q))=some (σ[q.2]?).join from rfl,hs] at h2;have:o=some w:=j_ h2;rw[this]
    obtain⟨m,hn,hl⟩:=I.loc;obtain⟨y,r,lk⟩:=hl q.2 q.1 w hN kW (.inr (.inl hk));refine⟨gO,c,y,gR,?_,r⟩;rcases lk with⟨k1,_⟩|⟨_,c2,e2,z⟩
    .rw[hk] at k1;cases k1
    .have:=L.sub _ _ gR;rw[e2] at this;cases this;exact z
 .cases r with
  |error e=>exact rL hq
  |ok fl=>
   cases fl with
   |ret u=>exact I.after hq
   |next=>exact rL hq
   |brk=>exact rL hq
   |cont=>exact rL hq
end
def AXM(P : Ξ)(pos:Pos)(qual:qf)(params:wk)(body:qU)(scope:ua)(Ko:List (qf × Ξ)):TE:=λ_ H Q=>Hg H P pos qual /\
 ∀f c' Qn pm H',Ae P H H'->H f=none->H' f=some (G4 f (qZ "<lambda>" qual params body scope Ko pm c' Qn))->Y4 H' P pos qual c'->Q (.ref f) H'
def Src(H:Hp)(l : Ξ)(ns:List Int):Prop:=H l=some (.lst (ns.map V.int))\/∃kvs,H l=some (.dK kvs)/\kvs.map (·.1)=ns.map pS
def AUV(P : Ξ)(pos:Pos)(qual:qf)(fr:List (qf×Nat))(t:TE)(σ:St)(Q:VK)(x:V)(H1:Hp):Prop:=∃(l : Ξ) (ns:List Int) (Lk:Bool) (kv:Int->V) (g:Int->Int),x=.ref l/\Src H1 l ns/\Hg H1 P pos qual/\ns.length<=1000/\dX Lk kv g ns /\
 (∀n∈ns,∀H',Ae P H1 H'->t (Ro fr σ (.int n)) H' λv XN=>∃b,v=.ref b/\AM H' XN/\XN b=some (.tup [kv n,.int n])) /\
 ∀(D : Ξ) (Lg:List Int) (H':Hp),Ae P H1 H'->H1 D=none->H' D=some (.lst (Lg.map V.int))->Hg H' P pos qual->Lg.Perm ns->Lg.Pairwise (λx y=>Yg (g y,y) (g x,x)=false)->Q (.ref D) H'
def AUh(P : Ξ)(pos:Pos)(qual:qf)(fr:List (qf×Nat))(t te:TE):TE:=λσ H Q=>te σ H λx H1=>AUV P pos qual fr t σ Q x H1
def AXF(P : Ξ)(pos:Pos)(qual:qf)(fr:List (qf×Nat))(t:TE)(σ:St)(Q:VK)(x:V)(H1:Hp):Prop:=∃(l : Ξ) (ns:List Int) (kf:Int->I3),x=.ref l/\H1 l=some (.lst (ns.map V.int))/\Hg H1 P pos qual/\0<ns.length /\
 (∀n∈ns,∀H',Ae P H1 H'->t (Ro fr σ (.int n)) H' λv XN=>∃b,v=.ref b/\AM H' XN/\XN b=some (.tup ((bz (kf n)).map V.int))) /\
 ∀(n:Int) (H':Hp),Ae P H1 H'->Hg H' P pos qual->n∈ns->(∀m∈ns,¬ XX (kf m) (kf n))->Q (.int n) H'
def AV0(P : Ξ)(pos:Pos)(qual:qf)(fr:List (qf×Nat))(t te:TE):TE:=λσ H Q=>te σ H λx H1=>AXF P pos qual fr t σ Q x H1
theorem U1{P : Ξ}{H H1 H2:Hp}(x:Ae P H H1)(y:AM H1 H2):Ae P H H2:=λb o n e=>y b o (x b o n e)
section
variable {X:Cx}{params:wk}{body e:qU}{scope:ua}{p:qf}{fr:List (qf×Nat)}{Ko:List (qf × Ξ)}{k:Nat}{t te:TE}{c P : Ξ}{pos OX kpos AWS:Pos}
theorem AQ8(Ur:X.env.code=.ref c)(iX:tF X.K c P=true)(L:aM X params body scope p fr Ko k t):PE X (.Lambda params body scope OX) (AXM P OX (X.env.qual ++ "<lambda>") params body scope Ko):=by intro AB s σ H Q I h;exact AVF I Ur iX L.AYO L.clo h.1 λf c' Qn pm H' s' I' sx hf ZD tb=>⟨.ref f,H',I',rfl,h.2 f c' Qn pm H' sx hf ZD tb⟩
theorem ALb(he:PE X e te)(Ur:X.env.code=.ref c)(iX:tF X.K c P=true)(L:aM X params body scope p fr Ko k t)(hr:EI (k+3) X.A)(Qh:X.calm=true)(hg:Gl X "sorted")(hm:X.mg "sorted" = none)(oO:bootBuiltins "sorted" = some (.builtin "sorted"))
  (h0:qy [e] X.env=(false,eval e X.env)::qy [] X.env:=by rfl) (h1:backTo pos (qy (e::[]) X.env)=(false,eval e X.env)::backTo pos (qy [] X.env):=by rfl) (h2:(backTo pos (qy (e::[]) X.env)).any (·.1)=false:=by rfl)
  (h3:(backToKw pos (keywordEach [⟨some "key",.Lambda params body scope OX,kpos⟩] X.env)).all (·.1.isSome)=true:=by rfl) (h4:(backToKw pos (keywordEach [⟨some "key",.Lambda params body scope OX,kpos⟩] X.env)).any (·.1.isNone)=false:=by rfl)
  (h5:(backToKw pos (keywordEach [⟨some "key",.Lambda params body scope OX,kpos⟩] X.env)).filterMap (·.1)=[ur "key"]:=by rfl):
  PE X (.Call (.Name "sorted" AWS) [e] [⟨some "key",.Lambda params body scope OX,kpos⟩] pos) (AUh P OX (X.env.qual ++ "<lambda>") fr t te):=by
 intro AB s σ H Q I h;refine rX (Qe I hg hm oO ?_);have hp:=AA he AF h0 pos AB s σ H (λxs H1=>match xs with
  |[x]=>AUV P OX (X.env.qual ++ "<lambda>") fr t σ Q x H1
  |_=>False) I h
 refine callWith_kw (EC hp λus s1 ⟨vs,H1,I1,r1,q1⟩=>?_) h1 h2 h3 h4
 match vs,q1 with
 |[x],q1=>
  obtain⟨u,rfl,rx⟩:=vals1 r1;obtain⟨l,ns,Lk,kv,g,rfl,src,tb,hz,hk,turn,fin⟩:=q1;cases rx;refine EC (AOM (nm:=some "key") (kpos:=kpos) (AQ8 (OX:=OX) Ur iX L) AQ4 pos AB s1 σ H1 (λxs H2=>∃f c' Qn pm,xs=[.ref f]/\Ae P H1 H2/\H1 f=none/\H2 f=some (G4 f (qZ "<lambda>" (X.env.qual ++ "<lambda>") params body scope Ko pm c' Qn))/\Y4 H2 P OX (X.env.qual ++ "<lambda>") c') I1 ⟨tb,λf c' Qn pm H' sx hf ZD dw=>⟨f,c',Qn,pm,rfl,sx,hf,ZD,dw⟩⟩) λkus s2 ⟨ks,H2,I2,r2,f,c',Qn,pm,ek,sx,hf,ZD,dw⟩=>?_;subst ek;obtain⟨u2,rfl,m9⟩:=vals1 r2;cases m9;rw[h5];obtain⟨ps,mD⟩:=tb.P1;have lQ:l≠P:=λz=>by
   rcases src with q|⟨kvs,q,_⟩
   .rw[z,mD] at q;cases q
   .rw[z,mD] at q;cases q
  have col:Tf X.prog X.w l ns s2:=by
   rcases src with q|⟨kvs,q,hk2⟩
   .exact AI4 I2 (sx _ _ lQ q) (a_ hz (by decide))
   .exact AI5 I2 (sx _ _ lQ q) hk2
  refine AM7 (Lk:=Lk) (kv:=kv) (g:=g) I2 Qh col (a_ hz (by decide)) hk (λn t' H' s' hn I' Q9=>?_) λD Lg H' s' I' Q9 hD p1 p2=>?_
  .refine rQ (AL6 (v:=.int n) (E:=λ_ _=>False) L I' I'.fh.in1.in1 (show EI (k+1) X.A.in1.in1 from(hr.in1).in1) (Q9 _ _ ZD) (Q9 _ _ dw.2) ⟨t',rfl⟩ (turn n hn H' (U1 sx Q9))) (λu aX he=>?_) λ_ _ z=>z;obtain⟨v,XN,pL,rv,b,rfl,s3,hb⟩:=he;cases rv;exact⟨b,XN,pL,rfl,s3,hb⟩
  .have s2D:AM H2 (upd H' D (.lst (Lg.map V.int))):=J5 Q9 hD;have kU:H1 D=none:=by
    cases q:H1 D with
    |none=>rfl
    |some o=>
     by_cases z:D=P
     .rw[z,dw.1] at hD;cases hD
     .rw[sx _ _ z q] at hD;cases hD
   exact⟨.ref D,_,I',rfl,fin D Lg _ (U1 sx s2D) kU AD (.inr ⟨c',dw.same s2D⟩) p1 p2⟩
theorem AS5(he:PE X e te)(Ur:X.env.code=.ref c)(iX:tF X.K c P=true)(L:aM X params body scope p fr Ko k t)(hr:EI (k+2) X.A)(Qh:X.calm=true)(hg:Gl X "min")(hm:X.mg "min" = none)(oO:bootBuiltins "min" = some (.builtin "min"))
  (h0:qy [e] X.env=(false,eval e X.env)::qy [] X.env:=by rfl) (h1:backTo pos (qy (e::[]) X.env)=(false,eval e X.env)::backTo pos (qy [] X.env):=by rfl) (h2:(backTo pos (qy (e::[]) X.env)).any (·.1)=false:=by rfl)
  (h3:(backToKw pos (keywordEach [⟨some "key",.Lambda params body scope OX,kpos⟩] X.env)).all (·.1.isSome)=true:=by rfl) (h4:(backToKw pos (keywordEach [⟨some "key",.Lambda params body scope OX,kpos⟩] X.env)).any (·.1.isNone)=false:=by rfl)
  (h5:(backToKw pos (keywordEach [⟨some "key",.Lambda params body scope OX,kpos⟩] X.env)).filterMap (·.1)=[ur "key"]:=by rfl):
  PE X (.Call (.Name "min" AWS) [e] [⟨some "key",.Lambda params body scope OX,kpos⟩] pos) (AV0 P OX (X.env.qual ++ "<lambda>") fr t te):=by
 intro AB s σ H Q I h;refine rX (Qe I hg hm oO ?_);have hp:=AA he AF h0 pos AB s σ H (λxs H1=>match xs with
  |[x]=>AXF P OX (X.env.qual ++ "<lambda>") fr t σ Q x H1
  |_=>False) I h
 refine callWith_kw (EC hp λus s1 ⟨vs,H1,I1,r1,q1⟩=>?_) h1 h2 h3 h4
 match vs,q1 with
 |[x],q1=>
  obtain⟨u,rfl,rx⟩:=vals1 r1;obtain⟨l,ns,kf,rfl,src,tb,hz,turn,fin⟩:=q1;cases rx;refine EC (AOM (nm:=some "key") (kpos:=kpos) (AQ8 (OX:=OX) Ur iX L) AQ4 pos AB s1 σ H1 (λxs H2=>∃f c' Qn pm,xs=[.ref f]/\Ae P H1 H2/\H1 f=none/\H2 f=some (G4 f (qZ "<lambda>" (X.env.qual ++ "<lambda>") params body scope Ko pm c' Qn))/\Y4 H2 P OX (X.env.qual ++ "<lambda>") c') I1 ⟨tb,λf c' Qn pm H' sx hf ZD dw=>⟨f,c',Qn,pm,rfl,sx,hf,ZD,dw⟩⟩) λkus s2 ⟨ks,H2,I2,r2,f,c',Qn,pm,ek,sx,hf,ZD,dw⟩=>?_;subst ek;obtain⟨u2,rfl,m9⟩:=vals1 r2;cases m9;rw[h5];obtain⟨ps,mD⟩:=tb.P1;have lQ:l≠P:=λz=>by rw[z,mD] at src;cases src
  have hu:X.A.in1.units<cLine:=(show EI (k+1) X.A.in1 from hr.in1).AUb;refine ATN (kf:=kf) I2 Qh hu (sx _ _ lQ src) hz (λcE n t' H' s' hn I' Q9=>?_) λn t' H' s' hn p1 I' Q9=>?_
  .refine rQ (AL6 (v:=.int n) (E:=λ_ _=>False) L I' I'.fh.in1 (show EI (k+1) X.A.in1 from hr.in1) (Q9 _ _ ZD) (Q9 _ _ dw.2) ⟨t',rfl⟩ (turn n hn H' (U1 sx Q9))) (λu aX he=>?_) λ_ _ z=>z;obtain⟨v,XN,pL,rv,b,rfl,s3,hb⟩:=he;cases rv;exact⟨b,XN,pL,rfl,s3,hb⟩
  .exact⟨.int n,H',I',⟨t',rfl⟩,fin n H' (U1 sx Q9) (.inr ⟨c',dw.same Q9⟩) hn p1⟩
end
end L2
namespace Hx
open Si49
def Bm(x:Q):Prop:=0<x.d/\uN x.n x.d=1
theorem Vq{n d:Nat}(h:0<d):q n d=⟨n/uN n d,d/uN n d⟩:=by
 have g:uN n d≠0:=λe=>by have:=Nat.eq_zero_of_gcd_eq_zero_right e;omega
 show(if uN n d=0 then(⟨0,1⟩:Q) else⟨n/uN n d,d/uN n d⟩)=_;rw[ζ g]
theorem Ut{n d:Nat}(h:0<d):Bm (q n d):=by
 rw[Vq h];have g:0<uN n d:=Nat.gcd_pos_of_pos_right n h;refine⟨?_,?_⟩
 .exact Nat.div_pos (Nat.le_of_dvd h (xu n d)) g
 .show uN (n/uN n d) (d/uN n d)=1;rw[Nat.gcd_div (Nat.gcd_dvd_left n d) (xu n d),Nat.div_self g]
theorem Yq{n d:Nat}(h:0<d):(q n d).n*d=n*(q n d).d:=by rw[Vq h];show n/uN n d*d=n*(d/uN n d);have h1:=Nat.gcd_dvd_left n d;have h2:=xu n d;rw[Nat.div_mul_right_comm h1 d,Nat.mul_div_assoc n h2]
theorem Bm.ext{x y:Q}(hx:Bm x)(hy:Bm y)(e:x.n*y.d=y.n*x.d):x=y:=by
 obtain⟨a,b⟩:=x;obtain⟨c,d⟩:=y;obtain⟨h1,h2⟩:=hx;obtain⟨h3,h4⟩:=hy;dsimp only at e h1 h2 h3 h4;have d1:b∣d:=by
  have:b∣a*d:=by rw[e];exact uI b c
  exact uF (xM h2) this
 have d2:d∣b:=by
  have:d∣c*b:=by rw[<-e];exact uI d a
  exact uF (xM h4) this
 have e1:b=d:=Nat.dvd_antisymm d1 d2;subst e1;have e2:a=c:=u_ h1 e;rw[e2]
theorem cD{n d n' d':Nat}(h:0<d)(h':0<d')(e:n*d'=n'*d):q n d=q n' d':=by
 refine(Ut h).ext (Ut h') ?_;have v:=Yq (n:=n) h;have v':=Yq (n:=n') h';generalize q n d=x at v ⊢;generalize q n' d'=y at v' ⊢;have k:(x.n*y.d)*(d*d')=(y.n*x.d)*(d*d'):=by
  calc (x.n*y.d)*(d*d')=(x.n*d)*(y.d*d'):=by ac_rfl
   _=(n*x.d)*(y.d*d'):=by rw[v]
   _=(n*d')*(x.d*y.d):=by ac_rfl
   _=(n'*d)*(x.d*y.d):=by rw[e]
   _=(n'*y.d)*(x.d*d):=by ac_rfl
   _=(y.n*d')*(x.d*d):=by rw[v']
   _=(y.n*x.d)*(d*d'):=by ac_rfl
 exact u_ (p7 h h') k
theorem Vo{x:Q}(h:Bm x):q x.n x.d=x:=(Ut h.1).ext h (Yq h.1)
theorem IZ:Bm zero:=⟨by decide,by decide⟩
theorem Bh:Bm one:=⟨by decide,by decide⟩
theorem SR{x y:Q}(hx:Bm x)(hy:Bm y):Bm (x.add y):=Ut (p7 hx.1 hy.1)
theorem Ir{x y:Q}(hx:Bm x)(hy:Bm y):Bm (x.sub y):=Ut (p7 hx.1 hy.1)
theorem N7{x y:Q}(hx:Bm x)(hy:Bm y):Bm (x.mul y):=Ut (p7 hx.1 hy.1)
theorem D4{x y:Q}(hx:Bm x):Bm (x.div y):=by
 unfold zK;split
 .exact IZ
 .rename_i h;exact Ut (p7 hx.1 (vH h))
def Is(x:Q)(n d:Nat):Prop:=Bm x/\0<d/\x.n*d=n*x.d
theorem Is.q{n d:Nat}(h:0<d):Is (q n d) n d:=⟨Ut h,h,Yq h⟩
theorem Is.self{x:Q}(h:Bm x):Is x x.n x.d:=⟨h,h.1,rfl⟩
theorem Is.eq{x:Q}{n d:Nat}(h:Is x n d):x=sO n d:=h.1.ext (Ut h.2.1) (by
 have v:=Yq (n:=n) h.2.1;have k:=h.2.2;have p:=h.2.1;generalize sO n d=y at v ⊢;have z:(x.n*y.d)*d=(y.n*x.d)*d:=by
  calc (x.n*y.d)*d=(x.n*d)*y.d:=by ac_rfl
   _=(n*x.d)*y.d:=by rw[k]
   _=(n*y.d)*x.d:=by ac_rfl
   _=(y.n*d)*x.d:=by rw[v]
   _=(y.n*x.d)*d:=by ac_rfl
 exact u_ p z)
theorem Is.uniq{x y:Q}{n d:Nat}(h:Is x n d)(h':Is y n d):x=y:=h.eq.trans h'.eq.symm
theorem Is.same{x:Q}{n d n' d':Nat}(h:Is x n d)(hd:0<d')(e:n*d'=n'*d):Is x n' d':=by rw[h.eq,cD h.2.1 hd e];exact .q hd
theorem Is.add{x y:Q}{a b c d:Nat}(h:Is x a b)(k:Is y c d):Is (x.add y) (a*d+c*b) (b*d):=by
 have e:x.add y=sO (a*d+c*b) (b*d):=by
  refine cD (p7 h.1.1 k.1.1) (p7 h.2.1 k.2.1) ?_;have h3:=h.2.2;have k3:=k.2.2;rw[tU,tU];have e1:x.n*y.d*(b*d)=a*d*(x.d*y.d):=by
   calc x.n*y.d*(b*d)=(x.n*b)*(y.d*d):=by ac_rfl
    _=(a*x.d)*(y.d*d):=by rw[h3]
    _=_:=by ac_rfl
  have e2:y.n*x.d*(b*d)=c*b*(x.d*y.d):=by
   calc y.n*x.d*(b*d)=(y.n*d)*(x.d*b):=by ac_rfl
    _=(c*y.d)*(x.d*b):=by rw[k3]
    _=_:=by ac_rfl
  rw[e1,e2]
 rw[e];exact .q (p7 h.2.1 k.2.1)
theorem Is.sub{x y:Q}{a b c d:Nat}(h:Is x a b)(k:Is y c d):Is (x.sub y) (a*d-c*b) (b*d):=by
 have e:x.sub y=sO (a*d-c*b) (b*d):=by
  refine cD (p7 h.1.1 k.1.1) (p7 h.2.1 k.2.1) ?_;have h3:=h.2.2;have k3:=k.2.2;rw[yj,yj];have e1:x.n*y.d*(b*d)=a*d*(x.d*y.d):=by
   calc x.n*y.d*(b*d)=(x.n*b)*(y.d*d):=by ac_rfl
    _=(a*x.d)*(y.d*d):=by rw[h3]
    _=_:=by ac_rfl
  have e2:y.n*x.d*(b*d)=c*b*(x.d*y.d):=by
   calc y.n*x.d*(b*d)=(y.n*d)*(x.d*b):=by ac_rfl
    _=(c*y.d)*(x.d*b):=by rw[k3]
    _=_:=by ac_rfl
  rw[e1,e2]
 rw[e];exact .q (p7 h.2.1 k.2.1)
theorem Is.mul{x y:Q}{a b c d:Nat}(h:Is x a b)(k:Is y c d):Is (x.mul y) (a*c) (b*d):=by
 have e:x.mul y=sO (a*c) (b*d):=by
  refine cD (p7 h.1.1 k.1.1) (p7 h.2.1 k.2.1) ?_;have h3:=h.2.2;have k3:=k.2.2
  calc x.n*y.n*(b*d)=(x.n*b)*(y.n*d):=by ac_rfl
   _=(a*x.d)*(c*y.d):=by rw[h3,k3]
   _=_:=by ac_rfl
 rw[e];exact .q (p7 h.2.1 k.2.1)
theorem Is.n0{x:Q}{n d:Nat}(h:Is x n d):x.n=0↔n=0:=by
 have k:=h.2.2;constructor
 .intro e;rw[e,wR] at k;rcases Nat.mul_eq_zero.mp k.symm with q|q
  .exact q
  .have:=h.1.1;omega
 .intro e;rw[e,wR] at k;rcases Nat.mul_eq_zero.mp k with q|q
  .exact q
  .have:=h.2.1;omega
theorem Is.div{x y:Q}{a b c d:Nat}(h:Is x a b)(k:Is y c d)(hc:0<c):Is (x.div y) (a*d) (b*c):=by
 have hy:¬ y.n=0:=λe=>by have:=k.n0.mp e;omega
 have eG:0<y.n:=vH hy;have e:x.div y=sO (a*d) (b*c):=by
  unfold zK;rw[ζ hy];refine cD (p7 h.1.1 eG) (p7 h.2.1 hc) ?_;have h3:=h.2.2;have k3:=k.2.2
  calc x.n*y.d*(b*c)=(x.n*b)*(c*y.d):=by ac_rfl
   _=(a*x.d)*(y.n*d):=by rw[h3,k3]
   _=_:=by ac_rfl
 rw[e];exact .q (p7 h.2.1 hc)
theorem AQI(x y:Q):x.add y=y.add x:=by unfold zL;rw[xU (x.n*y.d),vg x.d]
theorem AJN{x:Q}(h:Bm x):zero.add x=x:=by refine(((Is.self IZ).add (Is.self h)).same h.1 ?_).uniq (Is.self h);show(0*x.d+x.n*1)*x.d=x.n*(1*x.d);rw[wR,uu,tT,wA]
theorem AKI{x:Q}(h:Bm x):x.add zero=x:=by rw[AQI,AJN h]
theorem AIE{x y z:Q}(hx:Bm x)(hy:Bm y)(hz:Bm z):(x.add y).add z=x.add (y.add z):=by
 refine((((Is.self hx).add (Is.self hy)).add (Is.self hz)).same (d':=x.d*(y.d*z.d)) (n':=x.n*(y.d*z.d)+(y.n*z.d+z.n*y.d)*x.d) (p7 hx.1 (p7 hy.1 hz.1)) ?_).uniq ((Is.self hx).add ((Is.self hy).add (Is.self hz)));simp only[tU];have e1:x.n*y.d*z.d*(x.d*(y.d*z.d))=x.n*(y.d*z.d)*(x.d*y.d*z.d):=by ac_rfl
 have e2:y.n*x.d*z.d*(x.d*(y.d*z.d))=y.n*z.d*x.d*(x.d*y.d*z.d):=by ac_rfl
 have e3:z.n*(x.d*y.d)*(x.d*(y.d*z.d))=z.n*y.d*x.d*(x.d*y.d*z.d):=by ac_rfl
 rw[e1,e2,e3,Nat.add_assoc]
theorem sum_cons(x:Q)(l:List Q):sum (x::l)=x.add (sum l):=rfl
theorem J2:∀{l:List Q},(∀x∈l,Bm x)->Bm (sum l)
 |[],_=>IZ
 |x::l,h=>SR (h x (υ ..)) (J2 λy hy=>h y (θ _ hy))
theorem sum_append{l m:List Q}(hl:∀x∈l,Bm x)(hm:∀x∈m,Bm x):sum (l++m)=(sum l).add (sum m):=by
 induction l with
 |nil=>exact(AJN (J2 hm)).symm
 |cons x l ih=>have h1:=hl x (υ ..);have h2:∀y∈l,Bm y:=λy hy=>hl y (θ _ hy);show x.add (sum (l++m))=(x.add (sum l)).add (sum m);rw[ih h2,AIE h1 (J2 h2) (J2 hm)]
theorem foldl_add{l:List Q}(hl:∀x∈l,Bm x):∀{a:Q},Bm a->l.foldl zL a=a.add (sum l):=by
 induction l with
 |nil=>intro a ha;exact(AKI ha).symm
 |cons x l ih=>intro a ha;have h1:=hl x (υ ..);have h2:∀y∈l,Bm y:=λy hy=>hl y (θ _ hy);show l.foldl zL (a.add x)=a.add (x.add (sum l));rw[ih h2 (SR ha h1),AIE ha h1 (J2 h2)]
theorem AVJ{l m:List Nat}(hl:l.Pairwise (· < ·))(hm:m.Pairwise (· < ·))(h:∀a,a∈l↔a∈m):l=m:=by have n1:l.Nodup:=hl.imp λh=>qK h;have n2:m.Nodup:=hm.imp λh=>qK h;refine vv (le:=(· < ·)) (λa b _ _ h1 h2=>absurd h1 (xS h2)) hl hm ((r8 n1 n2).mpr h)
theorem AOu:∀(k:Nat) (l:List Nat),l.length<=k->l.Pairwise (· <= ·)->l.eraseDups.Pairwise (· < ·)
 |_,[],_,_=>by simp
 |0,_::_,h,_=>by simp at h
 |k+1,a::as,h,hp=>by
  rw[List.eraseDups_cons];have Yi:=uO.mp hp;refine uO.mpr ⟨λb hb=>?_,AOu k _ ?_ (Yi.2.filter _)⟩
  .rw[List.mem_eraseDups,d_] at hb;have h1:=Yi.1 b hb.1;have h2:b≠a:=by simpa using hb.2
   omega
  .exact a_ (pU _ _) (by simpa using h)
def keys(m:Nat)(s:qP):List Nat:=(pW m).filter λi=>s.any λx=>x.1==i
theorem mem_keys{m:Nat}{s:qP}{i:Nat}:i∈keys m s↔i<m/\∃x∈s,x.1=i:=by unfold keys;rw[d_,sQ,uc];simp
theorem RJ(m:Nat)(s:qP):(keys m s).Pairwise (· < ·):=List.pairwise_lt_range.filter _
theorem AHQ{m:Nat}{s:qP}(h:∀x∈s,x.1<m):((s.map λx=>x.1).mergeSort λa b=>decide (a<=b)).eraseDups=keys m s:=by
 refine AVJ (AOu _ _ (b_ _) ?_) (RJ m s) λa=>?_
 .refine(vL (le:=λa b=>decide (a<=b)) (λa b c h1 h2=>?_) (λa b=>?_) _).imp λh=>zod h
  .exact zqt (a_ (zod h1) (zod h2))
  .rcases xT a b with q|q
   .simp[q]
   .simp[q]
 .rw[List.mem_eraseDups,(vp _ _).mem_iff,mem_keys];constructor
  .intro q;obtain⟨x,hx,rfl⟩:=Θ.mp q;exact⟨h x hx,x,hx,rfl⟩
  .rintro⟨_,x,hx,rfl⟩;exact Θ.mpr ⟨x,hx,rfl⟩
theorem AGO{m:Nat}{s:qP}(h:∀x∈s,x.1<m):joined s=(keys m s).map λi=>(i,qE s i):=by unfold joined;rw[AHQ h];rfl
theorem all_keys{m:Nat}{s t:qP}(h:∀x∈s,x.1<m)(h':∀x∈t,x.1<m):uS s t=keys m (s++t):=by
 have e:uS s t=(((s++t).map λx=>x.1).mergeSort λa b=>decide (a<=b)).eraseDups:=rfl;rw[e,AHQ (m:=m)];intro x hx;rcases pT.mp hx with q|q
 .exact h x q
 .exact h' x q
def ZG(x:Q):Prop:=Bm x/\x.d<=100/\x.n<=x.d
structure Good(l:qa):Prop where
 GV:l.persons.length<=16
 par:∀i p,p∈(person l i).parents->p<i
 two:∀i,(person l i).parents.length<=2/\(person l i).parents.Nodup
 day:∀i d,(person l i).died=some d->d<=99999
 aR:∀i j,(person l i).spouse=some j->i≠j/\j<l.persons.length/\(person l j).spouse=some i
 Rm:∀x∈l.renounced,x.1<l.persons.length/\x.2<l.persons.length/\x.1≠x.2
 g6:l.renounced.Nodup
 bB:l.spouse.length=5
 az:∀x∈l.spouse,ZG x
 S5:ZG l.kept
 Z6:l.gifts.length<=10
 Ux:∀g∈l.gifts,g.of_<l.persons.length/\g.to_<l.persons.length/\(∀j,g.else_=some j->j<l.persons.length)/\ZG g.part/\0<g.part.n
 ZL:∀e,(sum ((l.gifts.filter λg=>g.of_==e).map λg=>g.part)).le one=true
theorem R1{l:qa}{i:Nat}(h:l.persons.length<=i):person l i=⟨[],none,none⟩:=by unfold person;rw[rK,uX h];rfl
theorem AJk{l:qa}{i:Nat}(h:i<l.persons.length):person l i=l.persons[i]:=by unfold person;rw[rK,n_ h];rfl
theorem Xu{l:qa}{i p:Nat}(h:p∈(person l i).parents):i<l.persons.length:=by
 rcases vh i l.persons.length with q|q
 .exact q
 .rw[R1 q] at h;cases h
theorem Qq(l:qa)(i:Nat):children l i=(pW l.persons.length).filter λj=>(person l j).parents.contains i:=by
 have key:∀(ps:List zy) (k:Nat),((ps.zipIdx k).filter λx=>x.1.parents.contains i).map (λx=>x.2)=(tu k ps.length).filter λj=>(ps.getD (j-k) ⟨[],none,none⟩).parents.contains i:=by
  intro ps
  induction ps with
  |nil=>intro k;rfl
  |cons p ps ih=>
   intro k;have e:tu k (p::ps).length=k::tu (k+1) ps.length:=by rw[o_,xN]
   have tail:(tu (k+1) ps.length).filter (λj=>(ps.getD (j-(k+1)) ⟨[],none,none⟩).parents.contains i)=(tu (k+1) ps.length).filter (λj=>((p::ps).getD (j-k) ⟨[],none,none⟩).parents.contains i):=by
    refine List.filter_congr λj hj=>?_;have:=(List.mem_range'_1.mp hj).1;have e2:j-k=(j-(k+1))+1:=by omega
    rw[e2,List.getD_cons_succ]
   rw[e,List.zipIdx_cons,qB,qB];have e0:((p::ps).getD (k-k) ⟨[],none,none⟩)=p:=by rw[wU];rfl
   rw[e0];dsimp only;by_cases q:p.parents.contains i=true
   .rw[η q,η q,k_,ih (k+1),tail]
   .rw[ζ q,ζ q,ih (k+1),tail]
 have e:=key l.persons 0;unfold children;rw[e,vc];rfl
theorem AKZ{l:qa}{i j:Nat}:j∈children l i↔j<l.persons.length/\i∈(person l j).parents:=by rw[Qq,d_,sQ,rG]
theorem Good.child{l:qa}(g:Good l){i j:Nat}(h:j∈children l i):i<j/\j<l.persons.length:=by have:=AKZ.mp h;exact⟨g.par j i this.2,this.1⟩
theorem Ph{α:Type}{l:List α}{p q:α->Bool}(h:∀x∈l,p x=q x):l.any p=l.any q:=by
 induction l with
 |nil=>rfl
 |cons a l ih=>rw[sX,sX,h a (υ ..),ih λx hx=>h x (θ _ hx)]
theorem Kh{α β:Type}{l:List α}{p q:α->List β}(h:∀x∈l,p x=q x):l.flatMap p=l.flatMap q:=by
 induction l with
 |nil=>rfl
 |cons a l ih=>rw[tX,tX,h a (υ ..),ih λx hx=>h x (θ _ hx)]
theorem RG{l:qa}{e i:Nat}(h:l.persons.length<=i):may l e i=false:=by unfold may;rw[zdf (zz.mpr h)];rfl
theorem Mg{l:qa}(g:Good l){i:Nat}(h:l.persons.length<=i):children l i=[]:=by refine List.eq_nil_iff_forall_not_mem.mpr λj hj=>?_;have:=g.child hj;omega
theorem AJw{l:qa}(g:Good l)(e:Nat):∀(f f' i:Nat),l.persons.length-i<=f->l.persons.length-i<=f'->live l e f i=live l e f' i
 |0,0,_,_,_=>rfl
 |0,f'+1,i,h,_=>by
  have h1:l.persons.length<=i:=by omega
  show false=(may l e i||(opensLine l e i&&(children l i).any (live l e f')))
  rw[RG h1,Mg g h1];simp
 |f+1,0,i,_,h=>by
  have h1:l.persons.length<=i:=by omega
  show(may l e i||(opensLine l e i&&(children l i).any (live l e f)))=false;rw[RG h1,Mg g h1];simp
 |f+1,f'+1,i,h,h'=>by
  show(may l e i||(opensLine l e i&&(children l i).any (live l e f)))=(may l e i||(opensLine l e i&&(children l i).any (live l e f')))
  rw[Ph λj hj=>?_];have:=g.child hj;exact AJw g e f f' j (by omega) (by omega)
theorem AJ4{l:qa}(g:Good l)(e i:Nat):isLive l e i=(may l e i||(opensLine l e i&&(children l i).any (isLive l e))):=by have h:=g.GV;show live l e vY i=_;show(may l e i||(opensLine l e i&&(children l i).any (live l e 39)))=_;rw[Ph (q:=isLive l e) λj hj=>?_];have:=g.child hj;exact AJw g e 39 40 j (by omega) (by omega)
theorem AGD{l:qa}(g:Good l)(e:Nat):∀(f f' i:Nat) (a:Q),l.persons.length-i<=f->l.persons.length-i<=f'->toLine l e f i a=toLine l e f' i a:=by
 have out:∀(f i:Nat) (a:Q),l.persons.length<=i->toLine l e f i a=[]:=by
  intro f i a h;cases f with
  |zero=>rfl
  |succ f=>unfold toLine;rw[RG h,Mg g h];simp
 intro f
 induction f with
 |zero=>intro f' i a h h';rw[out 0 i a (by omega),out f' i a (by omega)]
 |succ f ih=>
  intro f' i a h h';cases f' with
  |zero=>rw[out (f+1) i a (by omega),out 0 i a (by omega)]
  |succ f'=>
   unfold toLine;split
   .rfl
   .split
    .refine Kh λj hj=>?_;have:=g.child (d_.mp hj).1;exact ih f' j _ (by omega) (by omega)
    .rfl
def WD(l:qa)(e i:Nat):List Nat:=(children l i).filter (isLive l e)
theorem AJU{l:qa}(g:Good l)(e i:Nat)(a:Q):toLine l e vY i a=if may l e i=true then[(i,a)] else if opensLine l e i=true then
  (WD l e i).flatMap λj=>toLine l e vY j (a.div ⟨(WD l e i).length,1⟩) else[]:=by
 have h:=g.GV;show toLine l e (39+1) i a=_;unfold toLine;split
 .rfl
 .split
  .refine Kh λj hj=>?_;have:=g.child (d_.mp hj).1;exact AGD g e 39 vY j _ (by omega) (by show l.persons.length-j<=40;omega)
  .rfl
theorem ALf{l:qa}{i:Nat}(h:l.persons.length<=i):(person l i).parents=[]:=by rw[R1 h]
theorem AI2{l:qa}(g:Good l)(e:Nat):∀(f f' i:Nat),i<=f->i<=f'->descends l e f i=descends l e f' i:=by
 have z:∀f,descends l e f 0=false:=by
  intro f;cases f with
  |zero=>rfl
  |succ f=>show((person l 0).parents.any λp=>p==e||descends l e f p)=false;rw[List.any_eq_false];intro p hp;have:=g.par 0 p hp;omega
 intro f
 induction f with
 |zero=>
  intro f' i h h';have:i=0:=by omega
  subst this;rw[z,z]
 |succ f ih=>
  intro f' i h h';cases f' with
  |zero=>
   have:i=0:=by omega
   subst this;rw[z,z]
  |succ f'=>
   show((person l i).parents.any λp=>p==e||descends l e f p)=((person l i).parents.any λp=>p==e||descends l e f' p)
   refine Ph λp hp=>?_;have:=g.par i p hp;rw[ih f' p (by omega) (by omega)]
theorem AMV{l:qa}(g:Good l)(e i:Nat):descends l e vY i=(person l i).parents.any λp=>p==e||descends l e vY p:=by show((person l i).parents.any λp=>p==e||descends l e 39 p)=_;refine Ph λp hp=>?_;have h1:=g.par i p hp;have h2:=Xu hp;have h3:=g.GV;rw[AI2 g e 39 vY p (by omega) (by show p<=40;omega)]
theorem AGR{l:qa}(g:Good l):∀(f f' k i:Nat),i<f->i<f'->aboves l f k i=aboves l f' k i
 |0,_,_,_,h,_=>by omega
 |_+1,0,_,_,_,h=>by omega
 |f+1,f'+1,k,i,h,h'=>by show(i,k)::(person l i).parents.flatMap (aboves l f (k+1))=(i,k)::(person l i).parents.flatMap (aboves l f' (k+1));rw[Kh λp hp=>?_];have:=g.par i p hp;exact AGR g f f' (k+1) p (by omega) (by omega)
theorem AQJ{l:qa}(g:Good l)(k i:Nat):aboves l vY k i=(i,k)::(person l i).parents.flatMap (aboves l vY (k+1)):=by show(i,k)::(person l i).parents.flatMap (aboves l 39 (k+1))=_;rw[Kh λp hp=>?_];have h1:=g.par i p hp;have h2:=Xu hp;have h3:=g.GV;exact AGR g 39 vY (k+1) p (by omega) (by show p<40;omega)
theorem XE{a b:Nat}(h:fracOk (a,b)=true):ZG (q a b):=by
 unfold fracOk at h;simp only[qm,decide_eq_true_eq] at h;obtain⟨h1,h2,h3⟩:=h;have hb:0<b:=h1;have g:=Nat.gcd_pos_of_pos_right a hb;refine⟨Ut hb,?_,?_⟩
 .rw[Vq hb];exact a_ (Nat.div_le_self _ _) h2
 .rw[Vq hb];exact Nat.div_le_div_right h3
theorem AJ5:Good ve:=by
 have no:∀i,person ve i=⟨[],none,none⟩:=λi=>R1 (qG i);refine⟨by decide,λi p h=>?_,λi=>?_,λi d h=>?_,λi j h=>?_,λx h=>?_,uJ,rfl,λx h=>?_,?_,by decide,λg h=>?_,λe=>rfl⟩
 .rw[no] at h;cases h
 .rw[no];exact⟨by decide,uJ⟩
 .rw[no] at h;cases h
 .rw[no] at h;cases h
 .cases h
 .have:x=⟨1,4⟩\/x=⟨1,2⟩\/x=⟨3,4⟩\/x=⟨1,1⟩:=by simp only[ve,pM,rO,or_false] at h;rcases h with h|h|h|h|h<;>simp[h]
  rcases this with rfl|rfl|rfl|rfl<;>exact⟨⟨by decide,by decide⟩,by decide,by decide⟩
 .exact⟨⟨by decide,by decide⟩,by decide,by decide⟩
 .cases h
theorem Hj(l:qa)(i:Nat)(p:zy):(setPerson l i p).persons.length=l.persons.length:=List.length_set ..
theorem Jc{l:qa}{i:Nat}{p:zy}(h:i<l.persons.length)(j:Nat):person (setPerson l i p) j=if j=i then p else person l j:=by
 unfold person setPerson;simp only[rK,List.getElem?_set];by_cases e:j=i
 .subst e;simp[h]
 .have e':¬ i=j:=λq=>e q.symm;rw[ζ e,ζ e']
theorem AHM(l:qa)(p:zy)(j:Nat):person {l with persons:=l.persons++[p]} j=if j=l.persons.length then p else person l j:=by
 unfold person;simp only[rK];by_cases e:j=l.persons.length
 .subst e;simp
 .rw[ζ e];rcases vh j l.persons.length with q|q
  .rw[sF q]
  .rw[uX (by simp;omega),uX q]
theorem ARy{l:qa}(g:Good l){i:Nat}{p:zy}(hi:i<l.persons.length)(hp:p.parents=(person l i).parents)(hd:∀d,p.died=some d->d<=99999)(hs:p.spouse=(person l i).spouse):Good (setPerson l i p):=by
 have ps:=λj=>Jc (p:=p) hi j;have par:∀j,(person (setPerson l i p) j).parents=(person l j).parents:=λj=>by
  rw[ps j];split
  .rename_i e;rw[e];exact hp
  .rfl
 have aR:∀j,(person (setPerson l i p) j).spouse=(person l j).spouse:=λj=>by
  rw[ps j];split
  .rename_i e;rw[e];exact hs
  .rfl
 refine⟨by rw[Hj];exact g.GV,λj q h=>?_,λj=>?_,λj d h=>?_,λj k h=>?_,λx h=>?_,g.g6,g.bB,g.az,g.S5,g.Z6,λx h=>?_,g.ZL⟩
 .rw[par] at h;exact g.par j q h
 .rw[par];exact g.two j
 .rw[ps j] at h;split at h
  .exact hd d h
  .exact g.day j d h
 .rw[aR] at h ⊢;rw[Hj];exact g.aR j k h
 .rw[Hj];exact g.Rm x h
 .rw[Hj];exact g.Ux x h
theorem FJ{l:qa}{i:Nat}(h:¬ there l i=false):i<l.persons.length:=by
 unfold there at h;rcases vh i l.persons.length with q|q
 .exact q
 .rw[zdf (zz.mpr q)] at h;exact absurd rfl h
theorem AFB{l:qa}(g:Good l){i j:Nat}{a b:Option Nat}(hi:i<l.persons.length)(hj:j<l.persons.length)(cZ:i≠j)(m:qa)
  (em:m=setPerson (setPerson l i {person l i with spouse:=a}) j {person (setPerson l i {person l i with spouse:=a}) j with spouse:=b})
  (h1:∀k,a=some k->k=j/\b=some i) (h2:∀k,b=some k->k=i/\a=some j) (h3:∀k x,k≠i->k≠j->(person l k).spouse=some x->x≠i/\x≠j):Good m:=by
 subst em;have iW:j<(setPerson l i {person l i with spouse:=a}).persons.length:=by rw[Hj];exact hj
 have ps:∀k,person (setPerson (setPerson l i {person l i with spouse:=a}) j {person (setPerson l i {person l i with spouse:=a}) j with spouse:=b}) k={person l k with spouse:=if k=j then b else if k=i then a else(person l k).spouse}:=λk=>by
  rw[Jc iW k];by_cases e:k=j
  .subst e;rw[η rfl,η rfl,Jc hi,ζ (qk cZ)]
  .rw[ζ e,ζ e,Jc hi k];by_cases e2:k=i
   .subst e2;rw[η rfl,η rfl]
   .rw[ζ e2,ζ e2]
 refine⟨by rw[Hj,Hj];exact g.GV,λk q h=>?_,λk=>?_,λk d h=>?_,λk x h=>?_,λx h=>?_,g.g6,g.bB,g.az,g.S5,g.Z6,λx h=>?_,g.ZL⟩
 .rw[ps] at h;exact g.par k q h
 .rw[ps];exact g.two k
 .rw[ps] at h;exact g.day k d h
 .rw[Hj,Hj];rw[ps k] at h;rw[ps x];dsimp only at h ⊢;by_cases e:k=j
  .subst e;rw[η rfl] at h;obtain⟨rfl,e2⟩:=h2 x h;refine⟨qk cZ,hi,?_⟩;rw[ζ cZ,η rfl];exact e2
  .rw[ζ e] at h;by_cases e2:k=i
   .subst e2;rw[η rfl] at h;obtain⟨rfl,e3⟩:=h1 x h;refine⟨cZ,hj,?_⟩;rw[η rfl];exact e3
   .rw[ζ e2] at h;obtain⟨n1,n2⟩:=h3 k x e2 e h;rw[ζ n2,ζ n1];exact g.aR k x h
 .rw[Hj,Hj];exact g.Rm x h
 .rw[Hj,Hj];exact g.Ux x h
theorem AP5{l:qa}(g:Good l)(c:Call):Good (f_ l c).1:=by
 cases c with
 |begins=>exact AJ5
 |byLaw e=>exact g
 |shares e=>exact g
 |kept e=>exact g
 |ends e d=>exact g
 |related i j=>exact g
 |law s k b=>
  show Good (if s.length≠CLASSES\/s.all fracOk=false\/fracOk k=false then(l,ok (-1)) else({l with spouse:=s.map (λx=>q x.1 x.2),kept:=q k.1 k.2,stepsIn:=b},ok 0)).1;split
  .exact g
  .rename_i h;simp only[not_or] at h;obtain⟨h1,h2,h3⟩:=h;have bT:s.length=5:=by
    by_cases q:s.length=5
    .exact q
    .exact absurd q h1
   refine⟨g.GV,g.par,g.two,g.day,g.aR,g.Rm,g.g6,?_,λx hx=>?_,?_,g.Z6,g.Ux,g.ZL⟩
   .show(s.map _).length=5;rw[χ];exact bT
   .obtain⟨y,hy,rfl⟩:=Θ.mp hx;have:fracOk y=true:=by have:=tK.mp (Bool.not_eq_false _▸h2:s.all fracOk=true) y hy;exact this
    exact XE this
   .exact XE (by simpa using h3)
 |person a b=>
  show Good (if l.persons.length<a\/l.persons.length<b\/(a≠0/\a=b) then(l,ok (-2)) else if PERSONS<=l.persons.length then(l,ok (-5)) else({l with persons:=l.persons++[⟨(if a=0 then[] else[a-1])++(if b=0 then[] else[b-1]),none,none⟩]},ok ((l.persons.length:Int)+1))).1;split
  .exact g
  .rename_i h;split
   .exact g
   .rename_i iu;simp only[not_or,zz] at h;obtain⟨h1,h2,h3⟩:=h;have h16':l.persons.length<16:=by have:¬ 16<=l.persons.length:=iu;omega
    have ps:=λj=>AHM l ⟨(if a=0 then[] else[a-1])++(if b=0 then[] else[b-1]),none,none⟩ j;have len:({l with persons:=l.persons++[⟨(if a=0 then[] else[a-1])++(if b=0 then[] else[b-1]),none,none⟩]}:qa).persons.length=l.persons.length+1:=by simp
    refine⟨by rw[len];omega,λj p hp=>?_,λj=>?_,λj d hd=>?_,λj k hk=>?_,λx hx=>?_,g.g6,g.bB,g.az,g.S5,g.Z6,λx hx=>?_,g.ZL⟩
    .rw[ps j] at hp;split at hp
     .rename_i e;subst e;have:p=a-1/\a≠0\/p=b-1/\b≠0:=by
       dsimp only at hp;rcases pT.mp hp with q|q
       .split at q
        .cases q
        .exact .inl ⟨by simpa using q,by assumption⟩
       .split at q
        .cases q
        .exact .inr ⟨by simpa using q,by assumption⟩
      omega
     .exact g.par j p hp
    .rw[ps j];split
     .dsimp only;refine⟨?_,?_⟩
      .split<;>split<;>simp
      .split<;>split<;>simp;rename_i ha hb;intro e;exact h3 ⟨ha,by omega⟩
     .exact g.two j
    .rw[ps j] at hd;split at hd
     .cases hd
     .exact g.day j d hd
    .rw[ps j] at hk;split at hk
     .cases hk
     .obtain⟨z1,z2,z3⟩:=g.aR j k hk;refine⟨z1,by rw[len];omega,?_⟩;rw[ps k,ζ (by omega)];exact z3
    .rw[len];have:=g.Rm x hx;omega
    .rw[len];obtain⟨z1,z2,z3,z4⟩:=g.Ux x hx;exact⟨by omega,by omega,λj hj=>by have:=z3 j hj;omega,z4⟩
 |dies i day=>
  show Good (if i=0\/there l (i-1)=false then(l,ok (-2)) else if 99999<day then(l,ok (-1)) else if dead l (i-1)=true then(l,ok (-4)) else(setPerson l (i-1) {person l (i-1) with died:=some day},ok 0)).1;split
  .exact g
  .rename_i h;split
   .exact g
   .split
    .exact g
    .simp only[not_or] at h;refine ARy g (FJ h.2) rfl (λd e=>?_) rfl;injection e with e;omega
 |marry i j=>
  show Good (if i=0\/j=0\/there l (i-1)=false\/there l (j-1)=false\/i=j then(l,ok (-2)) else if (person l (i-1)).spouse.isSome=true\/(person l (j-1)).spouse.isSome=true\/dead l (i-1)=true\/dead l (j-1)=true then(l,ok (-4)) else
   (setPerson (setPerson l (i-1) {person l (i-1) with spouse:=some (j-1)}) (j-1) {person (setPerson l (i-1) {person l (i-1) with spouse:=some (j-1)}) (j-1) with spouse:=some (i-1)},ok 0)).1
  split
  .exact g
  .rename_i h;split
   .exact g
   .rename_i h';simp only[not_or] at h h';obtain⟨a1,a2,a3,a4,a5⟩:=h;obtain⟨b1,b2,_,_⟩:=h';have b1':(person l (i-1)).spouse=none:=by
     cases e:(person l (i-1)).spouse with
     |none=>rfl
     |some x=>rw[e] at b1;exact absurd rfl b1
    have b2':(person l (j-1)).spouse=none:=by
     cases e:(person l (j-1)).spouse with
     |none=>rfl
     |some x=>rw[e] at b2;exact absurd rfl b2
    refine AFB (a:=some (j-1)) (b:=some (i-1)) g (FJ a3) (FJ a4) (by omega) _ rfl (λk e=>?_) (λk e=>?_) (λk x n1 n2 e=>?_)
    .injection e with e;exact⟨e.symm,rfl⟩
    .injection e with e;exact⟨e.symm,rfl⟩
    .have z:=(g.aR k x e).2.2;constructor
     .rintro rfl;rw[b1'] at z;cases z
     .rintro rfl;rw[b2'] at z;cases z
 |part i=>
  show Good (if i=0\/there l (i-1)=false then(l,ok (-2)) else(match (person l (i-1)).spouse with
  |none=>(l,ok (-4))
  |some j=>if dead l (i-1)=true\/dead l j=true then(l,ok (-4)) else
   (setPerson (setPerson l (i-1) {person l (i-1) with spouse:=none}) j {person (setPerson l (i-1) {person l (i-1) with spouse:=none}) j with spouse:=none},ok 0))).1
  split
  .exact g
  .rename_i h;simp only[not_or] at h;cases e:(person l (i-1)).spouse with
   |none=>exact g
   |some j=>
    dsimp only;split
    .exact g
    .have s1:=g.aR (i-1) j e;refine AFB (a:=none) (b:=none) g (FJ h.2) s1.2.1 s1.1 _ rfl (λk e=>nomatch e) (λk e=>nomatch e) (λk x n1 n2 e'=>?_);have z:=(g.aR k x e').2.2;constructor
     .rintro rfl;rw[e] at z;injection z with z;exact n2 z.symm
     .rintro rfl;rw[s1.2.2] at z;injection z with z;exact n1 z.symm
 |renounce i e=>
  show Good (if i=0\/e=0\/there l (i-1)=false\/there l (e-1)=false\/i=e then(l,ok (-2)) else if l.renounced.contains (i-1,e-1)=true then(l,ok (-3)) else({l with renounced:=l.renounced++[(i-1,e-1)]},ok 0)).1;split
  .exact g
  .rename_i h;split
   .exact g
   .rename_i h';simp only[not_or] at h;obtain⟨a1,a2,a3,a4,a5⟩:=h;have t1:=FJ a3;have t2:=FJ a4;refine⟨g.GV,g.par,g.two,g.day,g.aR,λx hx=>?_,?_,g.bB,g.az,g.S5,g.Z6,g.Ux,g.ZL⟩
    .rcases pT.mp hx with q|q
     .exact g.Rm x q
     .have:x=(i-1,e-1):=by simpa using q
      subst this;exact⟨t1,t2,by show i-1≠e-1;omega⟩
    .refine vV.mpr ⟨g.g6,by simp,λa ha b hb=>?_⟩;have:b=(i-1,e-1):=by simpa using hb
     subst this;rintro rfl;exact h' (rG.mpr ha)
 |gift e i j n d=>
  show Good (if e=0\/i=0\/there l (e-1)=false\/there l (i-1)=false\/l.persons.length<j then(l,ok (-2)) else if fracOk (n,d)=false\/n=0 then(l,ok (-1)) else if GIFTS<=l.gifts.length then(l,ok (-5)) else if ((sum ((l.gifts.filter λg=>g.of_==e-1).map λg=>g.part)).add (q n d)).le one=false then(l,ok (-6)) else({l with gifts:=l.gifts++[⟨e-1,i-1,if j=0 then none else some (j-1),q n d⟩]},ok ((l.gifts.length:Int)+1))).1;split
  .exact g
  .rename_i h;split
   .exact g
   .rename_i hf;split
    .exact g
    .rename_i h10;split
     .exact g
     .rename_i h1;simp only[not_or] at h hf;obtain⟨a1,a2,a3,a4,a5⟩:=h;have t1:=FJ a3;have t2:=FJ a4;have fo:fracOk (n,d)=true:=by simpa using hf.1
      have fq:=XE fo;have d0:0<d:=by unfold fracOk at fo;simp only[qm,decide_eq_true_eq] at fo;exact fo.1
      have h10':l.gifts.length<10:=by have:¬ 10<=l.gifts.length:=h10;omega
      have gq:∀e,∀x∈(l.gifts.filter λg=>g.of_==e).map λg=>g.part,Bm x:=λe x hx=>by obtain⟨y,hy,rfl⟩:=Θ.mp hx;exact(g.Ux y (d_.mp hy).1).2.2.2.1.1
      refine⟨g.GV,g.par,g.two,g.day,g.aR,g.Rm,g.g6,g.bB,g.az,g.S5,?_,λx hx=>?_,λe'=>?_⟩
      .show(l.gifts++[_]).length<=10;rw[pP];show l.gifts.length+1<=10;omega
      .rcases pT.mp hx with q|q
       .exact g.Ux x q
       .have:x=⟨e-1,i-1,if j=0 then none else some (j-1),sO n d⟩:=by simpa using q
        subst this;refine⟨t1,t2,λk hk=>?_,fq,?_⟩
        .dsimp only at hk;split at hk
         .cases hk
         .injection hk with hk;show k<l.persons.length;omega
        .have:=(Is.q (n:=n) d0).n0;show 0<(sO n d).n;rcases sS (sO n d).n with z|z
         .exact absurd (this.mp z) hf.2
         .exact z
      .show(sum (((l.gifts++[(⟨e-1,i-1,if j=0 then none else some (j-1),sO n d⟩:Gift)]).filter λg=>g.of_==e').map λg=>g.part)).le one=true;rw[uQ,se];by_cases q:e-1=e'
       .subst q;rw[qB,η (by simp)];show(sum (((l.gifts.filter λg=>g.of_==e-1).map λg=>g.part)++[sO n d])).le one=true;rw[sum_append (gq _) (by intro x hx;have:x=sO n d:=(by simpa using hx);rw[this];exact fq.1)];have:sum [sO n d]=sO n d:=AKI fq.1;rw[this];simpa using h1
       .rw[qB,ζ (by simp[q])];simp only[vB,vj,rC];exact g.ZL e'
structure Sz(D B:Nat)(x:Q):Prop where
 ok:Bm x
 pos:0<D
 dvd:x.d∣D
 le:x.n<=B*x.d
theorem AP9{x:Q}{m D:Nat}(h:Is x m D):x.d∣D:=by
 have:x.d∣x.n*D:=by rw[h.2.2];exact uI x.d m
 exact uF (xM h.1.2) this
theorem APy{x:Q}{D:Nat}(ok:Bm x)(h:x.d∣D)(p:0<D):Is x (x.n*(D/x.d)) D:=by refine⟨ok,p,?_⟩;rw[sW,Nat.div_mul_cancel h]
theorem Sz.of{x:Q}{m D B:Nat}(h:Is x m D)(hb:m<=B*D):Sz D B x:=by
 refine⟨h.1,h.2.1,AP9 h,?_⟩;have k:=h.2.2;refine Nat.le_of_mul_le_mul_right (c:=D) ?_ h.2.1
 calc x.n*D=m*x.d:=k
  _<=B*D*x.d:=pR _ hb
  _=B*x.d*D:=by ac_rfl
theorem Sz.is{x:Q}{D B:Nat}(h:Sz D B x):∃m,Is x m D/\m<=B*D:=by
 refine⟨x.n*(D/x.d),APy h.ok h.dvd h.pos,?_⟩
 calc x.n*(D/x.d)<=B*x.d*(D/x.d):=pR _ h.le
  _=B*(x.d*(D/x.d)):=sW ..
  _=B*D:=by rw[Nat.mul_div_cancel' h.dvd]
theorem Sz.dP{x:Q}{D B:Nat}(h:Sz D B x):x.d<=D:=Nat.le_of_dvd h.pos h.dvd
theorem Sz.fG{x:Q}{D B:Nat}(h:Sz D B x):x.n<=B*D:=a_ h.le (uG _ h.dP)
theorem Sz.mono{x:Q}{D B E C:Nat}(h:Sz D B x)(d:D∣E)(p:0<E)(b:B<=C):Sz E C x:=⟨h.ok,p,Nat.dvd_trans h.dvd d,a_ h.le (pR _ b)⟩
theorem Sz.zero{D:Nat}(p:0<D):Sz D 0 zero:=⟨IZ,p,Nat.one_dvd _,by decide⟩
theorem Sz.one{D:Nat}(p:0<D):Sz D 1 one:=⟨Bh,p,Nat.one_dvd _,by decide⟩
theorem Sz.add{x y:Q}{D B C:Nat}(h:Sz D B x)(k:Sz D C y):Sz D (B+C) (x.add y):=by
 obtain⟨m,h1,h2⟩:=h.is;obtain⟨n,k1,k2⟩:=k.is;refine Sz.of (m:=m+n) ((h1.add k1).same h.pos ?_) ?_
 .rw[tU,tU,sW,sW]
 .rw[tU];exact w9 h2 k2
theorem Sz.sub{x y:Q}{D B C:Nat}(h:Sz D B x)(k:Sz D C y):Sz D B (x.sub y):=by
 obtain⟨m,h1,h2⟩:=h.is;obtain⟨n,k1,k2⟩:=k.is;refine Sz.of (m:=m-n) ((h1.sub k1).same h.pos ?_) ?_
 .rw[yj,yj,sW,sW]
 .omega
theorem Sz.mul{x y:Q}{D E B C:Nat}(h:Sz D B x)(k:Sz E C y):Sz (D*E) (B*C) (x.mul y):=by
 obtain⟨m,h1,h2⟩:=h.is;obtain⟨n,k1,k2⟩:=k.is;refine Sz.of (h1.mul k1) ?_
 calc m*n<=(B*D)*(C*E):=yk h2 k2
  _=B*C*(D*E):=by ac_rfl
theorem AVD(c:Nat):Bm ⟨c,1⟩:=⟨s_,Nat.gcd_one_right c⟩
theorem Sz.Zs{x:Q}{D B c:Nat}(h:Sz D B x)(hc:0<c):Sz (D*c) B (x.div ⟨c,1⟩):=by
 obtain⟨m,h1,h2⟩:=h.is;have k:=h1.div (Is.self (AVD c)) (show 0<c from hc);refine Sz.of (m:=m) (k.same (p7 h.pos hc) ?_) ?_
 .show m*1*(D*c)=m*(D*c);rw[tT]
 .refine a_ h2 (uG _ (Nat.le_mul_of_pos_right D hc))
theorem Sz.div{x y:Q}{D B:Nat}(h:Sz D B x)(hy:Bm y)(hn:0<y.n):Sz (D*y.n) (B*y.d) (x.div y):=by
 obtain⟨m,h1,h2⟩:=h.is;have k:=h1.div (Is.self hy) hn;refine Sz.of k ?_
 calc m*y.d<=(B*D)*y.d:=pR _ h2
  _=B*y.d*D*1:=by rw[tT];ac_rfl
  _<=B*y.d*D*y.n:=uG _ hn
  _=B*y.d*(D*y.n):=by ac_rfl
theorem Sz.sum{D B:Nat}(p:0<D):∀{l:List Q},(∀x∈l,Sz D B x)->Sz D (l.length*B) (zj l)
 |[],_=>by rw[uT,wR];exact Sz.zero p
 |x::l,h=>by have a:=(h x (υ ..)).add (Sz.sum p λy hy=>h y (θ _ hy));refine a.mono (qi _) p ?_;rw[o_,tU,wA,xU];exact b_ _
theorem ZG.sz{x:Q}(h:ZG x):Sz x.d 1 x:=⟨h.1,h.1.1,qi _,by rw[wA];exact h.2.2⟩
def Oq:Nat:=720720
theorem YM:∀c:Nat,0<c->c<=16->c∣Oq:=by intro c h1 h2;exact(by decide +kernel:∀c:Fin 17,0<c.1->c.1∣Oq) ⟨c,Nat.lt_succ_of_le h2⟩ h1
def Cr:Nat:=69720375229712477164533808935312303556800
theorem AR9:∀c:Nat,0<c->c<=100->c∣Cr:=by intro c h1 h2;exact(by decide +kernel:∀c:Fin 101,0<c.1->c.1∣Cr) ⟨c,Nat.lt_succ_of_le h2⟩ h1
theorem Az:0<Cr:=by decide
theorem TZ:0<Oq:=by decide
theorem ZG.X8{x:Q}(h:ZG x):Sz Cr 1 x:=h.sz.mono (AR9 _ h.1.1 h.2.1) Az (b_ _)
theorem Mh{l:qa}(g:Good l)(i:Nat):(children l i).length<=16:=by rw[Qq];exact a_ (pU _ _) (by rw[qx];exact g.GV)
theorem Wh(f:Nat):0<Oq^f:=Nat.pow_pos TZ
theorem AJT{l:qa}(g:Good l)(e:Nat):∀(f i:Nat) (a:Q) (D B:Nat),Sz D B a->∀x∈toLine l e f i a,Sz (D*Oq^f) B x.2
 |0,_,_,_,_,_,x,hx=>by cases hx
 |f+1,i,a,D,B,h,x,hx=>by
  have pos:0<D*Oq^(f+1):=p7 h.pos (Wh _);unfold toLine at hx;split at hx
  .have:x=(i,a):=by simpa using hx
   rw[this];exact h.mono (rM D _) pos (b_ _)
  .split at hx
   .obtain⟨j,hj,hx⟩:=sC.mp hx;have c1:0<((children l i).filter (isLive l e)).length:=uP hj;have c2:((children l i).filter (isLive l e)).length<=16:=a_ (pU _ _) (Mh g i);have h1:=(h.Zs c1).mono (uv D (YM _ c1 c2)) (p7 h.pos TZ) (b_ _);have h2:=AJT g e f j _ _ _ h1 x hx;have e1:D*Oq*Oq^f=D*Oq^(f+1):=by rw[rN];ac_rfl
    rw[e1] at h2;exact h2
   .cases hx
theorem Nd{α β:Type}{m:Nat}{f:α->List β}:∀{l:List α},(∀x∈l,(f x).length<=m)->(l.flatMap f).length<=l.length*m
 |[],_=>by simp
 |a::l,h=>by rw[tX,pP,o_,tU,wA,xU];exact w9 (Nd λx hx=>h x (θ _ hx)) (h a (υ ..))
theorem AG3{l:qa}(g:Good l)(e:Nat):∀(f i:Nat) (a:Q),(toLine l e f i a).length<=16^f
 |0,_,_=>by simp[toLine]
 |f+1,i,a=>by
  unfold toLine;have p:0<16^(f+1):=Nat.pow_pos (by decide);split
  .show 1<=16^(f+1);exact p
  .split
   .refine a_ (Nd (m:=16^f) λj _=>AG3 g e f j _) ?_;rw[rN,vg];exact uG _ (a_ (pU _ _) (Mh g i))
   .simp
theorem AJV{l:qa}(g:Good l)(e i:Nat)(a:Q):toLine l e vY i a=toLine l e 16 i a:=by have:=g.GV;exact AGD g e vY 16 i a (by show _<=40;omega) (by omega)
theorem Rq{l:qa}(g:Good l)(e:Nat):∀(k i:Nat) (a:Q) (D B:Nat),Sz D B a->∀x∈toAbove l e k i a,Sz (D*2^k*Oq^16) B x.2
 |0,i,a,D,B,h,x,hx=>by unfold toAbove at hx;rw[AJV g] at hx;have:=AJT g e 16 i a D B h x hx;rw[yN,tT];exact this
 |k+1,i,a,D,B,h,x,hx=>by
  unfold toAbove at hx;obtain⟨j,hj,hx⟩:=sC.mp hx;have c1:0<((person l i).parents.filter (liveAbove l e k)).length:=uP hj;have c2:((person l i).parents.filter (liveAbove l e k)).length<=2:=a_ (pU _ _) (g.two i).1;have c3:((person l i).parents.filter (liveAbove l e k)).length∣2:=by
   generalize ((person l i).parents.filter (liveAbove l e k)).length=c at c1 c2;have:c=1\/c=2:=by omega
   rcases this with h|h<;>subst h<;>decide
  have h1:=(h.Zs c1).mono (uv D c3) (p7 h.pos (by decide)) (b_ _);have h2:=Rq g e k j _ _ _ h1 x hx;have e1:D*2*2^k=D*2^(k+1):=by rw[rN];ac_rfl
  rw[e1] at h2;exact h2
theorem QD{l:qa}(g:Good l)(e:Nat):∀(k i:Nat) (a:Q),(toAbove l e k i a).length<=2^k*16^16
 |0,i,a=>by unfold toAbove;rw[AJV g,yN,wA];exact AG3 g e 16 i a
 |k+1,i,a=>by unfold toAbove;refine a_ (Nd λj _=>QD g e k j _) ?_;have c2:((person l i).parents.filter (liveAbove l e k)).length<=2:=a_ (pU _ _) (g.two i).1;refine a_ (pR _ c2) ?_;rw[show 2^(k+1)=2*2^k by rw[rN,vg],sW];exact b_ _
theorem AGE{l:qa}(g:Good l)(e:Nat):∀(f i:Nat) (a:Q),∀x∈toLine l e f i a,x.1<l.persons.length
 |0,_,_,x,hx=>by cases hx
 |f+1,i,a,x,hx=>by
  unfold toLine at hx;split at hx
  .rename_i hm;have:x=(i,a):=by simpa using hx
   rw[this];show i<_;rcases vh i l.persons.length with q|q
   .exact q
   .rw[RG q] at hm;cases hm
  .split at hx
   .obtain⟨j,hj,hx⟩:=sC.mp hx;exact AGE g e f j _ x hx
   .cases hx
theorem Ia{l:qa}(g:Good l)(e:Nat):∀(k i:Nat) (a:Q),∀x∈toAbove l e k i a,x.1<l.persons.length
 |0,i,a,x,hx=>AGE g e vY i a x hx
 |k+1,i,a,x,hx=>by unfold toAbove at hx;obtain⟨j,hj,hx⟩:=sC.mp hx;exact Ia g e k j _ x hx
theorem UM{l:qa}{e i:Nat}(h:may l e i=true):i<l.persons.length:=by
 rcases vh i l.persons.length with q|q
 .exact q
 .rw[RG q] at h;cases h
theorem MY{l:qa}{e s:Nat}(h:spouseOf l e=some s):may l e s=true:=by
 unfold spouseOf at h;cases q:(person l e).spouse with
 |none=>rw[q] at h;cases h
 |some x=>
  rw[q] at h;have h':(if may l e x=true then some x else none)=some s:=h;split at h'
  .injection h' with h';rw[<-h'];assumption
  .cases h'
def aJ(D B:Nat)(s:qP):Prop:=∀x∈s,Sz D B x.2
def fm(m:Nat)(s:qP):Prop:=∀x∈s,x.1<m
theorem aJ.shareOf{D B:Nat}{s:qP}(p:0<D)(h:aJ D B s)(i:Nat):Sz D (s.length*B) (qE s i):=by
 unfold yJ;refine(Sz.sum (B:=B) p (l:=(s.filter λx=>x.1==i).map λx=>x.2) λy hy=>?_).mono (qi _) p ?_
 .obtain⟨x,hx,rfl⟩:=Θ.mp hy;exact h x (d_.mp hx).1
 .rw[χ];exact pR _ (pU _ _)
theorem AL9(m:Nat)(s:qP):(keys m s).length<=m:=by unfold keys;exact a_ (pU _ _) (by rw[qx];exact b_ _)
theorem Ml{D B m:Nat}{s:qP}(p:0<D)(h:aJ D B s)(k:fm m s):aJ D (s.length*B) (joined s)/\fm m (joined s)/\(joined s).length<=m:=by
 rw[AGO k];refine⟨λx hx=>?_,λx hx=>?_,?_⟩
 .obtain⟨i,hi,rfl⟩:=Θ.mp hx;exact h.shareOf p i
 .obtain⟨i,hi,rfl⟩:=Θ.mp hx;exact(mem_keys.mp hi).1
 .rw[χ];exact AL9 m s
def D1:Nat:=Cr*2^4*Oq^16
def B1:Nat:=2^4*16^16+1
theorem NS:0<D1:=p7 (p7 Az (by decide)) (Wh 16)
theorem Gw{l:qa}{e k:Nat}(h:classOf l e=some k):k<5:=by have:=List.mem_of_find?_eq_some h;simpa[CLASSES] using this
theorem ARe{l:qa}(g:Good l){k:Nat}(h:k<5):ZG (l.spouse.getD k zero):=by rw[rK,n_ (by rw[g.bB];exact h)];exact g.az _ (qI _)
theorem AUX{k:Nat}(hk:k<5):Cr*2^k*Oq^16∣D1:=by refine Nat.mul_dvd_mul_right (uv Cr (Nat.pow_dvd_pow 2 (by omega))) _
theorem Oi{l:qa}(g:Good l)(e:Nat):aJ D1 B1 (byLaw l e)/\fm l.persons.length (byLaw l e)/\(byLaw l e).length<=16:=by
 unfold byLaw;have AWP:Sz Cr 1 one:=Sz.one Az;have GV:=g.GV;split
 .rename_i k hk hs;have iV:=Gw hk;have s1:aJ D1 1 (toAbove l e k e one):=λx hx=>(Rq g e k e one Cr 1 AWP x hx).mono (AUX iV) NS (b_ _);obtain⟨a,b,c⟩:=Ml NS s1 (Ia g e k e one);have len:=QD g e k e one;have lk:2^k<=2^4:=qj (by decide) (by omega);refine⟨λx hx=>(a x hx).mono (qi _) NS ?_,b,by omega⟩;rw[tT];refine a_ len (a_ (pR _ lk) ?_);exact wB _
 .rename_i k s hk hs;have iV:=Gw hk;have hp:=ARe g iV;dsimp only;generalize hq:l.spouse.getD k zero=p at hp;have p1:Sz Cr 1 p:=hp.X8;have r1:Sz Cr 1 (one.sub p):=AWP.sub p1;have s1:aJ D1 1 ((if p=zero then[] else[(s,p)])++if p=one then[] else toAbove l e k e (one.sub p)):=λx hx=>by
   rcases pT.mp hx with h|h
   .split at h
    .cases h
    .have:x=(s,p):=by simpa using h
     rw[this];refine p1.mono ?_ NS (b_ _);unfold D1;rw[sW];exact rM _ _
   .split at h
    .cases h
    .exact(Rq g e k e _ Cr 1 r1 x h).mono (AUX iV) NS (b_ _)
  have k1:fm l.persons.length ((if p=zero then[] else[(s,p)])++if p=one then[] else toAbove l e k e (one.sub p)):=λx hx=>by
   rcases pT.mp hx with h|h
   .split at h
    .cases h
    .have:x=(s,p):=by simpa using h
     rw[this];exact UM (MY hs)
   .split at h
    .cases h
    .exact Ia g e k e _ x h
  obtain⟨a,b,c⟩:=Ml NS s1 k1;have len:((if p=zero then[] else[(s,p)])++if p=one then[] else toAbove l e k e (one.sub p)).length<=B1:=by
   rw[pP];have l1:(if p=zero then[] else[(s,p)]:qP).length<=1:=by split<;>simp
   have l2:(if p=one then[] else toAbove l e k e (one.sub p):qP).length<=2^4*16^16:=by
    split
    .simp
    .have lk:2^k<=2^4:=qj (by decide) (by omega);exact a_ (QD g e k e _) (pR _ lk)
   unfold B1;omega
  refine⟨λx hx=>(a x hx).mono (qi _) NS ?_,b,by omega⟩;rw[tT];exact len
 .rename_i s hk hs;refine⟨λx hx=>?_,λx hx=>?_,by simp⟩
  .have:x=(s,one):=by simpa using hx
   rw[this];exact(Sz.one NS).mono (qi _) NS (by unfold B1;omega)
  .have:x=(s,one):=by simpa using hx
   rw[this];exact UM (MY hs)
 .exact⟨λx hx=>(by cases hx),λx hx=>(by cases hx),by simp⟩
theorem Vb{l:qa}(g:Good l){x:Gift}{i:Nat}(h:taker l x=some i):i<l.persons.length:=by
 unfold taker at h;split at h
 .rename_i hm;injection h with h;rw[<-h];exact UM hm
 .cases q:x.else_ with
  |none=>rw[q] at h;cases h
  |some j=>
   rw[q] at h;have h':(if may l x.of_ j=true then some j else none)=some i:=h;split at h'
   .rename_i hm;injection h' with h';rw[<-h'];exact UM hm
   .cases h'
theorem Ra{l:qa}(g:Good l)(e:Nat):aJ Cr 1 (byWill l e)/\fm l.persons.length (byWill l e)/\(byWill l e).length<=10:=by
 refine⟨λx hx=>?_,λx hx=>?_,?_⟩
 .obtain⟨y,hy,q⟩:=tH.mp hx;obtain⟨i,hi,rfl⟩:=rE.mp q;exact(g.Ux y (d_.mp hy).1).2.2.2.1.X8
 .obtain⟨y,hy,q⟩:=tH.mp hx;obtain⟨i,hi,rfl⟩:=rE.mp q;exact Vb g hi
 .exact a_ (uC _ _) (a_ (pU _ _) g.Z6)
theorem ANj{l:qa}(g:Good l)(e:Nat):∀x∈byWill l e,0<x.2.n:=λx hx=>by obtain⟨y,hy,q⟩:=tH.mp hx;obtain⟨i,hi,rfl⟩:=rE.mp q;exact(g.Ux y (d_.mp hy).1).2.2.2.2
structure NQ(d b m n:Nat)(s:qP):Prop where
 ex:∃D B,D<2^d/\B<2^b/\0<D/\aJ D B s
 ky:fm m s
 len:s.length<=n
theorem AUY:D1<2^452:=by decide +kernel
theorem AUZ:B1<2^69:=by decide +kernel
theorem JU:Cr<2^136:=by decide +kernel
theorem A5{a b x y:Nat}(h:a<2^x)(k:b<2^y):a*b<2^(x+y):=by rw[xq];exact Nat.mul_lt_mul'' h k
theorem AQ{a x y:Nat}(h:a<2^x)(k:x<=y):a<2^y:=p8 h (qj (by decide) k)
theorem ASq{l:qa}(g:Good l)(e:Nat):Sz Cr 10 (sum ((byWill l e).map λx=>x.2)):=by
 obtain⟨a,b,c⟩:=Ra g e;refine(Sz.sum Az (B:=1) (l:=(byWill l e).map λx=>x.2) λy hy=>?_).mono (qi _) Az ?_
 .obtain⟨x,hx,rfl⟩:=Θ.mp hy;exact a x hx
 .rw[χ,tT];exact c
theorem AJO{l:qa}(g:Good l)(e:Nat):NQ 600 150 l.persons.length 16 (wished l e):=by
 obtain⟨w1,w2,w3⟩:=Ra g e;obtain⟨h1,h2,h3⟩:=Oi g e;have t1:=ASq g e;have r1:Sz Cr 1 (one.sub (sum ((byWill l e).map λx=>x.2))):=(Sz.one Az).sub t1;have GV:=g.GV;unfold wished;dsimp only;generalize hw:byWill l e=w at *;generalize ht:sum (w.map λx=>x.2)=t at *;generalize hh:byLaw l e=h at *;by_cases q:h=[]
 .rw[η q];have k:fm l.persons.length (w.map λx=>(x.1,x.2.div t)):=λx hx=>by obtain⟨y,hy,rfl⟩:=Θ.mp hx;exact w2 y hy
  by_cases z:t.n=0
  .have s:aJ 1 0 (w.map λx=>(x.1,x.2.div t)):=λx hx=>by obtain⟨y,hy,rfl⟩:=Θ.mp hx;show Sz 1 0 (y.2.div t);unfold zK;rw[η z];exact Sz.zero (by decide)
   obtain⟨a,b,c⟩:=Ml (by decide) s k;exact⟨⟨1,_,by decide +kernel,by rw[Nat.mul_zero];decide,by decide,a⟩,b,by omega⟩
  .have z':0<t.n:=vH z;have s:aJ (Cr*t.n) (1*t.d) (w.map λx=>(x.1,x.2.div t)):=λx hx=>by obtain⟨y,hy,rfl⟩:=Θ.mp hx;exact(w1 y hy).div t1.ok z'
   have p:0<Cr*t.n:=p7 Az z';obtain⟨a,b,c⟩:=Ml p s k;refine⟨⟨_,_,?_,?_,p,a⟩,b,by omega⟩
   .have n1:t.n<2^(4+136):=pN t1.fG (A5 (by decide) JU);exact AQ (A5 JU n1) (by decide)
   .have d1:t.d<2^136:=pN t1.dP JU;rw[χ,wA];have len:w.length<2^4:=by omega
    exact AQ (A5 len d1) (by decide)
 .rw[ζ q];generalize hr:one.sub t=r at *;have p:0<D1*Cr:=p7 NS Az;have b0:1<=B1:=by unfold B1;omega
  have s:aJ (D1*Cr) B1 (w++if r=zero then[] else h.map λx=>(x.1,x.2.mul r)):=λx hx=>by
   rcases pT.mp hx with y|y
   .exact(w1 x y).mono (uI Cr D1) p b0
   .split at y
    .cases y
    .obtain⟨z,hz,rfl⟩:=Θ.mp y;have:=(h1 z hz).mul r1;rw[tT] at this;exact this
  have k:fm l.persons.length (w++if r=zero then[] else h.map λx=>(x.1,x.2.mul r)):=λx hx=>by
   rcases pT.mp hx with y|y
   .exact w2 x y
   .split at y
    .cases y
    .obtain⟨z,hz,rfl⟩:=Θ.mp y;exact h2 z hz
  obtain⟨a,b,c⟩:=Ml p s k;refine⟨⟨_,_,?_,?_,p,a⟩,b,by omega⟩
  .exact AQ (A5 AUY JU) (by decide)
  .have len:(w++if r=zero then[] else h.map λx=>(x.1,x.2.mul r)).length<2^5:=by
    rw[pP];have:(if r=zero then[] else h.map λx=>(x.1,x.2.mul r):qP).length<=16:=by
     split
     .simp
     .rw[χ];exact h3
    omega
   exact AQ (A5 len AUZ) (by decide)
theorem YE{l:qa}(g:Good l)(e:Nat):NQ 600 150 l.persons.length 16 (kept l e):=by
 obtain⟨h1,h2,h3⟩:=Oi g e;have p:0<D1*Cr:=p7 NS Az;refine⟨⟨D1*Cr,B1,AQ (A5 AUY JU) (by decide),AQ AUZ (by decide),p,λx hx=>?_⟩,λx hx=>?_,?_⟩
 .obtain⟨z,hz,rfl⟩:=Θ.mp hx;have:=(h1 z (d_.mp hz).1).mul g.S5.X8;rw[tT] at this;exact this
 .obtain⟨z,hz,rfl⟩:=Θ.mp hx;exact h2 z (d_.mp hz).1
 .unfold kept;rw[χ];exact a_ (pU _ _) h3
structure Parts(l:qa)(e:Nat)(D B:Nat):Prop where
 pos:0<D
 kg:D<2^1200
 blt:B<2^154
 w:∀i,Sz D B (qE (wished l e) i)
 k:∀i,Sz D B (qE (kept l e) i)
theorem ALe{l:qa}(g:Good l)(e:Nat):∃D B,Parts l e D B:=by
 obtain⟨⟨D,B,d1,b1,p1,s1⟩,_,l1⟩:=AJO g e;obtain⟨⟨E,C,d2,b2,p2,s2⟩,_,l2⟩:=YE g e;refine⟨D*E,16*max B C,p7 p1 p2,A5 d1 d2,?_,λi=>?_,λi=>?_⟩
 .have h2:max B C<2^150:=Nat.max_lt.mpr ⟨b1,b2⟩;have e:(2:Nat)^154=16*2^150:=by decide +kernel
  rw[e];exact Nat.mul_lt_mul_of_pos_left h2 (by decide)
 .exact(s1.shareOf p1 i).mono (rM D E) (p7 p1 p2) (yk l1 (Nat.le_max_left _ _))
 .exact(s2.shareOf p2 i).mono (uI E D) (p7 p1 p2) (yk l2 (Nat.le_max_right _ _))
theorem Zk{l:qa}(g:Good l)(s:qP):(keys l.persons.length s).length<=16:=a_ (AL9 _ _) g.GV
def Le(l:qa)(e:Nat):Q:=sum ((uS (wished l e) (kept l e)).map λi=>(qE (kept l e) i).sub (qE (wished l e) i))
def LL(l:qa)(e:Nat):Q:=sum ((uS (wished l e) (kept l e)).map λi=>(qE (wished l e) i).sub (qE (kept l e) i))
theorem AJe(l:qa)(e:Nat):qC l e=((uS (wished l e) (kept l e)).map λi=>(i,if (qE (wished l e) i).le (qE (kept l e) i)=true then qE (kept l e) i else(qE (wished l e) i).sub (((qE (wished l e) i).sub (qE (kept l e) i)).mul ((Le l e).div (LL l e))))).filter λx=>x.2 != zero:=rfl
theorem OD{l:qa}(g:Good l)(e:Nat):uS (wished l e) (kept l e)=keys l.persons.length (wished l e++kept l e):=all_keys (AJO g e).ky (YE g e).ky
theorem O0{B:Nat}(h:B<2^154):16*B<2^158:=by
 have e:(2:Nat)^158=16*2^154:=by decide +kernel
 rw[e];exact Nat.mul_lt_mul_of_pos_left h (by decide)
theorem AQl{l:qa}(g:Good l){e D B:Nat}(p:Parts l e D B):Sz D (16*B) (Le l e):=by
 unfold Le;rw[OD g];refine(Sz.sum (B:=B) p.pos λy hy=>?_).mono (qi _) p.pos ?_
 .obtain⟨i,_,rfl⟩:=Θ.mp hy;exact(p.k i).sub (p.w i)
 .rw[χ];exact pR _ (Zk g _)
theorem ATK{l:qa}(g:Good l){e D B:Nat}(p:Parts l e D B):Sz D (16*B) (LL l e):=by
 unfold LL;rw[OD g];refine(Sz.sum (B:=B) p.pos λy hy=>?_).mono (qi _) p.pos ?_
 .obtain⟨i,_,rfl⟩:=Θ.mp hy;exact(p.w i).sub (p.k i)
 .rw[χ];exact pR _ (Zk g _)
set_option exponentiation.threshold 100000
theorem AP8{l:qa}(g:Good l){e D B:Nat}(p:Parts l e D B):∃F C,F<2^2558/\C<2^1358/\0<F/\Sz F C ((Le l e).div (LL l e)):=by
 have s1:=AQl g p;have m1:=ATK g p;have b:=O0 p.blt;by_cases z:(LL l e).n=0
 .refine⟨1,0,uM (by decide),uq _,by decide,?_⟩;unfold zK;rw[η z];exact Sz.zero (by decide)
 .have z':0<(LL l e).n:=vH z;refine⟨_,_,?_,?_,p7 p.pos z',s1.div m1.ok z'⟩
  .have n1:(LL l e).n<2^(158+1200):=pN m1.fG (A5 b p.kg);exact A5 p.kg n1
  .exact A5 b (pN m1.dP p.kg)
theorem Q6{l:qa}(g:Good l)(e:Nat):NQ 3758 154 l.persons.length 16 (qC l e):=by
 obtain⟨D,B,p⟩:=ALe g e;obtain⟨F,C,f1,c1,f0,fz⟩:=AP8 g p;have pos:0<D*F:=p7 p.pos f0;have d:D∣D*F:=rM D F;rw[AJe,OD g];refine⟨⟨D*F,B,A5 p.kg f1,p.blt,pos,λx hx=>?_⟩,λx hx=>?_,?_⟩
 .obtain⟨i,_,rfl⟩:=Θ.mp (d_.mp hx).1;dsimp only;split
  .exact(p.k i).mono d pos (b_ _)
  .exact((p.w i).mono d pos (b_ _)).sub (((p.w i).sub (p.k i)).mul fz)
 .obtain⟨i,hi,rfl⟩:=Θ.mp (d_.mp hx).1;exact(mem_keys.mp hi).1
 .refine a_ (pU _ _) ?_;rw[χ];exact Zk g _
theorem APW{l:qa}(g:Good l){d b:Nat}{s:qP}(h:NQ d b (l.persons.length+1) 17 s)(hb:154<=b)(e:Nat):NQ (d+3758) (b+170) (l.persons.length+1) 17 (passOn l s e):=by
 have GV:=g.GV;obtain⟨⟨D,B,d1,b1,p1,s1⟩,k1,l1⟩:=h;obtain⟨⟨E,C,d2,b2,p2,s2⟩,k2,l2⟩:=Q6 g e;have pos:0<D*E:=p7 p1 p2;unfold passOn;split
 .exact⟨⟨D,B,AQ d1 (by omega),AQ b1 (by omega),p1,s1⟩,k1,l1⟩
 .dsimp only;have so:Sz D (17*B) (qE s e):=(s1.shareOf p1 e).mono (qi _) p1 (pR _ l1);generalize hM:max (17*B) (C*(17*B))=M;have m1:17*B<=M:=by rw[<-hM];exact Nat.le_max_left _ _
  have m2:C*(17*B)<=M:=by rw[<-hM];exact Nat.le_max_right _ _
  have mb:M<2^(154+(5+b)):=by have z:17*B<2^(5+b):=A5 (by decide) b1;rw[<-hM];exact Nat.max_lt.mpr ⟨AQ z (by omega),A5 b2 z⟩
  generalize hT:(s.filter (λx=>x.1 != e)++if qC l e=[] then[(l.persons.length,qE s e)] else(qC l e).map λx=>(x.1,x.2.mul (qE s e)))=T;have sT:aJ (D*E) M T:=by
   rw[<-hT];intro x hx;rcases pT.mp hx with y|y
   .refine(s1 x (d_.mp y).1).mono (rM D E) pos (a_ ?_ m1);exact Nat.le_mul_of_pos_left B (by decide)
   .split at y
    .have:x=(l.persons.length,qE s e):=by simpa using y
     rw[this];exact so.mono (rM D E) pos m1
    .obtain⟨z,hz,rfl⟩:=Θ.mp y;have q:=(s2 z hz).mul so;rw[vg E D] at q;exact q.mono (qi _) pos m2
  have kT:fm (l.persons.length+1) T:=by
   rw[<-hT];intro x hx;rcases pT.mp hx with y|y
   .exact k1 x (d_.mp y).1
   .split at y
    .have:x=(l.persons.length,qE s e):=by simpa using y
     rw[this];exact tG _
    .obtain⟨z,hz,rfl⟩:=Θ.mp y;exact uY (k2 z hz)
  have lT:T.length<2^6:=by
   rw[<-hT,pP];have z1:(s.filter (λx=>x.1 != e)).length<=17:=a_ (pU _ _) l1;have z2:(if qC l e=[] then[(l.persons.length,qE s e)] else(qC l e).map λx=>(x.1,x.2.mul (qE s e)):qP).length<=16:=by
    split
    .simp
    .rw[χ];exact l2
   omega
  obtain⟨a,b',c⟩:=Ml pos sT kT;refine⟨⟨_,_,A5 d1 d2,?_,pos,a⟩,b',by omega⟩;exact AQ (A5 lT mb) (by omega)
theorem YL{l:qa}(g:Good l):∀(es:List Nat) {d b:Nat}{s:qP},NQ d b (l.persons.length+1) 17 s->154<=b->NQ (d+es.length*3758) (b+es.length*170) (l.persons.length+1) 17 (es.foldl (passOn l) s)
 |[],d,b,s,h,_=>by simpa using h
 |e::es,d,b,s,h,hb=>by
  have h1:=APW g h hb e;have h2:=YL g es h1 (by omega);rw[q_,o_];have e1:d+3758+es.length*3758=d+(es.length+1)*3758:=by rw[tU];omega
  have e2:b+170+es.length*170=b+(es.length+1)*170:=by rw[tU];omega
  rw[e1,e2] at h2;exact h2
theorem ANf{l:qa}(g:Good l)(t day:Nat):(deathsAfter l t day).length<=16:=by unfold deathsAfter;rw[χ,(vp _ _).length_eq];refine a_ (pU _ _) (a_ (uC _ _) ?_);rw[List.length_zipIdx];exact g.GV
theorem NQ.mono{d b m n d' b' m' n':Nat}{s:qP}(h:NQ d b m n s)(h1:d<=d')(h2:b<=b')(h3:m<=m')(h4:n<=n'):NQ d' b' m' n' s:=by obtain⟨⟨D,B,d1,b1,p1,s1⟩,k1,l1⟩:=h;exact⟨⟨D,B,AQ d1 h1,AQ b1 h2,p1,s1⟩,λx hx=>p8 (k1 x hx) h3,a_ l1 h4⟩
theorem AR3{l:qa}(g:Good l)(e:Nat):NQ 3758 154 (l.persons.length+1) 17 (if qC l e=[] then[(l.persons.length,one)] else qC l e):=by
 split
 .refine⟨⟨1,1,uM (by decide),uM (by decide),by decide,λx hx=>?_⟩,λx hx=>?_,by simp⟩
  .have:x=(l.persons.length,one):=by simpa using hx
   rw[this];exact Sz.one (by decide)
  .have:x=(l.persons.length,one):=by simpa using hx
   rw[this];exact tG _
 .exact(Q6 g e).mono (b_ _) (b_ _) (wB _) (by decide)
theorem ATp{l:qa}(g:Good l)(e:Nat)(t day:Nat):NQ 63886 2874 (l.persons.length+1) 17 ((deathsAfter l t day).foldl (passOn l) (if qC l e=[] then[(l.persons.length,one)] else qC l e)):=by have h:=YL g (deathsAfter l t day) (AR3 g e) (b_ _);have:=ANf g t day;exact h.mono (by omega) (by omega) (b_ _) (b_ _)
set_option exponentiation.threshold 256
theorem _root_.L2.Lx.le{a b c:Nat}{p q:Prop}(h:L2.Lx a b p)(k:b<=c)(f:p->q):L2.Lx a c q:=h.tr wV ((Nat.lt_or_eq_of_le k).imp id λe=>⟨e,trivial⟩) λh (_:True)=>f h
def bU(a b:Nat×Nat):Bool:=decide (a.1<b.1)||(a.1==b.1&&decide (a.2<=b.2))
theorem Lo{a b:Nat×Nat}:bU a b=true↔a.1<b.1\/(a.1=b.1/\a.2<=b.2):=by unfold bU;simp
def LU(l:qa)(t day:Nat):List (Nat×Nat):=(l.persons.zipIdx.filterMap λx=>x.1.died.map λd=>(d,x.2)).filter λx=>decide (t<x.1)&&decide (x.1<=day)
theorem AFC(l:qa)(t day:Nat):deathsAfter l t day=((LU l t day).mergeSort bU).map λx=>x.2:=rfl
theorem AHh{l:qa}{t day d i:Nat}:(d,i)∈LU l t day↔i<l.persons.length/\(person l i).died=some d/\t<d/\d<=day:=by
 unfold LU;rw[d_,tH,qm,decide_eq_true_eq,decide_eq_true_eq];constructor
 .rintro⟨⟨x,hx,q⟩,h1,h2⟩;obtain⟨d',hd,e⟩:=rE.mp q;injection e with e1 e2;have Wl:(x.1,x.2)∈l.persons.zipIdx:=hx;have hz:=List.mk_mem_zipIdx_iff_getElem?.mp Wl;rw[e2] at hz;obtain⟨Na,hg⟩:=l_.mp hz;refine⟨Na,?_,h1,h2⟩;rw[AJk Na,hg,hd,e1]
 .rintro⟨Na,hd,h1,h2⟩;refine⟨⟨(l.persons[i],i),List.mk_mem_zipIdx_iff_getElem?.mpr (n_ Na),?_⟩,h1,h2⟩;rw[AJk Na] at hd;show(l.persons[i].died.map λd=>(d,i))=some (d,i);rw[hd];rfl
theorem AFi(l:qa)(t day:Nat):(LU l t day).Nodup:=by
 unfold LU;refine List.Pairwise.filter _ ?_;have key:∀(ps:List zy) (k:Nat),((ps.zipIdx k).filterMap λx=>x.1.died.map λd=>(d,x.2)).Pairwise λa b=>a.2<b.2:=by
  intro ps
  induction ps with
  |nil=>intro k;simp
  |cons p ps ih=>
   intro k;rw[List.zipIdx_cons,rB];have tl:∀b∈((ps.zipIdx (k+1)).filterMap λx=>x.1.died.map λd=>(d,x.2)),k<b.2:=by intro b hb;obtain⟨x,hx,q⟩:=tH.mp hb;obtain⟨d,_,rfl⟩:=rE.mp q;have:=List.le_snd_of_mem_zipIdx hx;exact this
   cases p.died with
   |none=>exact ih (k+1)
   |some d=>exact uO.mpr ⟨tl,ih (k+1)⟩
 exact(key l.persons 0).imp λh e=>by rw[e] at h;exact r_ _ h
theorem AI3{l:qa}{t day:Nat}{es:List (Nat×Nat)}(hp:es.Pairwise λa b=>bU a b=true)(hn:es.Nodup)(hm:∀d i,(d,i)∈es↔i<l.persons.length/\(person l i).died=some d/\t<d/\d<=day):
  deathsAfter l t day=es.map λx=>x.2:=by
 rw[AFC];have tr:∀a b c:Nat×Nat,bU a b=true->bU b c=true->bU a c=true:=λa b c h1 h2=>Lo.mpr (L2.Lx.tr wV (Lo.mp h1) (Lo.mp h2) a_);have tt:∀a b:Nat×Nat,(bU a b||bU b a)=true:=λa b=>by rw[t9,Lo,Lo];exact L2.cI (xr _ _) (xT _ _)
 have e:(LU l t day).mergeSort bU=es:=by
  refine vv (le:=λa b=>bU a b=true) (λa b _ _ h1 h2=>?_) (vL tr tt _) hp ?_
  .obtain⟨e,h1,h2⟩:=L2.Lx.an xS (Lo.mp h1) (Lo.mp h2);exact vQ e (Nat.le_antisymm h1 h2)
  .refine(vp _ _).trans ((r8 (AFi l t day) hn).mpr λx=>?_);obtain⟨d,i⟩:=x;rw[AHh,hm]
 rw[e]
abbrev T3:=Nat×Nat×Nat
def aY(x y:T3):Bool:=decide (x.2.1+x.2.2<y.2.1+y.2.2)||(x.2.1+x.2.2==y.2.1+y.2.2&&(decide (x.2.1<y.2.1)||(x.2.1==y.2.1&&decide (x.1<=y.1))))
theorem Lf{x y:T3}:aY x y=true↔x.2.1+x.2.2<y.2.1+y.2.2\/(x.2.1+x.2.2=y.2.1+y.2.2/\(x.2.1<y.2.1\/(x.2.1=y.2.1/\x.1<=y.1))):=by unfold aY;simp
def common(l:qa)(i j:Nat):List T3:=(aboves l vY 0 i).flatMap λx=>((aboves l vY 0 j).filter λy=>y.1==x.1).map λy=>(x.1,x.2,y.2)
theorem AC4(l:qa)(i j:Nat):related l i j=((common l i j).mergeSort aY).head?:=rfl
theorem R9{l:qa}{i j p a b:Nat}:(p,a,b)∈common l i j↔(p,a)∈aboves l vY 0 i/\(p,b)∈aboves l vY 0 j:=by
 unfold common;rw[sC];constructor
 .rintro⟨x,hx,q⟩;obtain⟨y,hy,e⟩:=Θ.mp q;injection e with e1 e2;injection e2 with e2 e3;have eG:=d_.mp hy;have e4:y.1=x.1:=by simpa using eG.2
  refine⟨?_,?_⟩
  .rw[<-e1,<-e2];exact hx
  .rw[<-e1,<-e4,<-e3];exact eG.1
 .rintro⟨h1,h2⟩;exact⟨(p,a),h1,Θ.mpr ⟨(p,b),d_.mpr ⟨h2,by simp⟩,rfl⟩⟩
theorem AKT{l:qa}{i j:Nat}{x:T3}(hx:x∈common l i j)(hm:∀y∈common l i j,aY x y=true):related l i j=some x:=by
 rw[AC4];have tr:∀a b c:T3,aY a b=true->aY b c=true->aY a c=true:=λa b c h1 h2=>Lf.mpr (L2.Lx.tr wV (Lf.mp h1) (Lf.mp h2) λh1 h2=>L2.Lx.tr wV h1 h2 a_);have tt:∀a b:T3,(aY a b||aY b a)=true:=λa b=>by rw[t9,Lf,Lf];exact L2.cI (xr _ _) (L2.cI (xr _ _) (xT _ _))
 have hp:=vL tr tt (common l i j);have hq:=vp (common l i j) aY;cases e:(common l i j).mergeSort aY with
 |nil=>rw[e] at hq;have:=hq.mem_iff.mpr hx;cases this
 |cons y r=>
  rw[e] at hp hq;have hy:y∈common l i j:=hq.mem_iff.mp (υ ..);have h1:=hm y hy;have h2:aY y x=true:=by
   rcases pM.mp (hq.mem_iff.mpr hx) with q|q
   .rw[q];have:=tt y y;simpa using this
   .exact(uO.mp hp).1 x q
  obtain⟨e1,h1,h2⟩:=L2.Lx.an xS (Lf.mp h1) (Lf.mp h2);obtain⟨e2,h1,h2⟩:=L2.Lx.an xS h1 h2;show some y=some x;rw[e2] at e1;rw[vQ (Nat.le_antisymm h2 h1) (vQ e2.symm (Nat.add_left_cancel e1).symm)]
theorem AKU{l:qa}{i j:Nat}(h:common l i j=[]):related l i j=none:=by rw[AC4,h,List.mergeSort_nil];rfl
end Hx
namespace Hx
abbrev C:=Int×List Int
def Yz(c:C):List Int:=c.1::(c.2.length:Int)::(c.2++[0])
def flat(cs:List C):List Int:=cs.flatMap Yz
structure Ask(c:C):Prop where
 p0:0<=c.1
 p1:c.1<4294967296
 ns:∀z∈c.2,0<=z/\z<4294967296
 AV9:(uL (c.1::c.2)).isSome=true
def run:e_->List C->List Int
 |_,[]=>[]
 |s,c::r=>((sj s [c.1::c.2]).2.length:Int)::((sj s [c.1::c.2]).2++run (sj s [c.1::c.2]).1 r)
theorem AUN{z:Int}(h:wL z 32=true):0<=z/\z<4294967296:=by unfold wL at h;rw[qm] at h;have h1:=zod h.1;have h2:=zod h.2;exact⟨h1,h2⟩
theorem AK6:∀(s:e_) (cs:List C),PyFlat.told (PyFlat.played sj s (cs.map λc=>[c.1::c.2]))=run s cs
 |_,[]=>rfl
 |s,c::cs=>by show _::(_++PyFlat.told (PyFlat.played sj _ (cs.map λc=>[c.1::c.2])))=_;rw[AK6 _ cs];rfl
theorem ALW:∀(cs:List C),PyWide.put (cs.map λc=>[c.1::c.2])=flat cs
 |[]=>rfl
 |c::cs=>by show PyWide.put1 [c.1::c.2]++PyWide.put (cs.map λc=>[c.1::c.2])=Yz c++flat cs;rw[ALW cs];rfl
theorem ANl{l:List Int}(h:wz l=true):∃cs:List C,l=flat cs/\ye l=run ve cs/\cs.length<=100/\∀c∈cs,Ask c:=by
 unfold wz at h;unfold ye;cases e:PySi49.calls l with
 |none=>rw[e] at h;cases h
 |some ds=>
  rw[e] at h;have h':(PyFlat.atMost 100 ds&&Si49Neutral.asked ds)=true:=h;rw[qm] at h';obtain⟨h1,h2⟩:=h';unfold Si49Neutral.asked at h2;rw[qm] at h2;have dD:=tK.mp h2.1;obtain⟨el,oks⟩:=PyWide.put_calls _ l ds e;have hl:ds.length<=100:=zod h1;have key:∀ds:List (List (List Int)),(∀x∈ds,Si49Neutral.asked1 x=true)->(∀c∈ds,PyWide.okCall c)->∃cs:List C,ds=cs.map (λc=>[c.1::c.2])/\∀c∈cs,Ask c:=by
   intro ds
   induction ds with
   |nil=>intro _ _;exact⟨[],rfl,λc hc=>by cases hc⟩
   |cons d ds ih=>
    intro ha ho;obtain⟨cs,e1,e2⟩:=ih (λx hx=>ha x (θ _ hx)) λx hx=>ho x (θ _ hx);obtain⟨p,ns,xs,ed⟩:=ho d (υ ..);have a:=ha d (υ ..);subst ed;unfold Si49Neutral.asked1 at a;rw[qm,qm] at a;obtain⟨a1,a2,a3⟩:=a;have len:xs=[]:=by
     have:xs.length+1=1:=by simpa using a1
     exact rm (by omega)
    subst len;have all:=tK.mp (show(p::ns).all (λz=>wL z 32)=true from a2);have q:=AUN (all p (υ ..));refine⟨(p,ns)::cs,by rw[e1];rfl,λc hc=>?_⟩;rcases pM.mp hc with r|r
    .subst r;exact⟨q.1,q.2,λz hz=>AUN (all z (θ _ hz)),a3⟩
    .exact e2 c r
  obtain⟨cs,e1,e2⟩:=key ds dD oks;subst e1;refine⟨cs,by rw[el,ALW],?_,by simpa using hl,e2⟩;exact AK6 _ cs
theorem AP6(c:C)(cs:List C):flat (c::cs)=c.1::(c.2.length:Int)::(c.2++(0::flat cs)):=by show Yz c++flat cs=_;unfold Yz;simp
open Si49
def rv(x:Q):Rat:=(x.n:Rat)/(x.d:Rat)
theorem KR{d:Nat}(h:0<d):(d:Rat)≠0:=λe=>by
 have:d=0:=by exact_mod_cast e
 omega
theorem Sw{d:Nat}(h:0<d):(0:Rat)<(d:Rat):=by exact_mod_cast h
theorem ARU(d:Nat):(0:Rat)<=(d:Rat):=by exact_mod_cast qG d
theorem AH4{a b c d:Rat}(hb:b≠0)(hd:d≠0):a/b=c/d↔a*d=c*b:=by
 constructor
 .intro h;have h1:a=a/b*b:=by grind
  have h2:c=c/d*d:=by grind
  rw[h1,h2,h]
  grind
 .intro h;have h1:a/b=(a*d)/(b*d):=by grind
  have h2:c/d=(c*b)/(b*d):=by grind
  rw[h1,h2,h]
theorem AWC{x:Q}{n d:Nat}(h:Is x n d):rv x=(n:Rat)/(d:Rat):=by
 have h1:=h.1.1;have h2:=h.2.1;refine(AH4 (KR h1) (KR h2)).mpr ?_
 exact_mod_cast h.2.2
theorem cC{n d:Nat}(h:0<d):rv (q n d)=(n:Rat)/(d:Rat):=AWC (.q h)
theorem QO{x y:Q}(hx:Bm x)(hy:Bm y)(h:rv x=rv y):x=y:=by
 refine hx.ext hy ?_;have:=(AH4 (KR hx.1) (KR hy.1)).mp h
 exact_mod_cast this
theorem Aw:rv zero=0:=by unfold rv zero;grind
theorem Ge:rv one=1:=by unfold rv one;grind
theorem Rw{x y:Q}(hx:Bm x)(hy:Bm y):rv (x.add y)=rv x+rv y:=by
 unfold zL;rw[cC (p7 hx.1 hy.1)];have a:=KR hx.1;have b:=KR hy.1;unfold rv
 push_cast
 grind
theorem O5{x y:Q}(hx:Bm x)(hy:Bm y):rv (x.mul y)=rv x*rv y:=by
 unfold Q.mul;rw[cC (p7 hx.1 hy.1)];have a:=KR hx.1;have b:=KR hy.1;unfold rv
 push_cast
 grind
theorem KG{x y:Q}(hx:Bm x)(hy:Bm y):rv (x.div y)=rv x/rv y:=by
 unfold zK;split
 .rename_i h;show rv zero=_;rw[Aw];unfold rv;rw[h]
  grind
 .rename_i h;have c:0<y.n:=by omega
  rw[cC (p7 hx.1 c)];have a:=KR hx.1;have b:=KR hy.1;have c:=KR c;unfold rv
  push_cast
  grind
theorem AVZ{a:Rat}(h:0<=a):0<=a⁻¹:=by
 rcases Rat.le_iff_lt_or_eq.mp h with q|q
 .exact Rat.le_of_lt (yX.mpr q)
 .rw[<-q,Rat.inv_zero];exact r6
theorem AGP{a b c d:Rat}(hb:0<b)(hd:0<d):a/b<=c/d↔a*d<=c*b:=by
 have Jg:b≠0:=λe=>by rw[e] at hb;exact Rat.lt_irrefl hb
 have Et:d≠0:=λe=>by rw[e] at hd;exact Rat.lt_irrefl hd
 have p:0<b*d:=yd hb hd;have e1:a/b*(b*d)=a*d:=by grind
 have e2:c/d*(b*d)=c*b:=by grind
 constructor
 .intro h;rw[<-e1,<-e2];exact Rat.mul_le_mul_of_nonneg_right h (Rat.le_of_lt p)
 .intro h;rw[<-e1,<-e2] at h;exact Rat.le_of_mul_le_mul_right h p
theorem Pp(x:Q):0<=rv x:=by unfold rv;rw[yY];exact Rat.mul_nonneg (ARU _) (AVZ (ARU _))
theorem Rk{x y:Q}(hx:Bm x)(hy:Bm y):x.le y=true↔rv x<=rv y:=by
 unfold zT;rw[decide_eq_true_iff];unfold rv;have a:=Sw hx.1;have b:=Sw hy.1;rw[AGP a b];constructor
 .intro h;exact_mod_cast h
 .intro h;exact_mod_cast h
theorem QN{x y:Q}(hx:Bm x)(hy:Bm y)(h:rv y<=rv x):rv (x.sub y)=rv x-rv y:=by
 have hle:=(Rk hy hx).mpr h;unfold zT at hle;rw[decide_eq_true_iff] at hle;unfold Q.sub;rw[cC (p7 hx.1 hy.1)];have a:=KR hx.1;have b:=KR hy.1;unfold rv;have e:((x.n*y.d-y.n*x.d:Nat):Rat)=(x.n:Rat)*y.d-(y.n:Rat)*x.d:=by
  have e1:((x.n*y.d-y.n*x.d:Nat):Rat)+((y.n*x.d:Nat):Rat)=((x.n*y.d:Nat):Rat):=by exact_mod_cast Nat.sub_add_cancel hle
  push_cast at e1 ⊢
  grind
 rw[e]
 push_cast
 grind
theorem AOE{x y:Q}(hx:Bm x)(hy:Bm y)(h:rv x<=rv y):rv (x.sub y)=0:=by
 have hle:=(Rk hx hy).mpr h;unfold zT at hle;rw[decide_eq_true_iff] at hle;unfold Q.sub;rw[Nat.sub_eq_zero_of_le hle,cC (p7 hx.1 hy.1)]
 grind
theorem AUw{x:Q}(hx:Bm x):rv x=0↔x=zero:=by
 constructor
 .intro h;exact QO hx IZ (by rw[h,Aw])
 .rintro rfl;exact Aw
theorem LC{x:Q}(hx:Bm x):0<rv x↔0<x.n:=by
 constructor
 .intro h;rcases sS x.n with q|q
  .unfold rv at h;rw[q] at h;exfalso;have:((0:Nat):Rat)/(x.d:Rat)=0:=by grind
   rw[this] at h;exact absurd h (by decide)
  .exact q
 .intro h;unfold rv;rw[yY];exact yd (Sw h) (yX.mpr (Sw hx.1))
theorem X0{x:Q}(hx:Bm x):x.n=0↔x=zero:=by
 constructor
 .intro h;refine QO hx IZ ?_;unfold rv zero;rw[h];grind
 .rintro rfl;rfl
abbrev D(α:Type):=List (Nat×α)
section
variable {α:Type}
def BP:D α->Nat->Option α
 |[],_=>none
 |x::d,k=>if x.1=k then some x.2 else BP d k
def dput:D α->Nat->α->D α
 |[],k,v=>[(k,v)]
 |x::d,k,v=>if x.1=k then(k,v)::d else x::dput d k v
def Ef(d:D α)(k:Nat):D α:=d.filter λx=>x.1 != k
def AJ(d:D α):List Nat:=d.map λx=>x.1
theorem Ql(d:D α)(k:Nat)(v:α)(j:Nat):BP (dput d k v) j=if k=j then some v else BP d j:=by
 induction d with
 |nil=>rfl
 |cons x d ih=>
  unfold dput;by_cases h:x.1=k
  .rw[η h];show(if k=j then some v else BP d j)=if k=j then some v else(if x.1=j then some x.2 else BP d j);by_cases e:k=j
   .rw[η e,η e]
   .rw[ζ e,ζ e,ζ (λz=>e (h.symm.trans z))]
  .rw[ζ h];show(if x.1=j then some x.2 else BP (dput d k v) j)=if k=j then some v else(if x.1=j then some x.2 else BP d j);rw[ih];by_cases e:x.1=j
   .rw[η e,η e,ζ (λz=>h (e.trans z.symm))]
   .rw[ζ e,ζ e]
theorem BO{d:D α}{k:Nat}:BP d k=none↔k∉AJ d:=by
 induction d with
 |nil=>exact⟨λ_ h=>(by cases h),λ_=>rfl⟩
 |cons x d ih=>
  show(if x.1=k then some x.2 else BP d k)=none↔k∉x.1::AJ d;rw[pM,not_or];by_cases h:x.1=k
  .rw[η h];exact⟨λz=>(by cases z),λz=>absurd h.symm z.1⟩
  .rw[ζ h,ih];exact⟨λz=>⟨λy=>h y.symm,z⟩,λz=>z.2⟩
theorem GO{d:D α}{k:Nat}{v:α}(h:BP d k=some v):(k,v)∈d:=by
 induction d with
 |nil=>cases h
 |cons x d ih=>
  have h':(if x.1=k then some x.2 else BP d k)=some v:=h;by_cases e:x.1=k
  .rw[η e] at h';injection h' with h';rw[<-e,<-h'];exact υ ..
  .rw[ζ e] at h';exact θ _ (ih h')
theorem Kn{d:D α}(nd:(AJ d).Nodup){k:Nat}{v:α}(h:(k,v)∈d):BP d k=some v:=by
 induction d with
 |nil=>cases h
 |cons x d ih=>
  have P5:=qv.mp nd;show(if x.1=k then some x.2 else BP d k)=some v;rcases pM.mp h with e|e
  .rw[<-e,η rfl]
  .have:k∈AJ d:=Θ.mpr ⟨_,e,rfl⟩;rw[ζ (λz:x.1=k=>P5.1 (by show x.1∈AJ d;rw[z];exact this)),ih P5.2 e]
theorem AJ7(d:D α)(k:Nat)(v:α):AJ (dput d k v)=if k∈AJ d then AJ d else AJ d++[k]:=by
 induction d with
 |nil=>simp[AJ,dput]
 |cons x d ih=>
  unfold dput;by_cases h:x.1=k
  .rw[η h,η (by rw[<-h];exact υ ..)];show k::AJ d=x.1::AJ d;rw[h]
  .rw[ζ h];show x.1::AJ (dput d k v)=_;rw[ih];by_cases e:k∈AJ d
   .have hm:k∈AJ (x::d):=θ _ e;rw[η e,η hm];rfl
   .have hm:¬ k∈AJ (x::d):=λz=>by
     rcases pM.mp z with z|z
     .exact h z.symm
     .exact e z
    rw[ζ e,ζ hm];rfl
theorem LF{d:D α}(nd:(AJ d).Nodup)(k:Nat)(v:α):(AJ (dput d k v)).Nodup:=by
 rw[AJ7];split
 .exact nd
 .rename_i h;exact vV.mpr ⟨nd,by simp,λa ha b hb e=>h (by rw[<-i_.mp hb,<-e];exact ha)⟩
theorem VJ{d:D α}{k:Nat}{v:α}{x:Nat×α}(h:x∈dput d k v):x=(k,v)\/x∈d:=by
 induction d with
 |nil=>exact .inl (i_.mp h)
 |cons y d ih=>
  unfold dput at h;by_cases e:y.1=k
  .rw[η e] at h;rcases pM.mp h with q|q
   .exact .inl q
   .exact .inr (θ _ q)
  .rw[ζ e] at h;rcases pM.mp h with q|q
   .exact .inr (q ▸ υ ..)
   .rcases ih q with z|z
    .exact .inl z
    .exact .inr (θ _ z)
theorem D7{d:D α}{k:Nat}{v:α}{j:Nat}:j∈AJ (dput d k v)↔j=k\/j∈AJ d:=by
 rw[AJ7];split
 .rename_i h;exact⟨.inr,λz=>z.elim (λe=>e▸h) id⟩
 .rw[pT,i_];exact⟨λz=>z.symm,λz=>z.symm⟩
theorem NY(d:D α)(k:Nat)(v:α):(dput d k v).length<=d.length+1:=by
 induction d with
 |nil=>simp[dput]
 |cons x d ih=>
  unfold dput;split
  .simp
  .simp only[o_];omega
theorem AJ8(d:D α)(k j:Nat):BP (Ef d k) j=if j=k then none else BP d j:=by
 induction d with
 |nil=>unfold Ef;simp[BP]
 |cons x d ih=>
  unfold Ef at ih ⊢;rw[qB];by_cases h:x.1=k
  .have:(x.1 != k)=false:=by simp[h]
   rw[this,ζ Λ,ih];by_cases e:j=k
   .rw[η e,η e]
   .rw[ζ e,ζ e];show _=if x.1=j then some x.2 else BP d j;rw[ζ (λz=>e (z.symm.trans h))]
  .have:(x.1 != k)=true:=by simp[h]
   rw[this,η rfl];show(if x.1=j then some x.2 else BP _ j)=_;rw[ih];by_cases e:x.1=j
   .have:¬ j=k:=λz=>h (e.trans z);rw[η e,ζ this];show _=if x.1=j then some x.2 else BP d j;rw[η e]
   .rw[ζ e];show _=if j=k then none else(if x.1=j then some x.2 else BP d j);rw[ζ e]
theorem AHZ{d:D α}(nd:(AJ d).Nodup)(k:Nat):(AJ (Ef d k)).Nodup:=nd.sublist (List.filter_sublist.map _)
end
def Lc(d:D Q):Prop:=∀x∈d,Bm x.2
def Ak(d:D Q)(k:Nat):Q:=(BP d k).getD zero
def dv(d:D Q)(k:Nat):Rat:=rv (Ak d k)
def Am(d:D Q)(k:Nat)(a:Q):D Q:=dput d k ((Ak d k).add a)
theorem F8{d:D Q}(h:Lc d)(k:Nat):Bm (Ak d k):=by
 unfold Ak;cases e:BP d k with
 |none=>exact IZ
 |some v=>exact h _ (GO e)
theorem TU(d:D Q)(k:Nat)(v:Q)(j:Nat):Ak (dput d k v) j=if k=j then v else Ak d j:=by unfold Ak;rw[Ql];split<;>rfl
theorem ASB(d:D Q)(k:Nat)(v:Q)(j:Nat):dv (dput d k v) j=if k=j then rv v else dv d j:=by unfold dv;rw[TU];split<;>rfl
theorem Xv{d:D Q}(h:Lc d)(k:Nat){v:Q}(hv:Bm v):Lc (dput d k v):=λx hx=>by
 rcases VJ hx with e|e
 .rw[e];exact hv
 .exact h x e
theorem NW{d:D Q}(h:Lc d)(k:Nat){a:Q}(ha:Bm a):Lc (Am d k a):=Xv h k (SR (F8 h k) ha)
theorem OA{d:D Q}(h:Lc d)(k:Nat){a:Q}(ha:Bm a)(j:Nat):dv (Am d k a) j=dv d j+if k=j then rv a else 0:=by
 unfold Am;rw[ASB];by_cases e:k=j
 .rw[η e,η e,Rw (F8 h k) ha,<-e];rfl
 .rw[ζ e,ζ e];grind
theorem G8{d:D Q}(nd:(AJ d).Nodup)(k:Nat)(a:Q):(AJ (Am d k a)).Nodup:=LF nd k _
def addEq(d:D Q)(ks:List Nat)(a:Q):D Q:=ks.foldl (λd k=>Am d k (a.div ⟨ks.length,1⟩)) d
def cnt(ks:List Nat)(j:Nat):Rat:=(ks.map λk=>if k=j then(1:Rat) else 0).sum
theorem fold_add{b:Q}(hb:Bm b)(j:Nat):∀(ks:List Nat) (d:D Q),Lc d->Lc (ks.foldl (λd k=>Am d k b) d)/\dv (ks.foldl (λd k=>Am d k b) d) j=dv d j+rv b*cnt ks j
 |[],d,h=>⟨h,by show dv d j=dv d j+rv b*0;grind⟩
 |k::ks,d,h=>by
  have ih:=fold_add hb j ks (Am d k b) (NW h k hb);refine⟨ih.1,?_⟩;show dv (ks.foldl (λd k=>Am d k b) (Am d k b)) j=_;rw[ih.2,OA h k hb];have e:cnt (k::ks) j=(if k=j then(1:Rat) else 0)+cnt ks j:=by unfold cnt;rw[k_,qg]
  rw[e];split<;>grind
theorem AH3{a:Q}(ha:Bm a)(c:Nat):Bm (a.div ⟨c,1⟩):=D4 ha
theorem AJn{d:D Q}(h:Lc d){a:Q}(ha:Bm a)(ks:List Nat):Lc (addEq d ks a):=(fold_add (AH3 ha ks.length) 0 ks d h).1
theorem Lh(c:Nat):Bm ⟨c,1⟩:=⟨s_,Nat.gcd_one_right c⟩
theorem Vl(c:Nat):rv ⟨c,1⟩=(c:Rat):=by
 unfold rv;have:((1:Nat):Rat)=1:=by decide
 show(c:Rat)/((1:Nat):Rat)=_;rw[this]
 grind
theorem R6{b:Q}:∀(ks:List Nat) (d:D Q),(AJ d).Nodup->(AJ (ks.foldl (λd k=>Am d k b) d)).Nodup
 |[],_,h=>h
 |k::ks,d,h=>R6 ks _ (G8 h k b)
theorem QV{d:D Q}(h:(AJ d).Nodup)(ks:List Nat)(a:Q):(AJ (addEq d ks a)).Nodup:=R6 ks d h
theorem AJy{b:Q}{j:Nat}:∀(ks:List Nat) (d:D Q),j∈AJ (ks.foldl (λd k=>Am d k b) d)↔j∈ks\/j∈AJ d
 |[],d=>⟨.inr,λz=>z.elim (λe=>by cases e) id⟩
 |k::ks,d=>by
  show j∈AJ (ks.foldl (λd k=>Am d k b) (Am d k b))↔_;rw[AJy ks,pM];unfold Am;rw[D7]
  grind
theorem SE{d:D Q}{ks:List Nat}{a:Q}{j:Nat}:j∈AJ (addEq d ks a)↔j∈ks\/j∈AJ d:=AJy ks d
def without(d:D Q):D Q:=d.filter λx=>x.2 != zero
def Oo(w:Nat->Rat)(d:D Q):Rat:=(d.map λx=>rv x.2*w x.1).sum
theorem Xn(w:Nat->Rat):Oo w []=0:=rfl
theorem KN(w:Nat->Rat)(x:Nat×Q)(d:D Q):Oo w (x::d)=rv x.2*w x.1+Oo w d:=by unfold Oo;rw[k_,qg]
theorem Dp(x:Nat×Q)(d:D Q)(k:Nat):Ak (x::d) k=if x.1=k then x.2 else Ak d k:=by unfold Ak;show((if x.1=k then some x.2 else BP d k).getD zero)=_;split<;>rfl
theorem AOJ(w:Nat->Rat)(k:Nat)(v:Q):∀d:D Q,Oo w (dput d k v)=Oo w d+(rv v-dv d k)*w k
 |[]=>by show Oo w [(k,v)]=_;rw[KN,Xn];have:dv [] k=0:=Aw;rw[this];grind
 |x::d=>by
  have ih:=AOJ w k v d;unfold dput;unfold dv at ih ⊢;rw[Dp];by_cases h:x.1=k
  .rw[η h,η h,KN,KN,h];show rv v*w k+_=_
   grind
  .rw[ζ h,ζ h,KN,KN,ih];grind
theorem AOK(w:Nat->Rat){d:D Q}(h:Lc d)(k:Nat){a:Q}(ha:Bm a):Oo w (Am d k a)=Oo w d+rv a*w k:=by
 unfold Am;rw[AOJ,Rw (F8 h k) ha];unfold dv
 grind
theorem ALY(w:Nat->Rat){b:Q}(hb:Bm b):∀(ks:List Nat) (d:D Q),Lc d->Oo w (ks.foldl (λd k=>Am d k b) d)=Oo w d+rv b*(ks.map w).sum
 |[],d,h=>by show Oo w d=Oo w d+rv b*0;grind
 |k::ks,d,h=>by
  show Oo w (ks.foldl (λd k=>Am d k b) (Am d k b))=_;rw[ALY w hb ks _ (NW h k hb),AOK w h k hb,k_,qg]
  grind
theorem AJi(w:Nat->Rat){d:D Q}(h:Lc d){a:Q}(ha:Bm a)(ks:List Nat):Oo w (addEq d ks a)=Oo w d+rv a/(ks.length:Rat)*(ks.map w).sum:=by have:=ALY w (AH3 ha ks.length) ks d h;rw[KG ha (Lh _),Vl] at this;exact this
def wt(s:qP)(t:Nat):Rat:=(s.map λx=>if x.1=t then rv x.2 else 0).sum
theorem L5(t:Nat):wt [] t=0:=rfl
theorem Ck(x:Nat×Q)(s:qP)(t:Nat):wt (x::s) t=(if x.1=t then rv x.2 else 0)+wt s t:=by unfold wt;rw[k_,qg]
theorem Jr(s u:qP)(t:Nat):wt (s++u) t=wt s t+wt u t:=by
 induction s with
 |nil=>rw[y_,L5];grind
 |cons x s ih=>rw[wg,Ck,Ck,ih];grind
theorem Ov{α:Type}(f:α->qP)(t:Nat):∀l:List α,wt (l.flatMap f) t=(l.map λx=>wt (f x) t).sum
 |[]=>rfl
 |x::l=>by rw[tX,Jr,Ov f t l,k_,qg]
theorem T8:∀{l:List Q},(∀x∈l,Bm x)->rv (sum l)=(l.map rv).sum
 |[],_=>Aw
 |x::l,h=>by rw[sum_cons,Rw (h x (υ ..)) (J2 λy hy=>h y (θ _ hy)),T8 λy hy=>h y (θ _ hy),k_,qg]
theorem Jb{s:qP}(h:∀x∈s,Bm x.2)(t:Nat):rv (qE s t)=wt s t:=by
 induction s with
 |nil=>exact Aw
 |cons x s ih=>
  have ih:=ih λy hy=>h y (θ _ hy);rw[Ck,<-ih];unfold qE;rw[qB];by_cases e:x.1=t
  .have:(x.1==t)=true:=by simp[e]
   rw[this,η rfl,η e,k_,sum_cons,Rw (h x (υ ..)) (J2 λy hy=>?_)];obtain⟨z,hz,rfl⟩:=Θ.mp hy;exact h z (θ _ (d_.mp hz).1)
  .have:(x.1==t)=false:=by simp[e]
   rw[this,ζ Λ,ζ e];grind
theorem MX{α:Type}(c:Rat)(f:α->Rat):∀l:List α,(l.map λx=>c*f x).sum=c*(l.map f).sum
 |[]=>by show(0:Rat)=c*0;grind
 |x::l=>by rw[k_,qg,k_,qg,MX c f l];grind
theorem BY{α:Type}{f g:α->Rat}:∀{l:List α},(∀x∈l,f x=g x)->(l.map f).sum=(l.map g).sum
 |[],_=>rfl
 |x::l,h=>by rw[k_,qg,k_,qg,h x (υ ..),BY λy hy=>h y (θ _ hy)]
section
variable {l:qa}(e t:Nat)
def W(l:qa)(e t i:Nat):Rat:=wt (toLine l e vY i one) t
theorem ATS(f:Nat):∀(i:Nat) {a:Q},Bm a->∀x∈toLine l e f i a,Bm x.2:=by
 induction f with
 |zero=>intro i a _ x hx;cases hx
 |succ f ih=>
  intro i a ha x hx;unfold toLine at hx;split at hx
  .rw[i_.mp hx];exact ha
  .split at hx
   .obtain⟨j,_,hj⟩:=sC.mp hx;exact ih j (D4 ha) x hj
   .cases hx
theorem AL4(f:Nat):∀(i:Nat) {a:Q},Bm a->wt (toLine l e f i a) t=rv a*wt (toLine l e f i one) t:=by
 induction f with
 |zero=>intro i a _;show(0:Rat)=rv a*0;grind
 |succ f ih=>
  intro i a ha;unfold toLine;split
  .rw[Ck,Ck,L5,Ge];split<;>grind
  .split
   .generalize hc:(children l i).filter (isLive l e)=c;dsimp only;rw[Ov,Ov];rw[BY (g:=λj=>rv (a.div ⟨c.length,1⟩)*wt (toLine l e f j one) t) λj _=>ih j (D4 ha)];rw[BY (g:=λj=>rv (one.div ⟨c.length,1⟩)*wt (toLine l e f j one) t) λj _=>ih j (D4 Bh)];rw[MX,MX,KG ha (Lh _),KG Bh (Lh _),Ge]
    grind
   .show(0:Rat)=rv a*0;grind
def kids(l:qa)(e i:Nat):List Nat:=if opensLine l e i=true then WD l e i else[]
theorem AXC(g:Good l){i:Nat}(h:may l e i=true):W l e t i=if i=t then 1 else 0:=by unfold W;rw[AJU g,η h,Ck,L5,Ge];split<;>grind
theorem AXB(g:Good l){i:Nat}(h:¬ may l e i=true):W l e t i=1/((kids l e i).length:Rat)*((kids l e i).map (W l e t)).sum:=by
 unfold W kids;rw[AJU g,ζ h];split
 .rw[Ov,BY λj _=>AL4 e t vY j (D4 Bh),MX,KG Bh (Lh _),Ge,Vl]
 .show(0:Rat)=1/_*0;grind
def A(l:qa)(e t k i:Nat):Rat:=wt (toAbove l e k i one) t
theorem AMc(k:Nat):∀(i:Nat) {a:Q},Bm a->∀x∈toAbove l e k i a,Bm x.2:=by
 induction k with
 |zero=>intro i a ha x hx;exact ATS e vY i ha x hx
 |succ k ih=>intro i a ha x hx;unfold toAbove at hx;obtain⟨j,_,hj⟩:=sC.mp hx;exact ih j (D4 ha) x hj
theorem Ui(k:Nat):∀(i:Nat) {a:Q},Bm a->wt (toAbove l e k i a) t=rv a*A l e t k i:=by
 induction k with
 |zero=>intro i a ha;exact AL4 e t vY i ha
 |succ k ih=>
  intro i a ha;unfold A toAbove;dsimp only;rw[Ov,Ov,BY λj _=>ih j (D4 ha),BY λj _=>ih j (D4 Bh),MX,MX,KG ha (Lh _),KG Bh (Lh _),Ge]
  grind
def KO(l:qa)(e k i:Nat):List Nat:=(person l i).parents.filter (liveAbove l e k)
theorem AVs(k i:Nat):A l e t (k+1) i=1/((KO l e k i).length:Rat)*((KO l e k i).map (A l e t k)).sum:=by show wt (toAbove l e (k+1) i one) t=_;unfold toAbove;dsimp only;rw[Ov,BY λj _=>Ui e t k j (D4 Bh),MX,KG Bh (Lh _),Ge,Vl];rfl
end
def ups(l:List Nat):List Nat:=l.map (· + 1)
def lvl(l:qa)(e k:Nat)(d:D Q):D Q:=d.foldl (λh x=>addEq h (ups (KO l e k (x.1-1))) x.2) []
def Ku(l:qa)(e:Nat):Nat->D Q->D Q
 |0,d=>d
 |k+1,d=>Ku l e k (lvl l e k d)
def JN(l:qa)(e:Nat)(p:D Q×D Q)(i:Nat):D Q×D Q:=match BP p.1 (i+1) with
 |none=>p
 |some a=>if may l e i=true then(p.1,dput p.2 (i+1) a) else(addEq p.1 (ups (kids l e i)) a,p.2)
def Oa(l:qa)(e:Nat)(d:D Q):D Q:=((pW l.persons.length).foldl (JN l e) (d,[])).2
def Ob(l:qa)(e k:Nat)(a:Q):D Q:=Oa l e (Ku l e k [(e+1,a)])
theorem AL1{l:qa}{e k:Nat}(w:Nat->Rat):∀(d h:D Q),Lc d->Lc h->Lc (d.foldl (λh x=>addEq h (ups (KO l e k (x.1-1))) x.2) h) /\
  Oo w (d.foldl (λh x=>addEq h (ups (KO l e k (x.1-1))) x.2) h)=Oo w h+(d.map λx=>rv x.2/((ups (KO l e k (x.1-1))).length:Rat)*((ups (KO l e k (x.1-1))).map w).sum).sum
 |[],h,_,hh=>⟨hh,by show Oo w h=Oo w h+0;grind⟩
 |x::d,h,hd,hh=>by
  have hx:=hd x (υ ..);have ih:=AL1 (l:=l) (e:=e) (k:=k) w d (addEq h (ups (KO l e k (x.1-1))) x.2) (λy hy=>hd y (θ _ hy)) (AJn hh hx _);refine⟨ih.1,?_⟩;show Oo w (d.foldl _ (addEq h _ x.2))=_;rw[ih.2,AJi w hh hx,k_,qg]
  grind
theorem Mc(l:List Nat):(ups l).length=l.length:=χ ..
theorem ANt(l:List Nat)(w:Nat->Rat):((ups l).map w).sum=(l.map λi=>w (i+1)).sum:=by unfold ups;rw[p6];rfl
def Uu(l:qa)(e t k:Nat)(d:D Q):Rat:=Oo (λn=>A l e t k (n-1)) d
theorem ATQ{l:qa}{e k:Nat}{d:D Q}(t:Nat)(hd:Lc d):Lc (lvl l e k d)/\Uu l e t k (lvl l e k d)=Uu l e t (k+1) d:=by
 have h:=AL1 (l:=l) (e:=e) (k:=k) (λn=>A l e t k (n-1)) d [] hd (λx hx=>by cases hx);refine⟨h.1,?_⟩;unfold Uu lvl;rw[h.2,Xn];have:(d.map λx=>rv x.2/((ups (KO l e k (x.1-1))).length:Rat)*((ups (KO l e k (x.1-1))).map λn=>A l e t k (n-1)).sum).sum=Oo (λn=>A l e t (k+1) (n-1)) d:=by
  unfold Oo;refine BY λx _=>?_;show _=rv x.2*A l e t (k+1) (x.1-1);rw[AVs,Mc,ANt];show _=rv x.2*(1/_*((KO l e k (x.1-1)).map (A l e t k)).sum);have:((KO l e k (x.1-1)).map λi=>A l e t k (i+1-1))=(KO l e k (x.1-1)).map (A l e t k):=sI λi _=>by rw[qH]
  rw[this]
  grind
 rw[this]
 grind
theorem Uh{l:qa}{e:Nat}(t:Nat):∀(k:Nat) {d:D Q},Lc d->Lc (Ku l e k d)/\Uu l e t 0 (Ku l e k d)=Uu l e t k d
 |0,d,h=>⟨h,rfl⟩
 |k+1,d,h=>by have h1:=ATQ (l:=l) (e:=e) (k:=k) t h;have h2:=Uh (l:=l) (e:=e) t k h1.1;exact⟨h2.1,h2.2.trans h1.2⟩
theorem Zj{l:qa}(g:Good l){e i j:Nat}(h:j∈kids l e i):i<j/\j<l.persons.length:=by
 unfold kids at h;split at h
 .exact g.child (d_.mp h).1
 .cases h
def Yd(l:qa)(e t i:Nat)(n:Nat):Rat:=if n<=i then 0 else W l e t (n-1)
theorem AJh{w w':Nat->Rat}{d:D Q}(h:∀x∈d,w x.1=w' x.1):Oo w d=Oo w' d:=BY λx hx=>by rw[h x hx]
theorem AJg{l:qa}{e t i:Nat}:∀{d:D Q},(AJ d).Nodup->Oo (Yd l e t i) d=Oo (Yd l e t (i+1)) d+dv d (i+1)*W l e t i
 |[],_=>by show(0:Rat)=0+rv zero*_;rw[Aw];grind
 |x::d,nd=>by
  have P5:=qv.mp nd;have ih:=AJg (l:=l) (e:=e) (t:=t) (i:=i) P5.2;unfold dv at ih ⊢;rw[KN,KN,ih,Dp];by_cases h:x.1=i+1
  .rw[η h];have z:Ak d (i+1)=zero:=by unfold Ak;rw[BO.mpr (λq=>P5.1 (by show x.1∈AJ d;rw[h];exact q))];rfl
   have e1:Yd l e t i x.1=W l e t i:=by unfold Yd;rw[ζ (by omega),h,qH]
   have e2:Yd l e t (i+1) x.1=0:=by unfold Yd;rw[η (by omega)]
   rw[z,e1,e2,Aw]
   grind
  .rw[ζ h];have e1:Yd l e t i x.1=Yd l e t (i+1) x.1:=by
    unfold Yd;by_cases q:x.1<=i
    .rw[η q,η (by omega)]
    .rw[ζ q,ζ (by omega)]
   rw[e1]
   grind
structure Gv(l:qa)(e t:Nat)(c:Rat)(i:Nat)(p:D Q×D Q):Prop where
 jo:Lc p.1
 lK:Lc p.2
 jP:(AJ p.1).Nodup
 ZA:(AJ p.2).Nodup
 k1:∀n∈AJ p.1,n<=l.persons.length
 k2:∀n∈AJ p.2,1<=n/\n<=i/\may l e (n-1)=true
 val:Oo (Yd l e t i) p.1+dv p.2 (t+1)=c
theorem VI{l:List Nat}{n:Nat}:n∈ups l↔∃i∈l,n=i+1:=by unfold ups;rw[Θ];exact⟨λ⟨i,h,e⟩=>⟨i,h,e.symm⟩,λ⟨i,h,e⟩=>⟨i,h,e.symm⟩⟩
theorem ARx{l:qa}(g:Good l){e t:Nat}{c:Rat}{i:Nat}{p:D Q×D Q}(h:Gv l e t c i p):Gv l e t c (i+1) (JN l e p i):=by
 have sp:=AJg (l:=l) (e:=e) (t:=t) (i:=i) h.jP;have hv:=h.val;unfold JN;split
 .rename_i hn;refine⟨h.jo,h.lK,h.jP,h.ZA,h.k1,λn hn=>?_,?_⟩
  .have:=h.k2 n hn;exact⟨this.1,by omega,this.2.2⟩
  .have z:dv p.1 (i+1)=0:=by unfold dv Ak;rw[hn];exact Aw
   rw[z] at sp;rw[<-hv,sp]
   grind
 .rename_i a ha;have z:dv p.1 (i+1)=rv a:=by unfold dv Ak;rw[ha];rfl
  have oa:Bm a:=h.jo _ (GO ha);rw[z] at sp;split
  .rename_i hm;refine⟨h.jo,Xv h.lK _ oa,h.jP,LF h.ZA _ _,h.k1,λn hn=>?_,?_⟩
   .rcases D7.mp hn with q|q
    .rw[q];exact⟨by omega,by omega,by rw[qH];exact hm⟩
    .have:=h.k2 n q;exact⟨this.1,by omega,this.2.2⟩
   .show Oo (Yd l e t (i+1)) p.1+dv (dput p.2 (i+1) a) (t+1)=c;rw[ASB];rw[AXC e t g hm] at sp;rw[sp] at hv;by_cases q:i=t
    .subst q;have z2:dv p.2 (i+1)=0:=by unfold dv Ak;rw[BO.mpr (λq=>by have:=h.k2 _ q;omega)];exact Aw
     rw[z2,η rfl] at hv;rw[η rfl]
     grind
    .rw[ζ q] at hv;rw[ζ (by omega)]
     grind
  .rename_i hm;have bk:∀n∈ups (kids l e i),i+1<n/\n<=l.persons.length:=λn hn=>by obtain⟨j,hj,rfl⟩:=VI.mp hn;have:=Zj g hj;omega
   refine⟨AJn h.jo oa _,h.lK,QV h.jP _ _,h.ZA,λn hn=>?_,λn hn=>?_,?_⟩
   .rcases SE.mp hn with q|q
    .exact(bk n q).2
    .exact h.k1 n q
   .have:=h.k2 n hn;exact⟨this.1,by omega,this.2.2⟩
   .show Oo (Yd l e t (i+1)) (addEq p.1 (ups (kids l e i)) a)+dv p.2 (t+1)=c;rw[AJi _ h.jo oa,Mc,ANt];have:((kids l e i).map λj=>Yd l e t (i+1) (j+1)).sum=((kids l e i).map (W l e t)).sum:=BY λj hj=>by have:=Zj g hj;unfold Yd;rw[ζ (by omega),qH]
    rw[this];rw[AXB e t g hm] at sp;rw[sp] at hv
    grind
theorem AML{l:qa}(g:Good l){e t:Nat}{c:Rat}:∀(k i:Nat) {p:D Q×D Q},Gv l e t c i p->Gv l e t c (i+k) ((tu i k).foldl (JN l e) p)
 |0,i,p,h=>h
 |k+1,i,p,h=>by rw[xN,q_];have:=AML g k (i+1) (ARx g h);rw[show i+(k+1)=i+1+k by omega];exact this
structure Given(l:qa)(e:Nat)(d:D Q)(f:Nat->Rat):Prop where
 ok:Lc d
 nd:(AJ d).Nodup
 k:∀n∈AJ d,1<=n/\n<=l.persons.length/\may l e (n-1)=true
 val:∀t,dv d (t+1)=f t
theorem AKk{l:qa}(g:Good l){e:Nat}{d:D Q}(ho:Lc d)(nd:(AJ d).Nodup)(hk:∀n∈AJ d,1<=n/\n<=l.persons.length):
  Given l e (Oa l e d) λt=>Uu l e t 0 d:=by
 have main:∀t,Gv l e t (Uu l e t 0 d) l.persons.length ((pW l.persons.length).foldl (JN l e) (d,[])):=λt=>by
  have h0:Gv l e t (Uu l e t 0 d) 0 (d,[]):=by
   refine⟨ho,λx hx=>(by cases hx),nd,(by simp[AJ]),λn hn=>(hk n hn).2,λn hn=>(by cases hn),?_⟩;have:dv ([]:D Q) (t+1)=0:=Aw;show Oo (Yd l e t 0) d+dv [] (t+1)=Uu l e t 0 d;rw[this,AJh (w':=λn=>A l e t 0 (n-1)) λx hx=>?_]
   .unfold Uu;grind
   .have:=hk x.1 (Θ.mpr ⟨x,hx,rfl⟩);unfold Yd;rw[ζ (by omega)];rfl
  have:=AML g l.persons.length 0 h0;rw[uu,<-vc] at this;exact this
 have m0:=main 0;refine⟨m0.lK,m0.ZA,m0.k2,λt=>?_⟩;have m:=main t;have v:=m.val;have z:Oo (Yd l e t l.persons.length) ((pW l.persons.length).foldl (JN l e) (d,[])).1=0:=by
  rw[AJh (w':=λ_=>0) λx hx=>?_]
  .unfold Oo;generalize ((pW l.persons.length).foldl (JN l e) (d,[])).1=u
   induction u with
   |nil=>rfl
   |cons x u ih=>rw[k_,qg,ih];grind
  .unfold Yd;rw[η (m.k1 x.1 (Θ.mpr ⟨x,hx,rfl⟩))]
 rw[z] at v;show dv (Oa l e d) (t+1)=_;unfold Oa;rw[<-v]
 grind
theorem Sy{l:qa}(g:Good l){e k:Nat}:∀(d h:D Q),(AJ h).Nodup->(∀n∈AJ h,1<=n/\n<=l.persons.length) ->
  (AJ (d.foldl (λh x=>addEq h (ups (KO l e k (x.1-1))) x.2) h)).Nodup/\∀n∈AJ (d.foldl (λh x=>addEq h (ups (KO l e k (x.1-1))) x.2) h),1<=n/\n<=l.persons.length
 |[],h,nd,hk=>⟨nd,hk⟩
 |x::d,h,nd,hk=>by
  refine Sy g d (addEq h (ups (KO l e k (x.1-1))) x.2) (QV nd _ _) λn hn=>?_;rcases SE.mp hn with q|q
  .obtain⟨j,hj,rfl⟩:=VI.mp q;have hp:=(d_.mp hj).1;have h1:=g.par _ _ hp;have h2:=Xu hp;omega
  .exact hk n q
theorem Qx{l:qa}(g:Good l){e:Nat}:∀(k:Nat) {d:D Q},(AJ d).Nodup->(∀n∈AJ d,1<=n/\n<=l.persons.length)->(AJ (Ku l e k d)).Nodup/\∀n∈AJ (Ku l e k d),1<=n/\n<=l.persons.length
 |0,d,nd,hk=>⟨nd,hk⟩
 |k+1,d,nd,hk=>by have h:=Sy g (e:=e) (k:=k) d [] (by simp[AJ]) (λn hn=>by cases hn);exact Qx g k h.1 h.2
theorem AKl{l:qa}(g:Good l){e k:Nat}{a:Q}(he:e<l.persons.length)(ha:Bm a):Given l e (Ob l e k a) λt=>rv a*A l e t k e:=by
 have o:Lc [(e+1,a)]:=λx hx=>by rw[i_.mp hx];exact ha
 have ks:(AJ [(e+1,a)]).Nodup/\∀n∈AJ [(e+1,a)],1<=n/\n<=l.persons.length:=⟨by simp[AJ],λn hn=>by have:n=e+1:=i_.mp hn;omega⟩
 have q:=Qx g (e:=e) k ks.1 ks.2;have h:=AKk g (e:=e) (Uh (l:=l) (e:=e) 0 k o).1 q.1 q.2;refine⟨h.ok,h.nd,h.k,λt=>?_⟩;rw[show dv (Ob l e k a) (t+1)=Uu l e t 0 (Ku l e k [(e+1,a)]) from h.val t,(Uh t k o).2];unfold Uu;rw[KN,Xn];show rv a*A l e t k (e+1-1)+0=_;rw[qH]
 grind
theorem AQ7{α:Type}{f:α->Rat}{a b:List α}(p:a.Perm b):(a.map f).sum=(b.map f).sum:=by
 induction p with
 |nil=>rfl
 |cons x _ ih=>rw[k_,qg,k_,qg,ih]
 |swap x y l=>rw[k_,qg,k_,qg,k_,qg,k_,qg];grind
 |trans _ _ ih1 ih2=>rw[ih1,ih2]
theorem LQ{α:Type}(f:α->Rat)(p:α->Bool):∀l:List α,((l.filter p).map f).sum=(l.map λx=>if p x=true then f x else 0).sum
 |[]=>rfl
 |x::l=>by
  rw[qB,k_,qg,<-LQ f p l];split
  .rw[k_,qg]
  .grind
theorem sum_add{α:Type}(f g:α->Rat):∀l:List α,(l.map λx=>f x+g x).sum=(l.map f).sum+(l.map g).sum
 |[]=>by show(0:Rat)=0+0;grind
 |x::l=>by rw[k_,qg,k_,qg,k_,qg,sum_add f g l];grind
theorem Lq{α:Type}{f:α->Rat}:∀{l:List α},(∀x∈l,f x=0)->(l.map f).sum=0
 |[],_=>rfl
 |x::l,h=>by rw[k_,qg,h x (υ ..),Lq λy hy=>h y (θ _ hy)];grind
theorem Tt{α:Type}{f:α->Rat}:∀{l:List α},(∀x∈l,0<=f x)->0<=(l.map f).sum
 |[],_=>r6
 |x::l,h=>by
  rw[k_,qg];have a:=h x (υ ..);have b:=Tt λy hy=>h y (θ _ hy)
  grind
theorem Sg{α:Type}{f g:α->Rat}:∀{l:List α},(∀x∈l,f x<=g x)->(l.map f).sum<=(l.map g).sum
 |[],_=>r6
 |x::l,h=>by
  rw[k_,qg,k_,qg];have a:=h x (υ ..);have b:=Sg λy hy=>h y (θ _ hy)
  grind
theorem OY{m:Nat}{ks:List Nat}(nd:ks.Nodup)(hk:∀n∈ks,n<m)(f:Nat->Rat)(h0:∀n,n<m->n∉ks->f n=0):(ks.map f).sum=((pW m).map f).sum:=by
 have p:ks.Perm ((pW m).filter λn=>ks.contains n):=by refine(r8 nd (List.nodup_range.filter _)).mpr λa=>?_;rw[d_,sQ,rG];exact⟨λh=>⟨hk a h,h⟩,λh=>h.2⟩
 rw[AQ7 p,LQ];refine BY λn hn=>?_;split
 .rfl
 .rename_i q;exact(h0 n (sQ.mp hn) (λz=>q (rG.mpr z))).symm
theorem Ss{m t:Nat}(ht:t<m)(f:Nat->Rat):((pW m).map λi=>if i=t then f i else 0).sum=f t:=by
 rw[<-OY (m:=m) (ks:=[t]) (by simp) (λn hn=>by rw[i_.mp hn];exact ht) (λi=>if i=t then f i else 0) (λn _ hn=>ζ λe=>hn (i_.mpr e))];rw[k_,qg,η rfl];show f t+0=f t
 grind
structure Y5(s:qP):Prop where
 lt:(s.map λx=>x.1).Pairwise (· < ·)
 ok:∀x∈s,Bm x.2
 pos:∀x∈s,0<x.2.n
def sd(s:qP):D Q:=s.map λx=>(x.1+1,x.2)
theorem Ou{s:qP}{t:Nat}(h:∀x∈s,x.1≠t):wt s t=0:=Lq λx hx=>ζ (h x hx)
theorem dM{s:qP}(nd:(s.map λx=>x.1).Nodup)(t:Nat):dv (sd s) (t+1)=wt s t:=by
 induction s with
 |nil=>exact Aw
 |cons x s ih=>
  have P5:=qv.mp nd;rw[Ck,<-ih P5.2];show rv (Ak ((x.1+1,x.2)::sd s) (t+1))=_;rw[Dp];by_cases e:x.1=t
  .rw[η (by show x.1+1=t+1;omega),η e];have:dv (sd s) (t+1)=0:=by rw[ih P5.2];refine Ou λy hy q=>P5.1 ?_;show x.1∈_;rw[e,<-q];exact Θ.mpr ⟨y,hy,rfl⟩
   rw[this];grind
  .rw[ζ (by show¬ x.1+1=t+1;omega),ζ e];show dv (sd s) (t+1)=_
   grind
theorem ASE(s:qP):BP (sd s) 0=none:=by refine BO.mpr λh=>?_;obtain⟨x,hx,e⟩:=Θ.mp h;obtain⟨y,hy,rfl⟩:=Θ.mp hx;dsimp only at e;omega
theorem ASA(s:qP):dv (sd s) 0=0:=by unfold dv Ak;rw[ASE];exact Aw
theorem WR(s:qP):AJ (sd s)=(s.map λx=>x.1).map (· + 1):=by unfold AJ sd;rw[p6,p6];rfl
theorem RE{l:List Nat}(h:l.Nodup):(l.map (· + 1)).Nodup:=by
 induction l with
 |nil=>simp
 |cons a l ih=>
  have h':=qv.mp h;refine qv.mpr ⟨λq=>?_,ih h'.2⟩;obtain⟨b,hb,e⟩:=Θ.mp q;have e:b+1=a+1:=e;have:b=a:=by omega
  exact h'.1 (this▸hb)
theorem JM{l:List Nat}(h:l.Pairwise (· < ·)):l.Nodup:=h.imp λh=>qK h
theorem Y5.nodup{s:qP}(h:Y5 s):(AJ (sd s)).Nodup:=by rw[WR];exact RE (JM h.lt)
structure Pos(d:D Q):Prop where
 ok:Lc d
 nd:(AJ d).Nodup
 pos:∀x∈d,0<x.2.n
theorem Y5.toPos{s:qP}(h:Y5 s):Pos (sd s):=⟨λx hx=>by
 obtain⟨y,hy,rfl⟩:=Θ.mp hx;exact h.ok y hy,h.nodup,λx hx=>by
 obtain⟨y,hy,rfl⟩:=Θ.mp hx;exact h.pos y hy⟩
theorem AGK{α:Type}{d:D α}(h:(AJ d).Nodup):d.Nodup:=by
 induction d with
 |nil=>simp
 |cons x d ih=>have h':=qv.mp h;exact qv.mpr ⟨λq=>h'.1 (Θ.mpr ⟨x,q,rfl⟩),ih h'.2⟩
theorem Pos.mem{d:D Q}(h:Pos d){k:Nat}{v:Q}:(k,v)∈d↔Ak d k=v/\0<v.n:=by
 constructor
 .intro q;refine⟨?_,h.pos _ q⟩;unfold Ak;rw[Kn h.nd q];rfl
 .rintro⟨q,p⟩;unfold Ak at q;cases e:BP d k with
  |none=>rw[e] at q;subst q;exact absurd p (by decide)
  |some u=>rw[e] at q;have:u=v:=q;subst this;exact GO e
theorem Xp{d d':D Q}(h:Pos d)(h':Pos d')(e:∀k,dv d k=dv d' k):d.Perm d':=by refine(r8 (AGK h.nd) (AGK h'.nd)).mpr λ⟨k,v⟩=>?_;have:Ak d k=Ak d' k:=QO (F8 h.ok k) (F8 h'.ok k) (e k);rw[h.mem,h'.mem,this]
theorem AGC{d:D Q}(ho:Lc d)(nd:(AJ d).Nodup):Pos (without d)/\∀k,dv (without d) k=dv d k:=by
 refine⟨⟨λx hx=>ho x (d_.mp hx).1,nd.sublist (List.filter_sublist.map _),λx hx=>?_⟩,λk=>?_⟩
 .have h1:=d_.mp hx;have h2:x.2≠zero:=by simpa using h1.2
  rcases sS x.2.n with q|q
  .exact absurd ((X0 (ho x h1.1)).mp q) h2
  .exact q
 .induction d with
  |nil=>rfl
  |cons x d ih=>
   have P5:=qv.mp nd;have ih:=ih (λy hy=>ho y (θ _ hy)) P5.2;unfold without at ih ⊢;rw[qB];split
   .unfold dv at ih ⊢;rw[Dp,Dp];split
    .rfl
    .exact ih
   .rename_i q;have q:x.2=zero:=by simpa using q
    rw[ih];unfold dv;rw[Dp];split
    .rename_i e;have:Ak d k=zero:=by unfold Ak;rw[BO.mpr (λz=>P5.1 (by show x.1∈AJ d;rw[e];exact z))];rfl
     rw[this,q]
    .rfl
theorem LP{m:Nat}{s:qP}(hk:∀x∈s,x.1<m)(ho:∀x∈s,Bm x.2):(∀t,wt (joined s) t=wt s t)/\((joined s).map λx=>x.1)=keys m s/\∀x∈joined s,x.2=qE s x.1:=by
 rw[AGO hk];refine⟨λt=>?_,?_,λx hx=>?_⟩
 .unfold wt;rw[p6];show((keys m s).map λi=>if i=t then rv (qE s i) else 0).sum=_;rw[OY (JM (RJ m s)) (λn hn=>(mem_keys.mp hn).1) (λi=>if i=t then rv (qE s i) else 0) (λn hn q=>?_)]
  .by_cases ht:t<m
   .rw[Ss ht λi=>rv (qE s i),Jb ho];rfl
   .rw[Lq λi hi=>ζ λ(e:i=t)=>ht (e▸sQ.mp hi)];exact(Ou (s:=s) (t:=t) λx hx (e:x.1=t)=>ht (e▸hk x hx)).symm
  .split
   .rename_i e;rw[Jb ho];refine Ou λx hx z=>q (mem_keys.mpr ⟨hn,x,hx,z⟩)
   .rfl
 .rw[p6];show(keys m s).map (λi=>i)=_;rw[List.map_id']
 .obtain⟨i,_,rfl⟩:=Θ.mp hx;rfl
theorem bZ(s:qP)(t:Nat):0<=wt s t:=Tt λx _=>by
 split
 .exact Pp _
 .exact r6
theorem AUa{s:qP}(ho:∀x∈s,Bm x.2){x:Nat×Q}(hx:x∈s)(hp:0<x.2.n):0<wt s x.1:=by
 induction s with
 |nil=>cases hx
 |cons y s ih=>
  rw[Ck];have a:=bZ s x.1;have b:(0:Rat)<=if y.1=x.1 then rv y.2 else 0:=by
   split
   .exact Pp _
   .exact r6
  rcases pM.mp hx with e|e
  .subst e;rw[η rfl];have:=(LC (ho x (υ ..))).mpr hp
   grind
  .have:=ih (λz hz=>ho z (θ _ hz)) e
   grind
theorem Bt{s:qP}(ho:∀x∈s,Bm x.2)(i:Nat):Bm (qE s i):=J2 λy hy=>by obtain⟨z,hz,rfl⟩:=Θ.mp hy;exact ho z (d_.mp hz).1
theorem Qg{m:Nat}{s:qP}(hk:∀x∈s,x.1<m)(ho:∀x∈s,Bm x.2)(hp:∀x∈s,0<x.2.n):Y5 (joined s):=by
 obtain⟨h1,h2,h3⟩:=LP hk ho;refine⟨by rw[h2];exact RJ m s,λx hx=>by rw[h3 x hx];exact Bt ho _,λx hx=>?_⟩;have:x.1∈keys m s:=by rw[<-h2];exact Θ.mpr ⟨x,hx,rfl⟩
 obtain⟨_,y,hy,e⟩:=mem_keys.mp this;rw[h3 x hx];refine(LC (Bt ho _)).mp ?_;rw[Jb ho,<-e];exact AUa ho hy (hp y hy)
theorem div_pos{a:Q}(ha:Bm a)(hp:0<a.n){c:Nat}(hc:0<c):0<(a.div ⟨c,1⟩).n:=by refine(LC (D4 ha)).mp ?_;rw[KG ha (Lh _),Vl,yY];exact yd ((LC ha).mpr hp) (yX.mpr (Sw hc))
theorem ARd{l:qa}(e f:Nat):∀(i:Nat) {a:Q},Bm a->0<a.n->∀x∈toLine l e f i a,0<x.2.n:=by
 induction f with
 |zero=>intro i a _ _ x hx;cases hx
 |succ f ih=>
  intro i a ha hp x hx;unfold toLine at hx;split at hx
  .rw[i_.mp hx];exact hp
  .split at hx
   .obtain⟨j,iW,hj⟩:=sC.mp hx;exact ih j (D4 ha) (div_pos ha hp (uP iW)) x hj
   .cases hx
theorem AKJ{l:qa}(e k:Nat):∀(i:Nat) {a:Q},Bm a->0<a.n->∀x∈toAbove l e k i a,0<x.2.n:=by
 induction k with
 |zero=>intro i a ha hp x hx;exact ARd e vY i ha hp x hx
 |succ k ih=>intro i a ha hp x hx;unfold toAbove at hx;obtain⟨j,iW,hj⟩:=sC.mp hx;exact ih j (D4 ha) (div_pos ha hp (uP iW)) x hj
def EJ(l:qa)(e:Nat):Nat:=match (person l e).spouse with
 |none=>0
 |some s=>s+1
def A8(l:qa)(e:Nat)(k:Option Nat):Q:=match spouseOf l e with
 |none=>zero
 |some _=>match k with
  |none=>one
  |some k=>l.spouse.getD k zero
def E6(l:qa)(e:Nat):D Q:=match classOf l e with
 |none=>[]
 |some k=>Ob l e k (one.sub (A8 l e (some k)))
def Av(l:qa)(e:Nat):D Q:=without (Am (E6 l e) (EJ l e) (A8 l e (classOf l e)))
theorem Oz{l:qa}{e s:Nat}(h:spouseOf l e=some s):EJ l e=s+1:=by
 unfold spouseOf at h;unfold EJ;cases q:(person l e).spouse with
 |none=>rw[q] at h;cases h
 |some j=>
  rw[q] at h;have h':(if may l e j=true then some j else none)=some s:=h;split at h'
  .injection h' with h';rw[h']
  .cases h'
theorem WE{l:qa}(g:Good l){k:Nat}(hk:k<5):ZG (l.spouse.getD k zero):=ARe g hk
theorem Sq{l:qa}(g:Good l)(e:Nat):Bm (A8 l e (classOf l e))/\rv (A8 l e (classOf l e))<=1:=by
 unfold A8;split
 .exact⟨IZ,by rw[Aw];decide⟩
 .cases q:classOf l e with
  |none=>exact⟨Bh,by rw[Ge];decide⟩
  |some k=>have f:=WE g (Gw q);refine⟨f.1,?_⟩;rw[<-Ge];refine(Rk f.1 Bh).mp ?_;unfold zT;rw[decide_eq_true_iff];show(l.spouse.getD k zero).n*1<=1*(l.spouse.getD k zero).d;have:=f.2.2;omega
theorem sub_one{p:Q}(hp:Bm p)(h:rv p<=1):rv (one.sub p)=1-rv p:=by rw[QN Bh hp (by rw[Ge];exact h),Ge]
theorem YC{l:qa}(g:Good l){e:Nat}(he:e<l.persons.length):Given l e (E6 l e) λt=>match classOf l e with
  |none=>0
  |some k=>(1-rv (A8 l e (classOf l e)))*A l e t k e:=by
 unfold E6;have p:=Sq g e;cases q:classOf l e with
 |none=>exact⟨λx hx=>(by cases hx),(by simp[AJ]),λn hn=>(by cases hn),λt=>Aw⟩
 |some k=>rw[q] at p;have h:=AKl g (k:=k) he (Ir Bh p.1:Bm (one.sub (A8 l e (some k))));refine⟨h.ok,h.nd,h.k,λt=>?_⟩;rw[h.val t,sub_one p.1 p.2]
def Wv(l:qa)(e t:Nat):Rat:=(match classOf l e with
  |none=>0
  |some k=>(1-rv (A8 l e (classOf l e)))*A l e t k e)+if EJ l e=t+1 then rv (A8 l e (classOf l e)) else 0
theorem PU{l:qa}(g:Good l){e:Nat}(he:e<l.persons.length):Pos (Av l e)/\dv (Av l e) 0=0/\∀t,dv (Av l e) (t+1)=Wv l e t:=by
 have h:=YC g he;have p:=Sq g e;obtain⟨h1,h2⟩:=AGC (NW h.ok (EJ l e) p.1) (G8 h.nd (EJ l e) (A8 l e (classOf l e)));refine⟨h1,?_,λt=>?_⟩
 .unfold Av;rw[h2,OA h.ok _ p.1];have z:dv (E6 l e) 0=0:=by unfold dv Ak;rw[BO.mpr (λq=>by have:=h.k _ q;omega)];exact Aw
  rw[z];split
  .rename_i q;have:spouseOf l e=none:=by
    cases r:spouseOf l e with
    |none=>rfl
    |some s=>have:=Oz r;omega
   have:A8 l e (classOf l e)=zero:=by unfold A8;rw[this]
   rw[this,Aw];grind
  .grind
 .unfold Av;rw[h2,OA h.ok _ p.1,h.val t];rfl
theorem AR2{x:Q}(h:ZG x):rv x<=1:=by rw[<-Ge];refine(Rk h.1 Bh).mp ?_;unfold zT;rw[decide_eq_true_iff];show x.n*1<=1*x.d;have:=h.2.2;omega
theorem Jl{l:qa}(g:Good l){e:Nat}:Y5 (byLaw l e)/\∀t,wt (byLaw l e) t=Wv l e t:=by
 unfold byLaw Wv;cases q:classOf l e with
 |none=>
  cases r:spouseOf l e with
  |none=>
   refine⟨⟨List.Pairwise.nil,λx hx=>(by cases hx),λx hx=>(by cases hx)⟩,λt=>?_⟩;have:A8 l e none=zero:=by unfold A8;rw[r]
   rw[this,Aw];show(0:Rat)=_;split<;>grind
  |some s=>
   refine⟨⟨by simp,λx hx=>by rw[i_.mp hx];exact Bh,λx hx=>by rw[i_.mp hx];exact s_⟩,λt=>?_⟩;have:A8 l e none=one:=by unfold A8;rw[r]
   rw[this,Oz r];show wt [(s,one)] t=_;rw[Ck,L5];by_cases z:s=t
   .rw[η z,η (by omega)];grind
   .rw[ζ z,ζ (by omega)]
 |some k=>
  cases r:spouseOf l e with
  |none=>
   have hk:∀x∈toAbove l e k e one,x.1<l.persons.length:=Ia g e k e one;have ho:=AMc (l:=l) e k e Bh;refine⟨Qg hk ho (AKJ e k e Bh (by decide)),λt=>?_⟩;have:A8 l e (some k)=zero:=by unfold A8;rw[r]
   show wt (joined (toAbove l e k e one)) t=_;rw[(LP hk ho).1 t,this,Aw,Ui e t k e Bh,Ge];show _=(1-0)*A l e t k e+_;split<;>grind
  |some s=>
   have f:=WE g (Gw q);have hs:=MY r;have:A8 l e (some k)=l.spouse.getD k zero:=by unfold A8;rw[r]
   rw[this,Oz r];dsimp only;generalize l.spouse.getD k zero=p at f ⊢;have fle:=AR2 f;have hk:∀x∈(if p=zero then[] else[(s,p)])++(if p=one then[] else toAbove l e k e (one.sub p)),x.1<l.persons.length:=λx hx=>by
    rcases pT.mp hx with z|z
    .split at z
     .cases z
     .rw[i_.mp z];exact UM hs
    .split at z
     .cases z
     .exact Ia g e k e _ x z
   have ho:∀x∈(if p=zero then[] else[(s,p)])++(if p=one then[] else toAbove l e k e (one.sub p)),Bm x.2:=λx hx=>by
    rcases pT.mp hx with z|z
    .split at z
     .cases z
     .rw[i_.mp z];exact f.1
    .split at z
     .cases z
     .exact AMc (l:=l) e k e (Ir Bh f.1) x z
   have hp:∀x∈(if p=zero then[] else[(s,p)])++(if p=one then[] else toAbove l e k e (one.sub p)),0<x.2.n:=λx hx=>by
    rcases pT.mp hx with z|z
    .split at z
     .cases z
     .rename_i n;rw[i_.mp z];rcases sS p.n with y|y
      .exact absurd ((X0 f.1).mp y) n
      .exact y
    .split at z
     .cases z
     .rename_i n;refine AKJ e k e (Ir Bh f.1) ?_ x z;refine(LC (Ir Bh f.1)).mp ?_;rw[sub_one f.1 fle];have:rv p≠1:=λy=>n (QO f.1 Bh (y.trans Ge.symm))
      grind
   refine⟨Qg hk ho hp,λt=>?_⟩;rw[(LP hk ho).1 t,Jr];have e1:wt (if p=zero then[] else[(s,p)]) t=if s+1=t+1 then rv p else 0:=by
    by_cases z:p=zero
    .rw[η z,z,Aw];show(0:Rat)=_;split<;>rfl
    .rw[ζ z,Ck,L5];by_cases y:s=t
     .rw[η y,η (by omega)];grind
     .rw[ζ y,ζ (by omega)];grind
   have e2:wt (if p=one then[] else toAbove l e k e (one.sub p)) t=(1-rv p)*A l e t k e:=by
    by_cases z:p=one
    .rw[η z,z,Ge];show(0:Rat)=_
     grind
    .rw[ζ z,Ui e t k e (Ir Bh f.1),sub_one f.1 fle]
   rw[e1,e2]
   grind
theorem SN{l:qa}(g:Good l){e:Nat}(he:e<l.persons.length):(Av l e).Perm (sd (byLaw l e)):=by
 obtain⟨h1,h2,h3⟩:=PU g he;obtain⟨n1,n2⟩:=Jl (e:=e) g;refine Xp h1 n1.toPos λk=>?_;cases k with
 |zero=>rw[h2,ASA]
 |succ t=>rw[h3 t,dM (JM n1.lt),n2 t]
def close(l:qa)(e i:Nat):Bool:=EJ l e==i+1||((person l e).parents.contains i||(i==e||descends l e vY i))
def AZ(l:qa)(e:Nat):D Q:=((Av l e).filter λx=>close l e (x.1-1)).map λx=>(x.1,x.2.mul l.kept)
theorem Rb{l:qa}(g:Good l){e:Nat}(he:e<l.persons.length):∀x∈Av l e,1<=x.1/\x.1<=l.persons.length/\may l e (x.1-1)=true:=λx hx=>by
 have h:=YC g he;have Wl:=(d_.mp hx).1;have hz:x.2≠zero:=by simpa using(d_.mp hx).2
 have hk:x.1∈AJ (Am (E6 l e) (EJ l e) (A8 l e (classOf l e))):=Θ.mpr ⟨x,Wl,rfl⟩;unfold Am at hk;rcases D7.mp hk with q|q
 .by_cases bE:x.1∈AJ (E6 l e)
  .exact h.k _ bE
  .cases r:spouseOf l e with
   |some s=>have e1:=Oz r;have e2:=MY r;have e3:=UM e2;rw[q,e1,qH];exact⟨by omega,by omega,e2⟩
   |none=>
    exfalso;have z:A8 l e (classOf l e)=zero:=by unfold A8;rw[r]
    have nd:=G8 h.nd (EJ l e) (A8 l e (classOf l e));have v:=Kn nd Wl;unfold Am at v;rw[Ql,η q.symm] at v;injection v with v;apply hz;rw[<-v,z];have:Ak (E6 l e) (EJ l e)=zero:=by unfold Ak;rw[BO.mpr (by rw[<-q];exact bE)];rfl
    rw[this];rfl
 .exact h.k _ q
theorem AKP{l:qa}{e i:Nat}(h:may l e i=true):(spouseOf l e==some i)=(EJ l e==i+1):=by
 unfold spouseOf EJ;cases q:(person l e).spouse with
 |none=>rfl
 |some j=>
  show((if may l e j=true then some j else none)==some i)=(j+1==i+1)
  by_cases z:j=i
  .subst z;rw[η h];simp
  .have e1:(j+1==i+1)=false:=by simp[z]
   rw[e1];split
   .simp[z]
   .rfl
theorem AVG{l:qa}{e i:Nat}(h:may l e i=true):i≠e:=by unfold may at h;rw[qm,qm] at h;have:=h.2.1;simpa using this
theorem ASK{l:qa}{e i:Nat}(h:may l e i=true):close l e i=(descends l e vY i||((person l e).parents.contains i||spouseOf l e==some i)):=by
 unfold close;have h2:(i==e)=false:=by simp[AVG h]
 rw[<-AKP h,h2,uE];generalize (spouseOf l e==some i)=a;generalize (person l e).parents.contains i=b;generalize descends l e vY i=c;cases a<;>cases b<;>cases c<;>rfl
theorem AJ0{l:qa}(g:Good l){e:Nat}(he:e<l.persons.length):(AZ l e).Perm (sd (kept l e)):=by
 have p:=SN g he;have q:((Av l e).filter λx=>close l e (x.1-1)).Perm ((sd (byLaw l e)).filter λx=>close l e (x.1-1)):=p.filter _;have r:=q.map λx=>(x.1,x.2.mul l.kept)
 refine r.trans (.of_eq ?_);unfold sd kept;rw[List.filter_map,p6,p6];have:(byLaw l e).filter ((λx:Nat×Q=>close l e (x.1-1))∘λx=>(x.1+1,x.2))=(byLaw l e).filter λx=>descends l e vY x.1||((person l e).parents.contains x.1||spouseOf l e==some x.1):=by refine List.filter_congr λx hx=>?_;have m:(x.1+1,x.2)∈Av l e:=p.mem_iff.mpr (Θ.mpr ⟨x,hx,rfl⟩);have h:=(Rb g he _ m).2.2;dsimp only at h;rw[qH] at h;show close l e (x.1+1-1)=_;rw[qH];exact ASK h
 rw[this];rfl
def Cq(l:qa)(e:Nat):D Q:=(l.gifts.filter λg=>g.of_==e).foldl (λd g=>match taker l g with
 |none=>d
 |some i=>Am d (i+1) g.part) []
def Js(d:D Q):Q:=(d.map λx=>x.2).foldl zL zero
theorem zero_add{x:Q}(h:Bm x):zero.add x=x:=QO (SR IZ h) h (by rw[Rw IZ h,Aw];grind)
theorem XU{d:D Q}(h:Lc d):Js d=sum (d.map λx=>x.2):=by
 unfold Js;have h':∀x∈d.map (λx=>x.2),Bm x:=λx hx=>by obtain⟨y,hy,rfl⟩:=Θ.mp hx;exact h y hy
 rw[foldl_add h' IZ,zero_add (J2 h')]
theorem QC{d:D Q}(h:Lc d):Bm (Js d):=by rw[XU h];exact J2 λx hx=>by obtain⟨y,hy,rfl⟩:=Θ.mp hx;exact h y hy
theorem Xe{d:D Q}(h:Lc d):rv (Js d)=Oo (λ_=>1) d:=by
 rw[XU h,T8 λx hx=>by obtain⟨y,hy,rfl⟩:=Θ.mp hx;exact h y hy]
 unfold Oo;rw[p6];exact BY λx _=>by show rv x.2=rv x.2*1;grind
def tw(s:qP):Rat:=(s.map λx=>rv x.2).sum
structure dU(l:qa)(d:D Q)(s:qP):Prop where
 ok:Lc d
 nd:(AJ d).Nodup
 k:∀n∈AJ d,1<=n/\n<=l.persons.length
 val:∀t,dv d (t+1)=wt s t
 all:Oo (λ_=>1) d=tw s
theorem AJS(s u:qP):tw (s++u)=tw s+tw u:=by
 induction s with
 |nil=>show tw u=0+tw u;grind
 |cons x s ih=>
  have e1:tw (x::s)=rv x.2+tw s:=by unfold tw;rw[k_,qg]
  have e2:tw (x::(s++u))=rv x.2+tw (s++u):=by unfold tw;rw[k_,qg]
  rw[wg,e2,ih,e1];grind
theorem Tp{l:qa}(g:Good l):∀(gs:List Gift) (d:D Q) (s:qP),(∀x∈gs,x∈l.gifts)->dU l d s ->
  dU l (gs.foldl (λd g=>match taker l g with
   |none=>d
   |some i=>Am d (i+1) g.part) d) (s++gs.filterMap λg=>(taker l g).map λi=>(i,g.part))
 |[],d,s,_,h=>by rw[List.filterMap_nil,rC];exact h
 |x::gs,d,s,hm,h=>by
  rw[q_,rB];have hx:=hm x (υ ..);have NZ:∀y∈gs,y∈l.gifts:=λy hy=>hm y (θ _ hy);have po:=(g.Ux x hx).2.2.2.1.1;cases q:taker l x with
  |none=>exact Tp g gs d s NZ h
  |some i=>
   show dU l (gs.foldl _ (Am d (i+1) x.part)) (s++(i,x.part)::_);have e:s++(i,x.part)::gs.filterMap (λg=>(taker l g).map λi=>(i,g.part))=(s++[(i,x.part)])++gs.filterMap (λg=>(taker l g).map λi=>(i,g.part)):=by simp
   rw[e];refine Tp g gs _ _ NZ ⟨NW h.ok _ po,G8 h.nd _ _,λn hn=>?_,λt=>?_,?_⟩
   .unfold Am at hn;rcases D7.mp hn with z|z
    .have:=Vb g q;omega
    .exact h.k n z
   .rw[OA h.ok _ po,h.val t,Jr,Ck,L5];by_cases z:i=t
    .rw[η (by omega),η z];grind
    .rw[ζ (by omega),ζ z];grind
   .rw[AOK _ h.ok _ po,h.all,AJS];show _=tw s+(rv x.part+0)
    grind
theorem AKy{l:qa}(g:Good l)(e:Nat):dU l (Cq l e) (byWill l e):=by
 have h0:dU l [] []:=⟨λx hx=>(by cases hx),(by simp[AJ]),λn hn=>(by cases hn),λt=>Aw,rfl⟩
 have:=Tp g (l.gifts.filter λx=>x.of_==e) [] [] (λx hx=>(d_.mp hx).1) h0;rw[y_] at this;exact this
theorem Ud{l:qa}(g:Good l)(e:Nat):∀x∈byWill l e,Bm x.2/\0<x.2.n/\x.1<l.persons.length:=λx hx=>⟨((Ra g e).1 x hx).ok,ANj g e x hx,(Ra g e).2.1 x hx⟩
theorem AUg{s:qP}(h:∀x∈s,Bm x.2):rv (sum (s.map λx=>x.2))=tw s:=by
 rw[T8 λx hx=>by obtain⟨y,hy,rfl⟩:=Θ.mp hx;exact h y hy,p6]
 rfl
theorem Z5{l:qa}(g:Good l)(e:Nat):tw (byWill l e)<=1:=by
 have h:=g.ZL e;have gs:∀x∈(l.gifts.filter λg=>g.of_==e),Bm x.part:=λx hx=>(g.Ux x (d_.mp hx).1).2.2.2.1.1;have ho:∀x∈(l.gifts.filter λg=>g.of_==e).map λg=>g.part,Bm x:=λx hx=>by obtain⟨y,hy,rfl⟩:=Θ.mp hx;exact gs y hy
 have h1:=(Rk (J2 ho) Bh).mp h;rw[Ge,T8 ho,p6] at h1;refine Rat.le_trans ?_ h1;unfold byWill tw;clear h h1 ho
 induction (l.gifts.filter λg=>g.of_==e) with
 |nil=>exact r6
 |cons x xs ih=>
  rw[rB,k_,qg];have nn:=Pp x.part;cases taker l x with
  |none=>
   show _<=rv x.part+_
   grind
  |some i=>
   show((_::_:List (Nat×Q)).map λx=>rv x.2).sum<=rv x.part+_;rw[k_,qg];show rv x.part+_<=rv x.part+_
   grind
def Bd(l:qa)(e t:Nat):Rat:=if byLaw l e=[] then wt (byWill l e) t/tw (byWill l e) else wt (byWill l e) t+Wv l e t*(1-tw (byWill l e))
def AL(l:qa)(e:Nat):D Q:=if Av l e=[] then(Cq l e).map λx=>(x.1,x.2.div (Js (Cq l e)))
 else(Av l e).foldl (λd x=>Am d x.1 (x.2.mul (one.sub (Js (Cq l e))))) (Cq l e)
theorem AKA{l:qa}(g:Good l){e:Nat}(he:e<l.persons.length):Av l e=[]↔byLaw l e=[]:=by
 have p:=(SN g he).length_eq;have e1:(sd (byLaw l e)).length=(byLaw l e).length:=χ ..;rw[e1] at p;constructor
 .intro h;rw[h] at p;exact rm p.symm
 .intro h;rw[h] at p;exact rm p
theorem XQ{f:Q->Q}{c:Rat}(t:Nat):∀{s:qP},(∀x∈s,rv (f x.2)=rv x.2*c)->wt (s.map λx=>(x.1,f x.2)) t=wt s t*c
 |[],_=>by show(0:Rat)=0*c;grind
 |x::s,h=>by rw[k_,Ck,Ck,XQ t λy hy=>h y (θ _ hy)];have:=h x (υ ..);dsimp only;split<;>grind
theorem ASp{l:qa}(g:Good l)(e:Nat):Bm (sum ((byWill l e).map λx=>x.2))/\rv (sum ((byWill l e).map λx=>x.2))=tw (byWill l e):=by have ho:=λx hx=>(Ud g e x hx).1;exact⟨J2 λx hx=>by obtain⟨y,hy,rfl⟩:=Θ.mp hx;exact ho y hy,AUg ho⟩
def W6(l:qa)(e:Nat):qP:=if byLaw l e=[] then(byWill l e).map (λx=>(x.1,x.2.div (sum ((byWill l e).map λx=>x.2)))) else byWill l e++if one.sub (sum ((byWill l e).map λx=>x.2))=zero then[] else(byLaw l e).map λx=>(x.1,x.2.mul (one.sub (sum ((byWill l e).map λx=>x.2))))
theorem AJP(l:qa)(e:Nat):wished l e=joined (W6 l e):=rfl
theorem AKw{l:qa}(g:Good l)(e:Nat):(∀x∈W6 l e,Bm x.2)/\(∀x∈W6 l e,x.1<l.persons.length)/\∀t,wt (W6 l e) t=Bd l e t:=by
 obtain⟨so,sv⟩:=ASp g e;have tl:=Z5 g e;have bw:=Ud g e;have bl:=Jl (e:=e) g;have bk:=(Oi g e).2.1;unfold W6 Bd;by_cases hb:byLaw l e=[]
 .rw[η hb];refine⟨λx hx=>?_,λx hx=>?_,λt=>?_⟩
  .obtain⟨y,hy,rfl⟩:=Θ.mp hx;exact D4 (bw y hy).1
  .obtain⟨y,hy,rfl⟩:=Θ.mp hx;exact(bw y hy).2.2
  .rw[η hb,XQ (f:=λz=>z.div (sum ((byWill l e).map λx=>x.2))) (c:=1/tw (byWill l e)) t λx hx=>?_]
   .grind
   .rw[KG (bw x hx).1 so,sv];grind
 .rw[ζ hb];have r0:rv (one.sub (sum ((byWill l e).map λx=>x.2)))=1-tw (byWill l e):=by rw[sub_one so (by rw[sv];exact tl),sv]
  have ro:=Ir Bh so;refine⟨λx hx=>?_,λx hx=>?_,λt=>?_⟩
  .rcases pT.mp hx with z|z
   .exact(bw x z).1
   .split at z
    .cases z
    .obtain⟨y,hy,rfl⟩:=Θ.mp z;exact N7 (bl.1.ok y hy) ro
  .rcases pT.mp hx with z|z
   .exact(bw x z).2.2
   .split at z
    .cases z
    .obtain⟨y,hy,rfl⟩:=Θ.mp z;exact bk y hy
  .rw[ζ hb,Jr];have:wt (if one.sub (sum ((byWill l e).map λx=>x.2))=zero then[] else(byLaw l e).map λx=>(x.1,x.2.mul (one.sub (sum ((byWill l e).map λx=>x.2))))) t=Wv l e t*(1-tw (byWill l e)):=by
    by_cases z:one.sub (sum ((byWill l e).map λx=>x.2))=zero
    .rw[η z];rw[z,Aw] at r0;show(0:Rat)=_;rw[<-r0];grind
    .rw[ζ z,XQ (f:=λz=>z.mul (one.sub (sum ((byWill l e).map λx=>x.2)))) (c:=1-tw (byWill l e)) t λx hx=>by rw[O5 (bl.1.ok x hx) ro,r0],bl.2 t]
   rw[this]
theorem Tn{l:qa}(g:Good l)(e t:Nat):wt (wished l e) t=Bd l e t:=by obtain⟨h1,h2,h3⟩:=AKw g e;rw[AJP,(LP h2 h1).1 t,h3 t]
structure Tells(l:qa)(d:D Q)(f:Nat->Rat):Prop where
 ok:Lc d
 nd:(AJ d).Nodup
 k:∀n∈AJ d,1<=n/\n<=l.persons.length
 val:∀t,dv d (t+1)=f t
theorem AKH{l:qa}{c:Q}(hc:Bm c):∀(u d:D Q) (f:Nat->Rat),(AJ u).Nodup->Lc u->(∀n∈AJ u,1<=n/\n<=l.persons.length)->Tells l d f->Tells l (u.foldl (λd x=>Am d x.1 (x.2.mul c)) d) λt=>f t+dv u (t+1)*rv c
 |[],d,f,_,_,_,h=>⟨h.ok,h.nd,h.k,λt=>by show dv d (t+1)=_;rw[h.val t];have:dv ([]:D Q) (t+1)=0:=Aw;rw[this];grind⟩
 |x::u,d,f,nd,ho,hk,h=>by
  have P5:=qv.mp nd;have hx:=ho x (υ ..);have kx:=hk x.1 (υ ..);have hm:=N7 hx hc;have ih:=AKH (l:=l) hc u (Am d x.1 (x.2.mul c)) (λt=>f t+if x.1=t+1 then rv x.2*rv c else 0) P5.2 (λy hy=>ho y (θ _ hy)) (λn hn=>hk n (θ _ hn))
   ⟨NW h.ok _ hm,G8 h.nd _ _,λn hn=>by
    unfold Am at hn;rcases D7.mp hn with z|z
    .rw[z];exact kx
    .exact h.k n z,λt=>by rw[OA h.ok _ hm,h.val t,O5 hx hc]⟩
  refine⟨ih.ok,ih.nd,ih.k,λt=>?_⟩;rw[show dv ((x::u).foldl (λd x=>Am d x.1 (x.2.mul c)) d) (t+1)=_ from ih.val t];have:dv (x::u) (t+1)=(if x.1=t+1 then rv x.2 else 0)+dv u (t+1):=by
   unfold dv;rw[Dp];split
   .rename_i z;have:Ak u (t+1)=zero:=by unfold Ak;rw[BO.mpr (λq=>P5.1 (by show x.1∈AJ u;rw[z];exact q))];rfl
    rw[this,Aw];grind
   .grind
  rw[this];split<;>grind
theorem AMj{l:qa}(g:Good l){e:Nat}(he:e<l.persons.length):Tells l (AL l e) (Bd l e):=by
 have w:=AKy g e;have tl:=Z5 g e;have to:=QC w.ok;have tv:rv (Js (Cq l e))=tw (byWill l e):=(Xe w.ok).trans w.all;unfold AL;by_cases hb:Av l e=[]
 .rw[η hb];have Jg:=(AKA g he).mp hb;have kk:AJ ((Cq l e).map λx=>(x.1,x.2.div (Js (Cq l e))))=AJ (Cq l e):=by unfold AJ;rw[p6];rfl
  refine⟨λx hx=>?_,by rw[kk];exact w.nd,λn hn=>w.k n (by rw[<-kk];exact hn),λt=>?_⟩
  .obtain⟨y,hy,rfl⟩:=Θ.mp hx;exact D4 (w.ok y hy)
  .unfold Bd;rw[η Jg,<-w.val t,<-tv];have ho:=w.ok;generalize Js (Cq l e)=T at to ⊢;generalize Cq l e=d at ho
   induction d with
   |nil=>show rv zero=rv zero/_;rw[Aw];grind
   |cons x d ih=>
    have ih:=ih λy hy=>ho y (θ _ hy);unfold dv at ih ⊢;rw[k_,Dp,Dp];dsimp only;split
    .exact KG (ho x (υ ..)) to
    .exact ih
 .rw[ζ hb];have Jg:¬ byLaw l e=[]:=λz=>hb ((AKA g he).mpr z);obtain⟨b1,b2,b3⟩:=PU g he;have bm:=Rb g he;have ro:=Ir Bh to;have rr:rv (one.sub (Js (Cq l e)))=1-tw (byWill l e):=by rw[sub_one to (by rw[tv];exact tl),tv]
  have h:=AKH (l:=l) ro (Av l e) (Cq l e) (λt=>wt (byWill l e) t) b1.nd b1.ok (λn hn=>by obtain⟨x,hx,rfl⟩:=Θ.mp hn;exact⟨(bm x hx).1,(bm x hx).2.1⟩) ⟨w.ok,w.nd,w.k,w.val⟩
  refine⟨h.ok,h.nd,h.k,λt=>?_⟩;rw[h.val t,rr,b3 t];unfold Bd;rw[ζ Jg]
theorem ANu{α:Type}(f:α->qP):∀l:List α,tw (l.flatMap f)=(l.map λx=>tw (f x)).sum
 |[]=>rfl
 |x::l=>by rw[tX,AJS,ANu f l,k_,qg]
theorem split_le{α:Type}{f:α->qP}{a:Q}(ha:Bm a){c:List α}(h:∀x∈c,tw (f x)<=rv (a.div ⟨c.length,1⟩)):tw (c.flatMap f)<=rv a:=by
 rw[ANu];refine Rat.le_trans (Sg (g:=λ_=>rv (a.div ⟨c.length,1⟩)) h) ?_;rw[KG ha (Lh _),Vl];have e:∀(c:List α) (z:Rat),(c.map λ_=>z).sum=(c.length:Rat)*z:=by
  intro c z
  induction c with
  |nil=>show(0:Rat)=((0:Nat):Rat)*z;grind
  |cons x c ih=>
   rw[k_,qg,ih,o_]
   push_cast
   grind
 rw[e];rcases sS c.length with q|q
 .rw[q];have:=Pp a;have z:((0:Nat):Rat)=0:=rfl;rw[z]
  grind
 .have:=KR q;have:(c.length:Rat)*(rv a/(c.length:Rat))=rv a:=by grind
  rw[this];exact r6
theorem ATR{l:qa}(e f:Nat):∀(i:Nat) {a:Q},Bm a->tw (toLine l e f i a)<=rv a:=by
 induction f with
 |zero=>intro i a _;exact Pp a
 |succ f ih=>
  intro i a ha;unfold toLine;split
  .show rv a+0<=rv a;grind
  .split
   .exact split_le ha λj _=>ih j (D4 ha)
   .exact Pp a
theorem ASW{l:qa}(e k:Nat):∀(i:Nat) {a:Q},Bm a->tw (toAbove l e k i a)<=rv a:=by
 induction k with
 |zero=>intro i a ha;exact ATR e vY i ha
 |succ k ih=>intro i a ha;unfold toAbove;exact split_le ha λj _=>ih j (D4 ha)
theorem bf{m:Nat}:∀{s:qP},(∀x∈s,x.1<m)->((pW m).map λt=>wt s t).sum=tw s
 |[],_=>Lq λ_ _=>rfl
 |x::s,h=>by
  have ih:=bf (m:=m) (s:=s) λy hy=>h y (θ _ hy);have e:((pW m).map λt=>wt (x::s) t).sum=((pW m).map λt=>(if t=x.1 then rv x.2 else 0)+wt s t).sum:=BY λt _=>by
   rw[Ck];by_cases z:x.1=t
   .rw[η z,η z.symm]
   .rw[ζ z,ζ (λq=>z q.symm)]
  rw[e,sum_add,ih,Ss (h x (υ ..)) λ_=>rv x.2];unfold tw;rw[k_,qg]
theorem ATV{l:qa}(g:Good l)(e:Nat):((pW l.persons.length).map (Wv l e)).sum<=1:=by
 have p:=Sq g e;have key:((pW l.persons.length).map λt=>if EJ l e=t+1 then rv (A8 l e (classOf l e)) else 0).sum<=rv (A8 l e (classOf l e)):=by
  by_cases z:∃s,s<l.persons.length/\EJ l e=s+1
  .obtain⟨s,hs,es⟩:=z;have:((pW l.persons.length).map λt=>if EJ l e=t+1 then rv (A8 l e (classOf l e)) else 0).sum=((pW l.persons.length).map λt=>if t=s then rv (A8 l e (classOf l e)) else 0).sum:=BY λt _=>by
    by_cases q:t=s
    .rw[η (by omega),η q]
    .rw[ζ (by omega),ζ q]
   rw[this,Ss hs λ_=>rv (A8 l e (classOf l e))];exact r6
  .rw[Lq λt ht=>ζ λq=>z ⟨t,sQ.mp ht,q⟩];exact Pp _
 unfold Wv;rw[sum_add];cases q:classOf l e with
 |none=>
  rw[q] at key p;rw[Lq λ_ _=>rfl];have:=p.2
  grind
 |some k=>
  rw[q] at key p;dsimp only;rw[MX];have h1:((pW l.persons.length).map λt=>A l e t k e).sum<=1:=by show((pW l.persons.length).map λt=>wt (toAbove l e k e one) t).sum<=1;rw[bf (Ia g e k e one),<-Ge];exact ASW e k e Bh
  have h2:0<=1-rv (A8 l e (some k)):=by have:=p.2;grind
  have h3:=tR h1 h2
  grind
def Bo(l:qa)(e t:Nat):Rat:=wt (kept l e) t
theorem RK{l:qa}(g:Good l)(e:Nat):(∀x∈kept l e,Bm x.2)/\(∀x∈kept l e,x.1<l.persons.length)/\((kept l e).map λx=>x.1).Nodup:=by
 have n:=(Jl (e:=e) g).1;have k:=(Oi g e).2.1;unfold kept;refine⟨λx hx=>?_,λx hx=>?_,?_⟩
 .obtain⟨y,hy,rfl⟩:=Θ.mp hx;exact N7 (n.ok y (d_.mp hy).1) g.S5.1
 .obtain⟨y,hy,rfl⟩:=Θ.mp hx;exact k y (d_.mp hy).1
 .rw[p6];exact(JM n.lt).sublist (List.filter_sublist.map _)
theorem AMB{l:qa}(g:Good l){e:Nat}(he:e<l.persons.length):Tells l (AZ l e) (Bo l e)/\∀n∈AJ (AZ l e),n∈AJ (Av l e):=by
 have p:=AJ0 g he;obtain⟨k1,k2,k3⟩:=RK g e;have nd:(AJ (sd (kept l e))).Nodup:=by rw[WR];exact RE k3
 have so:Lc (sd (kept l e)):=λx hx=>by obtain⟨y,hy,rfl⟩:=Θ.mp hx;exact k1 y hy
 have dp:(AJ (AZ l e)).Perm (AJ (sd (kept l e))):=p.map _;have P5:(AJ (AZ l e)).Nodup:=dp.nodup_iff.mpr nd;refine⟨⟨λx hx=>so x (p.mem_iff.mp hx),P5,λn hn=>?_,λt=>?_⟩,λn hn=>?_⟩
 .have:=dp.mem_iff.mp hn;rw[WR] at this;obtain⟨i,hi,rfl⟩:=Θ.mp this;obtain⟨x,hx,rfl⟩:=Θ.mp hi;have:=k2 x hx;omega
 .unfold Bo;rw[<-dM k3];unfold dv;congr 1;unfold Ak;congr 1;cases h:BP (sd (kept l e)) (t+1) with
  |none=>rw[BO] at h ⊢;exact λz=>h (dp.mem_iff.mp z)
  |some v=>exact Kn P5 (p.mem_iff.mpr (GO h))
 .obtain⟨x,hx,rfl⟩:=Θ.mp hn;obtain⟨y,hy,rfl⟩:=Θ.mp hx;exact Θ.mpr ⟨y,(d_.mp hy).1,rfl⟩
def mx(a:Rat):Rat:=if 0<=a then a else 0
def S(l:qa)(e:Nat):Rat:=((pW l.persons.length).map λi=>mx (Bo l e i-Bd l e i)).sum
def M(l:qa)(e:Nat):Rat:=((pW l.persons.length).map λi=>mx (Bd l e i-Bo l e i)).sum
def gx(l:qa)(e i:Nat):Rat:=if Bd l e i<=Bo l e i then Bo l e i else Bd l e i-(Bd l e i-Bo l e i)*(S l e/M l e)
theorem ATf{l:qa}(g:Good l)(e t:Nat):Bo l e t<=Wv l e t:=by
 rw[<-(Jl (e:=e) g).2 t];unfold Bo kept;have n:=(Jl (e:=e) g).1;have fk:=AR2 g.S5;have ho:=n.ok;generalize byLaw l e=s at ho
 induction s with
 |nil=>exact r6
 |cons x s ih=>
  have ih:=ih λy hy=>ho y (θ _ hy);have hx:=ho x (υ ..);rw[qB,Ck];have nn:(0:Rat)<=if x.1=t then rv x.2 else 0:=by
   split
   .exact Pp _
   .exact r6
  split
  .rw[k_,Ck];have:(if x.1=t then rv (x.2.mul l.kept) else 0)<=if x.1=t then rv x.2 else 0:=by
    split
    .rw[O5 hx g.S5.1];have:=tR fk (Pp x.2)
     grind
    .exact r6
   show(if x.1=t then rv (x.2.mul l.kept) else 0)+_<=_
   grind
  .grind
theorem ASg{l:qa}(g:Good l)(e t:Nat):0<=Bd l e t:=by rw[<-Tn g];exact bZ _ _
theorem ATd(l:qa)(e t:Nat):0<=Bo l e t:=bZ _ _
theorem AJ9{l:qa}(g:Good l)(e:Nat):((pW l.persons.length).map λt=>wt (byWill l e) t).sum=tw (byWill l e):=bf λx hx=>(Ud g e x hx).2.2
theorem AVp{l:qa}(g:Good l)(e:Nat):S l e<=M l e:=by
 have key:((pW l.persons.length).map (Bo l e)).sum<=((pW l.persons.length).map (Bd l e)).sum:=by
  by_cases hb:byLaw l e=[]
  .have:∀t,Bo l e t=0:=λt=>by unfold Bo kept;rw[hb];rfl
   rw[Lq λt _=>this t];exact Tt λt _=>ASg g e t
  .have h1:((pW l.persons.length).map (Bo l e)).sum<=((pW l.persons.length).map (Wv l e)).sum:=Sg λt _=>ATf g e t;have h2:((pW l.persons.length).map (Bd l e)).sum=tw (byWill l e)+(1-tw (byWill l e))*((pW l.persons.length).map (Wv l e)).sum:=by
    rw[<-AJ9 g e,<-MX,<-sum_add];refine BY λt _=>?_;unfold Bd;rw[ζ hb,AJ9 g e]
    grind
   have h3:=ATV g e;have h4:=Z5 g e;have h5:0<=tw (byWill l e):=Tt λ_ _=>Pp _;have h6:=tR h3 h5;rw[h2]
   grind
 have h:((pW l.persons.length).map (Bo l e)).sum+M l e=((pW l.persons.length).map (Bd l e)).sum+S l e:=by unfold M S;rw[<-sum_add,<-sum_add];refine BY λt _=>?_;unfold mx;split<;>split<;>grind
 grind
def Ar(w k:D Q):D Q:=(w.filter λx=>!x.2.le (Ak k x.1)).map λx=>(x.1,x.2.sub (Ak k x.1))
def GG(w k:D Q):Q:=(w.filter λx=>x.2.le (Ak k x.1)).foldl (λa x=>a.add ((Ak k x.1).sub x.2)) zero
def Sj(w k:D Q):D Q:=(Ar w k).foldl (λd x=>dput d x.1 ((Ak w x.1).sub ((GG w k).mul (x.2.div (Js (Ar w k)))))) k
def As(l:qa)(e:Nat):D Q:=without (Sj (AL l e) (AZ l e))
theorem NF{d:D Q}(nd:(AJ d).Nodup){x:Nat×Q}(h:x∈d):Ak d x.1=x.2:=by unfold Ak;rw[Kn nd (show(x.1,x.2)∈d from h)];rfl
theorem AR1{f:Nat×Q->Q}:∀(w:D Q) (a:Q),Bm a->(∀x∈w,Bm (f x))->Bm (w.foldl (λa x=>a.add (f x)) a)/\rv (w.foldl (λa x=>a.add (f x)) a)=rv a+(w.map λx=>rv (f x)).sum
 |[],a,ha,_=>⟨ha,by show rv a=rv a+0;grind⟩
 |x::w,a,ha,h=>by
  have hx:=h x (υ ..);have ih:=AR1 (f:=f) w (a.add (f x)) (SR ha hx) λy hy=>h y (θ _ hy);refine⟨ih.1,?_⟩;show rv (w.foldl _ (a.add (f x)))=_;rw[ih.2,Rw ha hx,k_,qg]
  grind
section
variable {l:qa}{e:Nat}{w k:D Q}
theorem ALD{f:Nat->Rat}(h:Tells l w f)(F:Nat->Rat)(h0:∀i,i<l.persons.length->i+1∉AJ w->F i=0):(w.map λx=>F (x.1-1)).sum=((pW l.persons.length).map F).sum:=by
 have e1:(w.map λx=>F (x.1-1)).sum=(((AJ w).map (· - 1)).map F).sum:=by unfold AJ;rw[p6,p6];rfl
 rw[e1];refine OY ?_ (λn hn=>?_) F λn hn q=>h0 n hn λz=>q (Θ.mpr ⟨n+1,z,by show n+1-1=n;omega⟩)
 .have nd:=h.nd;have hk:=h.k;generalize AJ w=ks at nd hk
  induction ks with
  |nil=>simp
  |cons a ks ih=>
   have P5:=qv.mp nd;have ha:=hk a (υ ..);refine qv.mpr ⟨λz=>?_,ih P5.2 λn hn=>hk n (θ _ hn)⟩;obtain⟨b,hb,eb⟩:=Θ.mp z;have eb:b-1=a-1:=eb;have Jg:=hk b (θ _ hb);have:b=a:=by omega
   exact P5.1 (this▸hb)
 .obtain⟨b,hb,rfl⟩:=Θ.mp hn;have:=h.k b hb;show b-1<_;omega
structure Sh(l:qa)(e:Nat)(wd kd:D Q):Prop where
 w:Tells l wd (Bd l e)
 k:Tells l kd (Bo l e)
 sub:∀n∈AJ kd,n∈AJ wd
theorem Sh.at(h:Sh l e w k){x:Nat×Q}(hx:x∈w):Bm x.2/\Bm (Ak k x.1)/\rv x.2=Bd l e (x.1-1)/\rv (Ak k x.1)=Bo l e (x.1-1):=by
 have k1:=h.w.k x.1 (Θ.mpr ⟨x,hx,rfl⟩);have e1:x.1=x.1-1+1:=by omega
 refine⟨h.w.ok x hx,F8 h.k.ok _,?_,?_⟩
 .rw[<-NF h.w.nd hx,<-h.w.val (x.1-1),<-e1];rfl
 .rw[<-h.k.val (x.1-1),<-e1];rfl
theorem Sh.out(h:Sh l e w k){i:Nat}(hi:i+1∉AJ w):Bd l e i=0/\Bo l e i=0:=by
 refine⟨?_,?_⟩
 .rw[<-h.w.val i];unfold dv Ak;rw[BO.mpr hi];exact Aw
 .rw[<-h.k.val i];unfold dv Ak;rw[BO.mpr λz=>hi (h.sub _ z)];exact Aw
theorem Sh.miss(h:Sh l e w k):Bm (GG w k)/\rv (GG w k)=S l e:=by
 have q:=AR1 (f:=λx=>(Ak k x.1).sub x.2) (w.filter λx=>x.2.le (Ak k x.1)) zero IZ λx hx=>by have:=h.at (d_.mp hx).1;exact Ir this.2.1 this.1
 refine⟨q.1,?_⟩;unfold GG;rw[q.2,Aw,LQ];unfold S;rw[<-ALD h.w (λi=>mx (Bo l e i-Bd l e i)) λi hi z=>by obtain⟨z1,z2⟩:=h.out z;rw[z1,z2];unfold mx;split<;>grind]
 have:(w.map λx=>if x.2.le (Ak k x.1)=true then rv ((Ak k x.1).sub x.2) else 0).sum=(w.map λx=>mx (Bo l e (x.1-1)-Bd l e (x.1-1))).sum:=BY λx hx=>by
  obtain⟨o1,o2,v1,v2⟩:=h.at hx;unfold mx;by_cases z:x.2.le (Ak k x.1)=true
  .have z':=(Rk o1 o2).mp z;rw[η z,QN o2 o1 z',v1,v2];rw[v1,v2] at z';rw[η (by grind)]
  .rw[ζ z];have z':¬ rv x.2<=rv (Ak k x.1):=λq=>z ((Rk o1 o2).mpr q);rw[v1,v2] at z';split<;>grind
 rw[this]
 grind
theorem Sh.mo(h:Sh l e w k):Lc (Ar w k)/\(AJ (Ar w k)).Nodup/\(∀x∈Ar w k,x.1∈AJ w/\rv x.2=Bd l e (x.1-1)-Bo l e (x.1-1)/\¬ Bd l e (x.1-1)<=Bo l e (x.1-1))/\(∀x∈w,¬ Bd l e (x.1-1)<=Bo l e (x.1-1)->x.1∈AJ (Ar w k))/\rv (Js (Ar w k))=M l e:=by
 have o:Lc (Ar w k):=λx hx=>by obtain⟨y,hy,rfl⟩:=Θ.mp hx;have:=h.at (d_.mp hy).1;exact Ir this.1 this.2.1
 have val:∀x∈w,((!x.2.le (Ak k x.1))=true↔¬ Bd l e (x.1-1)<=Bo l e (x.1-1))/\(¬ Bd l e (x.1-1)<=Bo l e (x.1-1)->rv (x.2.sub (Ak k x.1))=Bd l e (x.1-1)-Bo l e (x.1-1)):=λx hx=>by
  obtain⟨o1,o2,v1,v2⟩:=h.at hx;refine⟨?_,λz=>?_⟩
  .rw[<-v1,<-v2,<-Rk o1 o2];simp
  .rw[QN o1 o2 (by rw[v1,v2];grind),v1,v2]
 have kk:AJ (Ar w k)=AJ (w.filter λx=>!x.2.le (Ak k x.1)):=by unfold AJ Ar;rw[p6];rfl
 refine⟨o,by rw[kk];exact h.w.nd.sublist (List.filter_sublist.map _),λx hx=>?_,λx hx z=>?_,?_⟩
 .obtain⟨y,hy,rfl⟩:=Θ.mp hx;obtain⟨y1,y2⟩:=d_.mp hy;have v:=val y y1;exact⟨Θ.mpr ⟨y,y1,rfl⟩,v.2 (v.1.mp y2),v.1.mp y2⟩
 .rw[kk];exact Θ.mpr ⟨x,d_.mpr ⟨hx,(val x hx).1.mpr z⟩,rfl⟩
 .rw[Xe o];unfold Oo Ar;rw[p6];show((w.filter λx=>!x.2.le (Ak k x.1)).map λx=>rv (x.2.sub (Ak k x.1))*1).sum=_;rw[LQ];unfold M;rw[<-ALD h.w (λi=>mx (Bd l e i-Bo l e i)) λi hi z=>by obtain⟨z1,z2⟩:=h.out z;rw[z1,z2];unfold mx;split<;>grind]
  refine BY λx hx=>?_;have v:=val x hx;unfold mx;by_cases z:Bd l e (x.1-1)<=Bo l e (x.1-1)
  .rw[ζ (λq=>v.1.mp q z)];split<;>grind
  .rw[η (v.1.mpr z),v.2 z,η (by grind)]
   grind
end
theorem RC{F:Nat×Q->Q}:∀(u d:D Q),(AJ u).Nodup->Lc d->(AJ d).Nodup->(∀x∈u,Bm (F x))->Lc (u.foldl (λd x=>dput d x.1 (F x)) d)/\(AJ (u.foldl (λd x=>dput d x.1 (F x)) d)).Nodup /\
  (∀n,n∈AJ (u.foldl (λd x=>dput d x.1 (F x)) d)↔n∈AJ u\/n∈AJ d)/\(∀x∈u,Ak (u.foldl (λd x=>dput d x.1 (F x)) d) x.1=F x)/\∀n,n∉AJ u->Ak (u.foldl (λd x=>dput d x.1 (F x)) d) n=Ak d n
 |[],d,_,ho,nd,_=>⟨ho,nd,λn=>⟨.inr,λz=>z.elim (λq=>by cases q) id⟩,λx hx=>(by cases hx),λn _=>rfl⟩
 |y::u,d,nu,ho,nd,hF=>by
  have nu':=qv.mp nu;obtain⟨h1,h2,h3,h4,h5⟩:=RC (F:=F) u (dput d y.1 (F y)) nu'.2 (Xv ho _ (hF y (υ ..))) (LF nd _ _) λx hx=>hF x (θ _ hx);refine⟨h1,h2,λn=>?_,λx hx=>?_,λn hn=>?_⟩
  .show n∈AJ (u.foldl _ _)↔n∈y.1::AJ u\/_;rw[h3 n,D7,pM]
   grind
  .show Ak (u.foldl _ _) x.1=_;rcases pM.mp hx with z|z
   .subst z;rw[h5 x.1 nu'.1,TU,η rfl]
   .exact h4 x z
  .have cT:¬ n=y.1/\n∉AJ u:=by refine⟨λz=>hn ?_,λz=>hn (θ _ z)⟩;show n∈y.1::AJ u;rw[z];exact υ ..
   show Ak (u.foldl _ _) n=_;rw[h5 n cT.2,TU,ζ (λz=>cT.1 z.symm)]
section
variable {l:qa}{e:Nat}{w k:D Q}
theorem AYX(l:qa)(e:Nat):0<=S l e:=Tt λi _=>by unfold mx;split;assumption;exact r6
theorem YK(g:Good l){i:Nat}(h:¬ Bd l e i<=Bo l e i)(hi:i<l.persons.length):0<M l e/\(Bd l e i-Bo l e i)*(S l e/M l e)<=Bd l e i:=by
 have h1:=AVp g e;have h2:=AYX l e;have h3:Bd l e i-Bo l e i<=M l e:=by
  have e1:mx (Bd l e i-Bo l e i)=Bd l e i-Bo l e i:=by unfold mx;rw[η (by grind)]
  rw[<-e1,<-Ss hi λi=>mx (Bd l e i-Bo l e i)];refine Sg λj _=>?_;split
  .exact r6
  .unfold mx;split
   .assumption
   .exact r6
 have h4:0<M l e:=by grind
 refine⟨h4,?_⟩;have h5:S l e/M l e<=1:=by
  have:=(AGP (a:=S l e) (c:=1) (d:=1) h4 (by decide)).mpr (by grind)
  grind
 have h6:0<=Bd l e i-Bo l e i:=by grind
 have h7:=tR h5 h6;have h8:=ATd l e i
 grind
theorem Sh.share(h:Sh l e w k)(g:Good l):Tells l (Sj w k) (gx l e):=by
 obtain⟨mo,mv⟩:=h.miss;obtain⟨a1,a2,a3,a4,a5⟩:=h.mo;have to:=QC a1;have f1:∀x∈Ar w k,Bm ((GG w k).mul (x.2.div (Js (Ar w k)))):=λx hx=>N7 mo (D4 (a1 x hx));have hF:∀x∈Ar w k,Bm ((Ak w x.1).sub ((GG w k).mul (x.2.div (Js (Ar w k))))):=λx hx=>Ir (F8 h.w.ok _) (f1 x hx);obtain⟨h1,h2,h3,h4,h5⟩:=RC (F:=λx=>(Ak w x.1).sub ((GG w k).mul (x.2.div (Js (Ar w k))))) (Ar w k) k a2 h.k.ok h.k.nd hF;refine⟨h1,h2,λn hn=>?_,λt=>?_⟩
 .rcases(h3 n).mp hn with z|z
  .obtain⟨x,hx,rfl⟩:=Θ.mp z;exact h.w.k _ (a3 x hx).1
  .exact h.k.k n z
 .unfold gx dv Sj;by_cases z:Bd l e t<=Bo l e t
  .rw[η z];have:t+1∉AJ (Ar w k):=λq=>by obtain⟨x,hx,ex⟩:=Θ.mp q;have:=(a3 x hx).2.2;rw[ex,qH] at this;exact this z
   rw[h5 _ this];exact h.k.val t
  .rw[ζ z];have bE:t+1∈AJ w:=by
    by_cases q:t+1∈AJ w
    .exact q
    .obtain⟨z1,z2⟩:=h.out q;rw[z1,z2] at z;exact absurd r6 z
   obtain⟨y,hy,ey⟩:=Θ.mp bE;have hm:=a4 y hy (by rw[ey,qH];exact z);rw[ey] at hm;obtain⟨x,hx,ex⟩:=Θ.mp hm;have v:=h4 x hx;rw[ex] at v;rw[v];have hv:=(a3 x hx).2.1;rw[ex,qH] at hv;have hw:rv (Ak w (t+1))=Bd l e t:=h.w.val t;have ht:t<l.persons.length:=by have:=h.w.k _ bE;omega
   obtain⟨p1,p2⟩:=YK (e:=e) g z ht;have key:rv ((GG w k).mul (x.2.div (Js (Ar w k))))=(Bd l e t-Bo l e t)*(S l e/M l e):=by
    rw[O5 mo (D4 (a1 x hx)),KG (a1 x hx) to,mv,hv,a5]
    grind
   rw[QN (F8 h.w.ok _) (f1 x hx) (by rw[key,hw];exact p2),key,hw]
end
theorem Yp{l:qa}(g:Good l){e:Nat}(he:e<l.persons.length):Sh l e (AL l e) (AZ l e):=by
 have hw:=AMj g he;obtain⟨hk,hs⟩:=AMB g he;refine⟨hw,hk,λn hn=>?_⟩;have hb:=hs n hn;have ne:¬ Av l e=[]:=λz=>by rw[z] at hb;cases hb
 unfold AL;rw[ζ ne];generalize Cq l e=d;generalize one.sub (Js d)=c;have key:∀(u d:D Q),n∈AJ u\/n∈AJ d->n∈AJ (u.foldl (λd x=>Am d x.1 (x.2.mul c)) d):=by
  intro u
  induction u with
  |nil=>intro d h;exact h.elim (λq=>by cases q) id
  |cons x u ih=>
   intro d h;refine ih _ ?_;rcases h with q|q
   .rcases pM.mp q with z|z
    .exact .inr (D7.mpr (.inl z))
    .exact .inl z
   .exact .inr (D7.mpr (.inr q))
 exact key _ _ (.inl hb)
theorem GZ{l:qa}(g:Good l){e:Nat}(he:e<l.persons.length):Pos (As l e)/\(∀n∈AJ (As l e),1<=n/\n<=l.persons.length)/\∀t,dv (As l e) (t+1)=gx l e t:=by
 have h:=(Yp g he).share g;obtain⟨h1,h2⟩:=AGC h.ok h.nd;refine⟨h1,λn hn=>?_,λt=>?_⟩
 .obtain⟨x,hx,rfl⟩:=Θ.mp hn;exact h.k _ (Θ.mpr ⟨x,(d_.mp hx).1,rfl⟩)
 .unfold As;rw[h2,h.val t]
theorem Q3{l:qa}(g:Good l)(e:Nat):(∀x∈wished l e,Bm x.2)/\(∀x∈wished l e,x.1<l.persons.length):=by
 obtain⟨h1,h2,h3⟩:=AKw g e;rw[AJP];refine⟨λx hx=>?_,λx hx=>?_⟩
 .rw[(LP h2 h1).2.2 x hx];exact Bt h1 _
 .have:x.1∈keys l.persons.length (W6 l e):=by rw[<-(LP h2 h1).2.1];exact Θ.mpr ⟨x,hx,rfl⟩
  exact(mem_keys.mp this).1
theorem U7{l:qa}(g:Good l)(e i:Nat):rv (qE (wished l e) i)=Bd l e i:=by rw[Jb (Q3 g e).1,Tn g]
theorem U8{l:qa}(g:Good l)(e i:Nat):rv (qE (kept l e) i)=Bo l e i:=Jb (RK g e).1 i
theorem YU{l:qa}(g:Good l){e i:Nat}(hi:i<l.persons.length)(h:i∉uS (wished l e) (kept l e)):Bd l e i=0/\Bo l e i=0:=by
 rw[OD g] at h;have h':∀x∈wished l e++kept l e,x.1≠i:=λx hx q=>h (mem_keys.mpr ⟨hi,x,hx,q⟩);refine⟨?_,?_⟩
 .rw[<-Tn g];exact Ou λx hx=>h' x (qT _ hx)
 .exact Ou λx hx=>h' x (p9 _ hx)
theorem AQm{l:qa}(g:Good l)(e:Nat):Bm (Le l e)/\rv (Le l e)=S l e:=by
 have w:=(Q3 g e).1;have k:=(RK g e).1;have ho:∀x∈(uS (wished l e) (kept l e)).map λi=>(qE (kept l e) i).sub (qE (wished l e) i),Bm x:=λx hx=>by obtain⟨i,_,rfl⟩:=Θ.mp hx;exact Ir (Bt k i) (Bt w i)
 refine⟨J2 ho,?_⟩;unfold Le;rw[T8 ho,p6];have e1:((uS (wished l e) (kept l e)).map (rv∘λi=>(qE (kept l e) i).sub (qE (wished l e) i))).sum=((uS (wished l e) (kept l e)).map λi=>mx (Bo l e i-Bd l e i)).sum:=BY λi _=>by
  show rv ((qE (kept l e) i).sub (qE (wished l e) i))=_;have a:=U7 g e i;have b:=U8 g e i;unfold mx;by_cases z:Bd l e i<=Bo l e i
  .rw[QN (Bt k i) (Bt w i) (by rw[a,b];exact z),a,b,η (by grind)]
  .rw[AOE (Bt k i) (Bt w i) (by rw[a,b];grind),ζ (by grind)]
 rw[e1];refine OY ?_ ?_ (λi=>mx (Bo l e i-Bd l e i)) λi hi q=>?_
 .rw[OD g];exact JM (RJ _ _)
 .intro n hn;rw[OD g] at hn;exact(mem_keys.mp hn).1
 .obtain⟨z1,z2⟩:=YU g hi q;rw[z1,z2];unfold mx;split<;>grind
theorem ATL{l:qa}(g:Good l)(e:Nat):Bm (LL l e)/\rv (LL l e)=M l e:=by
 have w:=(Q3 g e).1;have k:=(RK g e).1;have ho:∀x∈(uS (wished l e) (kept l e)).map λi=>(qE (wished l e) i).sub (qE (kept l e) i),Bm x:=λx hx=>by obtain⟨i,_,rfl⟩:=Θ.mp hx;exact Ir (Bt w i) (Bt k i)
 refine⟨J2 ho,?_⟩;unfold LL;rw[T8 ho,p6];have e1:((uS (wished l e) (kept l e)).map (rv∘λi=>(qE (wished l e) i).sub (qE (kept l e) i))).sum=((uS (wished l e) (kept l e)).map λi=>mx (Bd l e i-Bo l e i)).sum:=BY λi _=>by
  show rv ((qE (wished l e) i).sub (qE (kept l e) i))=_;have a:=U7 g e i;have b:=U8 g e i;unfold mx;by_cases z:Bo l e i<=Bd l e i
  .rw[QN (Bt w i) (Bt k i) (by rw[a,b];exact z),a,b,η (by grind)]
  .rw[AOE (Bt w i) (Bt k i) (by rw[a,b];grind),ζ (by grind)]
 rw[e1];refine OY ?_ ?_ (λi=>mx (Bd l e i-Bo l e i)) λi hi q=>?_
 .rw[OD g];exact JM (RJ _ _)
 .intro n hn;rw[OD g] at hn;exact(mem_keys.mp hn).1
 .obtain⟨z1,z2⟩:=YU g hi q;rw[z1,z2];unfold mx;split<;>grind
def aT(l:qa)(e i:Nat):Q:=if (qE (wished l e) i).le (qE (kept l e) i)=true then qE (kept l e) i else(qE (wished l e) i).sub (((qE (wished l e) i).sub (qE (kept l e) i)).mul ((Le l e).div (LL l e)))
theorem XY{l:qa}(g:Good l)(e:Nat){i:Nat}(hi:i<l.persons.length):Bm (aT l e i)/\rv (aT l e i)=gx l e i:=by
 have w:=Bt (Q3 g e).1 i;have k:=Bt (RK g e).1 i;have a:=U7 g e i;have b:=U8 g e i;obtain⟨s1,s2⟩:=AQm g e;obtain⟨m1,m2⟩:=ATL g e;unfold aT gx;have iff:=Rk w k;rw[a,b] at iff;by_cases z:Bd l e i<=Bo l e i
 .rw[η (iff.mpr z),η z];exact⟨k,b⟩
 .rw[ζ (λq=>z (iff.mp q)),ζ z];have d1:=Ir w k;have d2:=N7 d1 (D4 s1:Bm ((Le l e).div (LL l e)));have v:rv (((qE (wished l e) i).sub (qE (kept l e) i)).mul ((Le l e).div (LL l e)))=(Bd l e i-Bo l e i)*(S l e/M l e):=by rw[O5 d1 (D4 s1),QN w k (by rw[a,b];grind),KG s1 m1,a,b,s2,m2]
  refine⟨Ir w d2,?_⟩;rw[QN w d2 (by rw[v,a];exact(YK g z hi).2),v,a]
theorem Lr{l:qa}(g:Good l)(e:Nat):Y5 (qC l e)/\(∀x∈qC l e,x.1<l.persons.length)/\∀t,wt (qC l e) t=if t<l.persons.length then gx l e t else 0:=by
 have eq:qC l e=((keys l.persons.length (wished l e++kept l e)).map λi=>(i,aT l e i)).filter λx=>x.2 != zero:=by rw[AJe,OD g];rfl
 have kl:=RJ l.persons.length (wished l e++kept l e);have mem:∀x∈qC l e,x.1∈keys l.persons.length (wished l e++kept l e)/\x.2=aT l e x.1/\x.2≠zero:=λx hx=>by rw[eq] at hx;obtain⟨h1,h2⟩:=d_.mp hx;obtain⟨i,hi,rfl⟩:=Θ.mp h1;exact⟨hi,rfl,by simpa using h2⟩
 have lt:∀x∈qC l e,x.1<l.persons.length:=λx hx=>(mem_keys.mp (mem x hx).1).1;refine⟨⟨?_,λx hx=>?_,λx hx=>?_⟩,lt,λt=>?_⟩
 .rw[eq];refine List.Pairwise.sublist (List.filter_sublist.map _) ?_;rw[p6];show((keys _ _).map λi=>i).Pairwise _;rw[List.map_id'];exact kl
 .rw[(mem x hx).2.1];exact(XY g e (lt x hx)).1
 .have o:Bm x.2:=by rw[(mem x hx).2.1];exact(XY g e (lt x hx)).1
  rcases sS x.2.n with z|z
  .exact absurd ((X0 o).mp z) (mem x hx).2.2
  .exact z
 .by_cases ht:t<l.persons.length
  .rw[η ht,<-(XY g e ht).2];unfold wt;rw[eq,LQ,p6];have e1:((keys l.persons.length (wished l e++kept l e)).map ((λx:Nat×Q=>if (x.2 != zero)=true then(if x.1=t then rv x.2 else 0) else 0)∘λi=>(i,aT l e i))).sum=((keys l.persons.length (wished l e++kept l e)).map λi=>if i=t then rv (aT l e i) else 0).sum:=BY λi _=>by
    show(if (aT l e i != zero)=true then(if i=t then rv (aT l e i) else 0) else 0)=if i=t then rv (aT l e i) else 0;by_cases z:aT l e i=zero
    .rw[z,Aw];split<;>split<;>rfl
    .rw[η (by simpa using z)]
   rw[e1,OY (JM kl) (λn hn=>(mem_keys.mp hn).1) (λi=>if i=t then rv (aT l e i) else 0) (λi hi q=>?_),Ss ht λi=>rv (aT l e i)];split
   .rename_i z;subst z;rw[(XY g e ht).2];rw[<-OD g] at q;obtain⟨z1,z2⟩:=YU g ht q;unfold gx;rw[z1,z2,η r6]
   .rfl
  .rw[ζ ht];exact Ou λx hx q=>ht (q▸lt x hx)
theorem QK{l:qa}(g:Good l){e:Nat}(he:e<l.persons.length):(As l e).Perm (sd (qC l e)):=by
 obtain⟨h1,h2,h3⟩:=GZ g he;obtain⟨n1,n2,n3⟩:=Lr g e;refine Xp h1 n1.toPos λk=>?_;cases k with
 |zero=>rw[ASA];unfold dv Ak;rw[BO.mpr λz=>by have:=h2 _ z;omega];exact Aw
 |succ t=>
  rw[dM (JM n1.lt),n3 t];split
  .exact h3 t
  .rename_i ht;unfold dv Ak;rw[BO.mpr λz=>by have:=h2 _ z;omega];exact Aw
def Jv(l:qa)(d:D Q)(i:Nat):D Q:=match BP d (i+1) with
 |none=>d
 |some a=>if As l i=[] then Am (Ef d (i+1)) 0 a else(As l i).foldl (λd x=>Am d x.1 (a.mul x.2)) (Ef d (i+1))
theorem VA{d:D Q}(h:Pos d)(k:Nat){a:Q}(ha:Bm a)(hp:0<a.n):Pos (Am d k a):=by
 refine⟨NW h.ok k ha,G8 h.nd k a,λx hx=>?_⟩;rcases VJ hx with z|z
 .rw[z];refine(LC (SR (F8 h.ok k) ha)).mp ?_;rw[Rw (F8 h.ok k) ha];have:=Pp (Ak d k);have:=(LC ha).mpr hp
  grind
 .exact h.pos x z
theorem ALu{a b:Q}(ha:Bm a)(hb:Bm b)(pa:0<a.n)(pb:0<b.n):0<(a.mul b).n:=by refine(LC (N7 ha hb)).mp ?_;rw[O5 ha hb];exact yd ((LC ha).mpr pa) ((LC hb).mpr pb)
theorem Qw{a:Q}(ha:Bm a)(pa:0<a.n):∀(u d:D Q),Pos u->Pos d->Pos (u.foldl (λd x=>Am d x.1 (a.mul x.2)) d)/\(∀n,n∈AJ (u.foldl (λd x=>Am d x.1 (a.mul x.2)) d)↔n∈AJ u\/n∈AJ d) /\
  ∀k,dv (u.foldl (λd x=>Am d x.1 (a.mul x.2)) d) k=dv d k+rv a*dv u k
 |[],d,_,hd=>⟨hd,λn=>⟨.inr,λz=>z.elim (λq=>by cases q) id⟩,λk=>by
  have:dv ([]:D Q) k=0:=Aw;rw[this];show dv d k=_
  grind⟩
 |x::u,d,hu,hd=>by
  have P5:=qv.mp hu.nd;have ox:=hu.ok x (υ ..);have px:=hu.pos x (υ ..);have hm:=N7 ha ox;obtain⟨h1,h2,h3⟩:=Qw ha pa u (Am d x.1 (a.mul x.2)) ⟨λy hy=>hu.ok y (θ _ hy),P5.2,λy hy=>hu.pos y (θ _ hy)⟩ (VA hd _ hm (ALu ha ox pa px));refine⟨h1,λn=>?_,λk=>?_⟩
  .show n∈AJ (u.foldl _ _)↔n∈x.1::AJ u\/_;rw[h2 n,pM];unfold Am;rw[D7]
   grind
  .show dv (u.foldl _ _) k=_;rw[h3 k,OA hd.ok _ hm,O5 ha ox];have:dv (x::u) k=(if x.1=k then rv x.2 else 0)+dv u k:=by
    unfold dv;rw[Dp];split
    .rename_i z;have:Ak u k=zero:=by unfold Ak;rw[BO.mpr (λq=>P5.1 (by show x.1∈AJ u;rw[z];exact q))];rfl
     rw[this,Aw];grind
    .grind
   rw[this];split<;>grind
theorem WQ{d:D Q}(h:Pos d)(k:Nat):Pos (Ef d k)/\(∀n,n∈AJ (Ef d k)↔n∈AJ d/\n≠k)/\∀j,dv (Ef d k) j=if j=k then 0 else dv d j:=by
 refine⟨⟨λx hx=>h.ok x (d_.mp hx).1,AHZ h.nd k,λx hx=>h.pos x (d_.mp hx).1⟩,λn=>?_,λj=>?_⟩
 .unfold AJ Ef;constructor
  .intro q;obtain⟨x,hx,rfl⟩:=Θ.mp q;obtain⟨h1,h2⟩:=d_.mp hx;exact⟨Θ.mpr ⟨x,h1,rfl⟩,by simpa using h2⟩
  .rintro⟨q,ne⟩;obtain⟨x,hx,rfl⟩:=Θ.mp q;exact Θ.mpr ⟨x,d_.mpr ⟨hx,by simpa using ne⟩,rfl⟩
 .unfold dv Ak;rw[AJ8];split
  .exact Aw
  .rfl
structure Rl(l:qa)(d:D Q)(s:qP):Prop where
 p:Pos d
 k:∀n∈AJ d,n<=l.persons.length
 n:Y5 s
 sk:∀x∈s,x.1<=l.persons.length
 val:∀i,i<l.persons.length->dv d (i+1)=wt s i
 lO:dv d 0=wt s l.persons.length
theorem AJf{l:qa}(g:Good l){e:Nat}(he:e<l.persons.length):(∀t,t<l.persons.length->dv (As l e) (t+1)=wt (qC l e) t)/\dv (As l e) 0=0/\(As l e=[]↔qC l e=[])/\wt (qC l e) l.persons.length=0:=by
 obtain⟨h1,h2,h3⟩:=GZ g he;obtain⟨n1,n2,n3⟩:=Lr g e;have p:=(QK g he).length_eq;have e1:(sd (qC l e)).length=(qC l e).length:=χ ..;rw[e1] at p;refine⟨λt ht=>by rw[h3 t,n3 t,η ht],?_,⟨λh=>?_,λh=>?_⟩,?_⟩
 .unfold dv Ak;rw[BO.mpr λz=>by have:=h2 _ z;omega];exact Aw
 .rw[h] at p;exact rm p.symm
 .rw[h] at p;exact rm p
 .rw[n3,ζ (r_ _)]
def Rn(l:qa)(s:qP)(i:Nat):qP:=(s.filter λx=>x.1 != i)++if qC l i=[] then[(l.persons.length,qE s i)] else(qC l i).map λx=>(x.1,x.2.mul (qE s i))
theorem APX(l:qa)(s:qP)(i:Nat):passOn l s i=if qE s i=zero then s else joined (Rn l s i):=rfl
theorem Q0(s:qP)(i t:Nat):wt (s.filter λx=>x.1 != i) t=if t=i then 0 else wt s t:=by
 unfold wt;rw[LQ];by_cases z:t=i
 .rw[η z];refine Lq λx _=>?_;by_cases q:x.1=t
  .rw[ζ (by simp[q,z])]
  .rw[ζ q];split<;>rfl
 .rw[ζ z];refine BY λx _=>?_;by_cases q:x.1=t
  .rw[η (by simp[q,z])]
  .rw[ζ q];split<;>rfl
theorem AMO{l:qa}(g:Good l){d:D Q}{s:qP}{i:Nat}(hi:i<l.persons.length)(h:Rl l d s):Rl l (Jv l d i) (passOn l s i):=by
 have so:=h.n.ok;have hv:=h.val i hi;rw[<-Jb so] at hv;unfold Jv;rw[APX];cases q:BP d (i+1) with
 |none=>
  have:dv d (i+1)=0:=by unfold dv Ak;rw[q];exact Aw
  rw[this] at hv;rw[η ((AUw (Bt so i)).mp hv.symm)];exact h
 |some a=>
  have oa:Bm a:=h.p.ok _ (GO q);have pa:0<a.n:=h.p.pos _ (GO q);have va:dv d (i+1)=rv a:=by unfold dv Ak;rw[q];rfl
  have ea:a=qE s i:=QO oa (Bt so i) (va.symm.trans hv);have nz:qE s i≠zero:=λz=>by rw[<-ea] at z;rw[z] at pa;exact absurd pa (by decide)
  rw[ζ nz];obtain⟨s1,s2,s3,s4⟩:=AJf g hi;obtain⟨n1,n2,n3⟩:=Lr g i;obtain⟨t1,t2,t3⟩:=GZ g hi;obtain⟨p1,p2,p3⟩:=WQ h.p (i+1);have hk:∀x∈Rn l s i,x.1<l.persons.length+1:=λx hx=>by
   rcases pT.mp hx with z|z
   .have:=h.sk x (d_.mp z).1;omega
   .split at z
    .rw[i_.mp z];exact tG _
    .obtain⟨y,hy,rfl⟩:=Θ.mp z;have:=n2 y hy;show y.1<_;omega
  have ho:∀x∈Rn l s i,Bm x.2:=λx hx=>by
   rcases pT.mp hx with z|z
   .exact so x (d_.mp z).1
   .split at z
    .rw[i_.mp z];exact Bt so i
    .obtain⟨y,hy,rfl⟩:=Θ.mp z;exact N7 (n1.ok y hy) (Bt so i)
  have hp:∀x∈Rn l s i,0<x.2.n:=λx hx=>by
   rcases pT.mp hx with z|z
   .exact h.n.pos x (d_.mp z).1
   .split at z
    .rw[i_.mp z,<-ea];exact pa
    .obtain⟨y,hy,rfl⟩:=Θ.mp z;exact ALu (n1.ok y hy) (Bt so i) (n1.pos y hy) (by rw[<-ea];exact pa)
  obtain⟨j1,j2,j3⟩:=LP hk ho;have jn:=Qg hk ho hp;have jk:∀x∈joined (Rn l s i),x.1<=l.persons.length:=λx hx=>by
   have:x.1∈keys (l.persons.length+1) (Rn l s i):=by rw[<-j2];exact Θ.mpr ⟨x,hx,rfl⟩
   have:=(mem_keys.mp this).1;omega
  by_cases hs:qC l i=[]
  .have nv:=s3.mpr hs;dsimp only;rw[show(if As l i=[] then Am (Ef d (i+1)) 0 a else(As l i).foldl (λd x=>Am d x.1 (a.mul x.2)) (Ef d (i+1)))=Am (Ef d (i+1)) 0 a from η nv];refine⟨VA p1 0 oa pa,λn hn=>?_,jn,jk,λt ht=>?_,?_⟩
   .unfold Am at hn;rcases D7.mp hn with z|z
    .omega
    .exact h.k n ((p2 n).mp z).1
   .rw[OA p1.ok _ oa,p3,j1 t];unfold Rn;rw[Jr,Q0,η hs,Ck,L5];have c1:¬ (0=t+1):=by omega
    have c2:¬ (l.persons.length=t):=by omega
    rw[ζ c1];show _=_+((if l.persons.length=t then rv (qE s i) else 0)+0)
    rw[ζ c2];by_cases z:t=i
    .have c3:t+1=i+1:=by omega
     rw[η c3,η z];grind
    .have c3:¬ t+1=i+1:=by omega
     rw[ζ c3,ζ z,h.val t ht];grind
   .rw[OA p1.ok _ oa,p3,j1];unfold Rn;rw[Jr,Q0,η hs,Ck,L5];have c1:¬ (0=i+1):=by omega
    have c2:¬ (l.persons.length=i):=by omega
    rw[ζ c1,ζ c2,η rfl,h.lO,ea];show _=_+((if l.persons.length=l.persons.length then rv (qE s i) else 0)+0)
    rw[η rfl]
    grind
  .have nv:¬ As l i=[]:=λz=>hs (s3.mp z);dsimp only;rw[show(if As l i=[] then Am (Ef d (i+1)) 0 a else(As l i).foldl (λd x=>Am d x.1 (a.mul x.2)) (Ef d (i+1)))=(As l i).foldl (λd x=>Am d x.1 (a.mul x.2)) (Ef d (i+1)) from ζ nv];obtain⟨f1,f2,f3⟩:=Qw oa pa (As l i) (Ef d (i+1)) t1 p1;have wm:∀t,wt (if qC l i=[] then[(l.persons.length,qE s i)] else(qC l i).map λx=>(x.1,x.2.mul (qE s i))) t=wt (qC l i) t*rv a:=λt=>by rw[ζ hs,XQ (f:=λz=>z.mul (qE s i)) (c:=rv a) t λx hx=>by rw[O5 (n1.ok x hx) (Bt so i),ea]]
   refine⟨f1,λn hn=>?_,jn,jk,λt ht=>?_,?_⟩
   .rcases(f2 n).mp hn with z|z
    .exact(t2 n z).2
    .exact h.k n ((p2 n).mp z).1
   .rw[f3,p3,j1 t];unfold Rn;rw[Jr,Q0,wm,s1 t ht];by_cases z:t=i
    .have c3:t+1=i+1:=by omega
     rw[η c3,η z];grind
    .have c3:¬ t+1=i+1:=by omega
     rw[ζ c3,ζ z,h.val t ht];grind
   .rw[f3,p3,j1];unfold Rn;have c1:¬ (0=i+1):=by omega
    have c2:¬ (l.persons.length=i):=by omega
    rw[Jr,Q0,wm,s2,s4,ζ c1,ζ c2,h.lO]
    grind
def later(l:qa)(t i:Nat):Prop:=∀d,(person l i).died=some d->t<d
theorem AJv{l:qa}{e i t:Nat}(h:may l e i=true)(ht:(person l e).died=some t):later l t i:=λd hd=>by unfold may at h;rw[qm,qm,qm] at h;have h':=h.2.2.1;unfold outlives at h';rw[ht,hd] at h';exact zod h'
theorem APE{l:qa}{x:Gift}{i:Nat}(h:taker l x=some i):may l x.of_ i=true:=by
 unfold taker at h;split at h
 .rename_i q;injection h with h;rw[<-h];exact q
 .cases z:x.else_ with
  |none=>rw[z] at h;cases h
  |some j=>
   rw[z] at h;have h':(if may l x.of_ j=true then some j else none)=some i:=h;split at h'
   .injection h' with h';rw[<-h'];assumption
   .cases h'
theorem AKx{l:qa}(e:Nat):∀(gs:List Gift) (d:D Q),(∀x∈gs,x.of_=e)->(∀n∈AJ d,may l e (n-1)=true)->∀n∈AJ (gs.foldl (λd g=>match taker l g with
   |none=>d
   |some i=>Am d (i+1) g.part) d),may l e (n-1)=true
 |[],d,_,h=>h
 |x::gs,d,hm,h=>by
  rw[q_];refine AKx e gs _ (λy hy=>hm y (θ _ hy)) ?_;cases q:taker l x with
  |none=>exact h
  |some i=>
   intro n hn;rcases D7.mp hn with z|z
   .rw[z,qH,<-hm x (υ ..)];exact APE q
   .exact h n z
theorem AJQ{l:qa}(e:Nat):∀n∈AJ (Cq l e),may l e (n-1)=true:=AKx e _ [] (λx hx=>by have:=(d_.mp hx).2;simpa using this) λn hn=>by cases hn
theorem AGI{l:qa}(g:Good l){e:Nat}(he:e<l.persons.length):∀n∈AJ (As l e),may l e (n-1)=true:=λn hn=>by
 have h:=Yp g he;obtain⟨a1,a2,a3,a4,a5⟩:=h.mo;have to:=QC a1;obtain⟨mo,mv⟩:=h.miss;obtain⟨h1,h2,h3,h4,h5⟩:=RC (F:=λx=>(Ak (AL l e) x.1).sub ((GG (AL l e) (AZ l e)).mul (x.2.div (Js (Ar (AL l e) (AZ l e)))))) (Ar (AL l e) (AZ l e)) (AZ l e) a2 h.k.ok h.k.nd λx hx=>Ir (F8 h.w.ok _) (N7 mo (D4 (a1 x hx)));have bm:=Rb g he;have AXg:∀n∈AJ (Av l e),may l e (n-1)=true:=λn hn=>by obtain⟨x,hx,rfl⟩:=Θ.mp hn;exact(bm x hx).2.2
 have wm:∀n∈AJ (AL l e),may l e (n-1)=true:=λn hn=>by
  unfold AL at hn;split at hn
  .obtain⟨x,hx,rfl⟩:=Θ.mp hn;obtain⟨y,hy,rfl⟩:=Θ.mp hx;exact AJQ e _ (Θ.mpr ⟨y,hy,rfl⟩)
  .have key:∀(c:Q) (u d:D Q),n∈AJ (u.foldl (λd x=>Am d x.1 (x.2.mul c)) d)->n∈AJ u\/n∈AJ d:=by
    intro c u
    induction u with
    |nil=>intro d h;exact .inr h
    |cons x u ih=>
     intro d h;rcases ih _ h with q|q
     .exact .inl (θ _ q)
     .rcases D7.mp q with z|z
      .exact .inl (by show n∈x.1::AJ u;rw[z];exact υ ..)
      .exact .inr z
   rcases key _ _ _ hn with q|q
   .exact AXg n q
   .exact AJQ e n q
 obtain⟨x,hx,rfl⟩:=Θ.mp hn;have Wl:x.1∈AJ (Sj (AL l e) (AZ l e)):=Θ.mpr ⟨x,(d_.mp hx).1,rfl⟩;rcases(h3 x.1).mp Wl with q|q
 .obtain⟨y,hy,ey⟩:=Θ.mp q;rw[<-ey];exact wm _ (a3 y hy).1
 .exact wm _ (h.sub _ q)
structure dc(l:qa)(day:Nat)(ds:List (Nat×Nat)):Prop where
 ord:ds.Pairwise λa b=>bU a b=true
 nd:ds.Nodup
 mem:∀d i,(d,i)∈ds↔i<l.persons.length/\(person l i).died=some d/\d<=day
def XF(l:qa)(e:Nat)(ds:List (Nat×Nat)):D Q:=ds.foldl (λd x=>Jv l d x.2) [(e+1,one)]
theorem T4{l:qa}{d:D Q}:∀{ds:List (Nat×Nat)},(∀x∈ds,x.2+1∉AJ d)->ds.foldl (λd x=>Jv l d x.2) d=d
 |[],_=>rfl
 |x::ds,h=>by
  rw[q_];have:Jv l d x.2=d:=by unfold Jv;rw[BO.mpr (h x (υ ..))]
  rw[this];exact T4 λy hy=>h y (θ _ hy)
def mW(l:qa)(t:Nat)(d:D Q):Prop:=∀n∈AJ d,n=0\/later l t (n-1)
theorem AMP{l:qa}(g:Good l){d:D Q}{s:qP}{i t t':Nat}(hi:i<l.persons.length)(h:Rl l d s)(hd:(person l i).died=some t')(ht:t<=t')(a:mW l t d):mW l t (Jv l d i):=λn hn=>by
 unfold Jv at hn;cases q:BP d (i+1) with
 |none=>rw[q] at hn;exact a n hn
 |some b=>
  rw[q] at hn;dsimp only at hn;obtain⟨p1,p2,p3⟩:=WQ h.p (i+1);split at hn
  .rcases D7.mp hn with z|z
   .exact .inl z
   .exact a n ((p2 n).mp z).1
  .obtain⟨t1,t2,t3⟩:=GZ g hi;obtain⟨f1,f2,f3⟩:=Qw (h.p.ok _ (GO q)) (h.p.pos _ (GO q)) (As l i) (Ef d (i+1)) t1 p1;rcases(f2 n).mp hn with z|z
   .refine .inr λd Et=>?_;have:=AJv (AGI g hi n z) hd d Et;omega
   .exact a n ((p2 n).mp z).1
theorem SQ{l:qa}(g:Good l){t:Nat}:∀{ds:List (Nat×Nat)}{d:D Q}{s:qP},(∀x∈ds,x.2<l.persons.length/\(person l x.2).died=some x.1/\t<=x.1)->Rl l d s->mW l t d ->
  Rl l (ds.foldl (λd x=>Jv l d x.2) d) (((ds.filter λx=>decide (t<x.1)).map λx=>x.2).foldl (passOn l) s)
 |[],d,s,_,h,_=>h
 |x::ds,d,s,hd,h,a=>by
  obtain⟨x1,x2,x3⟩:=hd x (υ ..);have Et:∀y∈ds,y.2<l.persons.length/\(person l y.2).died=some y.1/\t<=y.1:=λy hy=>hd y (θ _ hy);rw[q_,qB];by_cases q:t<x.1
  .rw[η (zqt q),k_,q_];exact SQ g Et (AMO g x1 h) (AMP g x1 h x2 (by omega) a)
  .rw[ζ (λz=>q (zod z))];have:Jv l d x.2=d:=by
    unfold Jv;rw[BO.mpr λz=>?_];rcases a _ z with y|y
    .omega
    .rw[qH] at y;exact q (y _ x2)
   rw[this];exact SQ g Et h a
theorem one_pos:Pos [((e:Nat)+1,one)]:=⟨λx hx=>by rw[i_.mp hx];exact Bh,by simp[AJ],λx hx=>by rw[i_.mp hx];exact s_⟩
theorem ZZ{l:qa}{e:Nat}(he:e<l.persons.length):Rl l [(e+1,one)] [(e,one)]:=by
 refine⟨one_pos,λn hn=>?_,⟨by simp,λx hx=>by rw[i_.mp hx];exact Bh,λx hx=>by rw[i_.mp hx];exact s_⟩,λx hx=>by rw[i_.mp hx];exact tN he,λi hi=>?_,?_⟩
 .have:n=e+1:=i_.mp hn;omega
 .unfold dv;rw[Dp,Ck,L5];by_cases z:e=i
  .rw[η (by show e+1=i+1;omega),η z];grind
  .rw[ζ (by show¬ e+1=i+1;omega),ζ z];show rv zero=_;rw[Aw];grind
 .unfold dv;rw[Dp,Ck,L5,ζ (by show¬ e+1=0;omega),ζ (by show¬ e=_;omega)];show rv zero=_;rw[Aw];grind
theorem AR8{l:qa}(g:Good l){e day:Nat}{ds:List (Nat×Nat)}(he:e<l.persons.length)(h:dc l day ds):Rl l (XF l e ds) (endsOn l e day):=by
 unfold endsOn XF;have AOY:(∀t,(person l e).died=some t->day<t)->ds.foldl (λd x=>Jv l d x.2) [(e+1,one)]=[(e+1,one)]:=λhn=>T4 λx hx q=>by
  have:x.2+1=e+1:=i_.mp q;have ex:x.2=e:=by omega
  have m:=(h.mem x.1 x.2).mp hx;rw[ex] at m;have:=hn _ m.2.1;omega
 cases q:(person l e).died with
 |none=>rw[AOY λt ht=>by rw[q] at ht;cases ht];exact ZZ he
 |some t=>
  dsimp only;by_cases hday:day<t
  .rw[η hday,AOY λt' ht=>by rw[q] at ht;injection ht with ht;omega];exact ZZ he
  .rw[ζ hday];have bE:(t,e)∈ds:=(h.mem t e).mpr ⟨he,q,by omega⟩;obtain⟨A,B,rfl⟩:=List.append_of_mem bE;have nd:=vV.mp h.nd;have ZA:=qv.mp nd.2.1;have od:=List.pairwise_append.mp h.ord;have Y9:=uO.mp od.2.1;have uniq:∀x∈A++(t,e)::B,x.2=e->x=(t,e):=λx hx ex=>by have m:=(h.mem x.1 x.2).mp hx;rw[ex,q] at m;exact vQ (j_ m.2.1).symm ex
   rw[rj,q_,T4 (ds:=A) λx hx z=>by have z:x.2+1=e+1:=i_.mp z;have:=uniq x (qT _ hx) (by omega);rw[this] at hx;exact nd.2.2 _ hx _ (υ ..) rfl]
   have first:Rl l (Jv l [(e+1,one)] e) (if qC l e=[] then[(l.persons.length,one)] else qC l e):=by
    obtain⟨s1,s2,s3,s4⟩:=AJf g he;obtain⟨n1,n2,n3⟩:=Lr g e;obtain⟨t1,t2,t3⟩:=GZ g he;have e1:BP [(e+1,one)] (e+1)=some one:=η rfl;have e2:Ef [(e+1,one)] (e+1)=[]:=by unfold Ef;simp
    unfold Jv;rw[e1];dsimp only;rw[e2];have p0:Pos ([]:D Q):=⟨λx hx=>(by cases hx),(by simp[AJ]),λx hx=>(by cases hx)⟩
    by_cases hs:qC l e=[]
    .rw[η hs,η (s3.mpr hs)];have o:Lc ([]:D Q):=λx hx=>by cases hx
     have z0:∀k,dv ([]:D Q) k=0:=λk=>Aw;refine⟨VA p0 0 Bh s_,λn hn=>?_,⟨by simp,λx hx=>by rw[i_.mp hx];exact Bh,λx hx=>by rw[i_.mp hx];exact s_⟩,λx hx=>by rw[i_.mp hx];exact b_ _,λi hi=>?_,?_⟩
     .rcases D7.mp hn with z|z
      .omega
      .cases z
     .rw[OA o _ Bh,z0,Ck,L5,ζ (by omega),ζ (by show¬ l.persons.length=i;omega)]
     .rw[OA o _ Bh,z0,Ck,L5,η rfl,η rfl];grind
    .rw[ζ hs,ζ (λz=>hs (s3.mp z))];obtain⟨f1,f2,f3⟩:=Qw Bh s_ (As l e) [] t1 p0;have z0:∀k,dv ([]:D Q) k=0:=λk=>Aw;refine⟨f1,λn hn=>?_,n1,λx hx=>tN (n2 x hx),λi hi=>?_,?_⟩
     .rcases(f2 n).mp hn with z|z
      .exact(t2 n z).2
      .cases z
     .rw[f3,z0,s1 i hi,Ge];grind
     .rw[f3,z0,s2,s4,Ge];grind
   have aft:mW l t (Jv l [(e+1,one)] e):=by
    have e1:BP [(e+1,one)] (e+1)=some one:=η rfl;have e2:Ef [(e+1,one)] (e+1)=[]:=by unfold Ef;simp
    intro n hn;unfold Jv at hn;rw[e1] at hn;dsimp only at hn;rw[e2] at hn;have p0:Pos ([]:D Q):=⟨λx hx=>(by cases hx),(by simp[AJ]),λx hx=>(by cases hx)⟩
    split at hn
    .rcases D7.mp hn with z|z
     .exact .inl z
     .cases z
    .obtain⟨t1,t2,t3⟩:=GZ g he;obtain⟨f1,f2,f3⟩:=Qw Bh s_ (As l e) [] t1 p0;rcases(f2 n).mp hn with z|z
     .exact .inr (AJv (AGI g he n z) q)
     .cases z
   have res:=SQ g (t:=t) (ds:=B) (λx hx=>by have m:=(h.mem x.1 x.2).mp (p9 _ (θ _ hx));have o:=Y9.1 x hx;rw[Lo] at o;exact⟨m.1,m.2.1,by show t<=x.1;dsimp only at o;omega⟩) first aft
   have ed:deathsAfter l t day=(B.filter λx=>decide (t<x.1)).map λx=>x.2:=by
    refine AI3 (Y9.2.filter _) (ZA.2.filter _) λd i=>?_;rw[d_];constructor
    .rintro⟨h1,h2⟩;have m:=(h.mem d i).mp (p9 _ (θ _ h1));exact⟨m.1,m.2.1,zod h2,m.2.2⟩
    .rintro⟨h1,h2,h3,h4⟩;have m:=(h.mem d i).mpr ⟨h1,h2,h4⟩;refine⟨?_,zqt h3⟩;rcases pT.mp m with z|z
     .have o:=od.2.2 _ z _ (υ ..);rw[Lo] at o;dsimp only at o;omega
     .rcases pM.mp z with y|y
      .injection y with y1 y2;omega
      .exact y
   rw[ed];exact res
def kd(m:Nat)(s:qP):D Q:=s.map λx=>(if x.1<m then x.1+1 else 0,x.2)
theorem Rl.perm{l:qa}{d:D Q}{s:qP}(h:Rl l d s):d.Perm (kd l.persons.length s):=by
 have hk:∀x∈s,∀y∈s,(if x.1<l.persons.length then x.1+1 else 0)=(if y.1<l.persons.length then y.1+1 else 0)->x.1=y.1:=λx hx y hy q=>by have a:=h.sk x hx;have b:=h.sk y hy;split at q<;>split at q<;>omega
 have inj:∀(u:qP),(∀x∈u,x∈s)->(u.map λx=>x.1).Nodup->(AJ (kd l.persons.length u)).Nodup:=by
  intro u
  induction u with
  |nil=>intro _ _;simp[kd,AJ]
  |cons x u ih=>intro hu nd;have P5:=qv.mp nd;refine qv.mpr ⟨λz=>?_,ih (λy hy=>hu y (θ _ hy)) P5.2⟩;obtain⟨y',eG,ey⟩:=Θ.mp z;obtain⟨y,hy,rfl⟩:=Θ.mp eG;have:=hk y (hu y (θ _ hy)) x (hu x (υ ..)) ey;exact P5.1 (by show x.1∈_;rw[<-this];exact Θ.mpr ⟨y,hy,rfl⟩)
 have nd:=inj s (λx hx=>hx) (JM h.n.lt);have ok:Lc (kd l.persons.length s):=λx hx=>by obtain⟨y,hy,rfl⟩:=Θ.mp hx;exact h.n.ok y hy
 have p:Pos (kd l.persons.length s):=⟨ok,nd,λx hx=>by obtain⟨y,hy,rfl⟩:=Θ.mp hx;exact h.n.pos y hy⟩
 have vals:∀(u:qP),(∀x∈u,x∈s)->(u.map λx=>x.1).Nodup->(∀i,i<l.persons.length->dv (kd l.persons.length u) (i+1)=wt u i)/\dv (kd l.persons.length u) 0=wt u l.persons.length:=by
  intro u
  induction u with
  |nil=>intro _ _;exact⟨λi _=>Aw,Aw⟩
  |cons x u ih=>
   intro hu nd;have P5:=qv.mp nd;obtain⟨i1,i2⟩:=ih (λy hy=>hu y (θ _ hy)) P5.2;have hx:=h.sk x (hu x (υ ..));have w0:∀t,x.1=t->wt u t=0:=λt et=>Ou λy hy z=>P5.1 (by show x.1∈_;rw[et,<-z];exact Θ.mpr ⟨y,hy,rfl⟩);unfold dv at i1 i2 ⊢;show(∀i,i<l.persons.length->rv (Ak ((if x.1<l.persons.length then x.1+1 else 0,x.2)::kd l.persons.length u) (i+1))=_)/\rv (Ak ((if x.1<l.persons.length then x.1+1 else 0,x.2)::kd l.persons.length u) 0)=_;refine⟨λi hi=>?_,?_⟩
   .rw[Dp,Ck];by_cases z:x.1=i
    .rw[η (by show(if x.1<l.persons.length then x.1+1 else 0)=i+1;rw[η (by omega)];omega),η z,w0 i z];grind
    .rw[ζ (by show¬ (if x.1<l.persons.length then x.1+1 else 0)=i+1;split<;>omega),ζ z,i1 i hi];grind
   .rw[Dp,Ck];by_cases z:x.1=l.persons.length
    .rw[η (by show(if x.1<l.persons.length then x.1+1 else 0)=0;rw[ζ (by omega)]),η z,w0 _ z];grind
    .rw[ζ (by show¬ (if x.1<l.persons.length then x.1+1 else 0)=0;rw[η (by omega)];omega),ζ z,i2];grind
 obtain⟨v1,v2⟩:=vals s (λx hx=>hx) (JM h.n.lt);refine Xp h.p p λk=>?_;cases k with
 |zero=>rw[h.lO,v2]
 |succ i=>
  by_cases hi:i<l.persons.length
  .rw[h.val i hi,v1 i hi]
  .have z1:dv d (i+1)=0:=by unfold dv Ak;rw[BO.mpr λz=>by have:=h.k _ z;omega];exact Aw
   have z2:dv (kd l.persons.length s) (i+1)=0:=by
    unfold dv Ak;rw[BO.mpr λz=>?_]
    .exact Aw
    .obtain⟨x,hx,ex⟩:=Θ.mp z;obtain⟨y,hy,rfl⟩:=Θ.mp hx;dsimp only at ex;split at ex<;>omega
   rw[z1,z2]
inductive Path(l:qa)(i:Nat):Nat->Nat->Prop
 |here:Path l i i 0
 |up {c a p:Nat}:Path l i c a->p∈(person l c).parents->Path l i p (a+1)
theorem Path.first{l:qa}{i q p a:Nat}(hq:q∈(person l i).parents)(h:Path l q p a):Path l i p (a+1):=by
 induction h with
 |here=>exact .up .here hq
 |up _ hp ih=>exact .up ih hp
theorem Path.ASL{l:qa}{i p a:Nat}(h:Path l i p a):(p=i/\a=0)\/∃q a',q∈(person l i).parents/\a=a'+1/\Path l q p a':=by
 induction h with
 |here=>exact .inl ⟨rfl,rfl⟩
 |up hc hp ih=>
  rcases ih with⟨rfl,rfl⟩|⟨q,a',hq,rfl,hr⟩
  .exact .inr ⟨_,0,hp,rfl,.here⟩
  .exact .inr ⟨q,_,hq,rfl,.up hr hp⟩
theorem LN{l:qa}(g:Good l):∀(i k p b:Nat),(p,b)∈aboves l vY k i↔∃a,b=k+a/\Path l i p a:=by
 intro i
 induction i using Nat.strongRecOn with
 |ind i ih=>
  intro k p b;rw[AQJ g,pM,sC];constructor
  .rintro(h|⟨q,hq,h⟩)
   .injection h with h1 h2;subst h1 h2;exact⟨0,rfl,.here⟩
   .obtain⟨a,rfl,hp⟩:=(ih q (g.par i q hq) (k+1) p b).mp h;exact⟨a+1,by omega,hp.first hq⟩
  .rintro⟨a,rfl,h⟩;rcases h.ASL with⟨rfl,rfl⟩|⟨q,a',hq,rfl,hr⟩
   .exact .inl rfl
   .exact .inr ⟨q,hq,(ih q (g.par i q hq) (k+1) p _).mpr ⟨a',by omega,hr⟩⟩
theorem AI1{l:qa}(g:Good l)(e:Nat):∀i,descends l e vY i=true↔∃a,Path l i e (a+1):=by
 intro i
 induction i using Nat.strongRecOn with
 |ind i ih=>
  rw[AMV g,uc];constructor
  .rintro⟨q,hq,h⟩;rw[t9] at h;rcases h with h|h
   .have:q=e:=by simpa using h
    subst this;exact⟨0,.up .here hq⟩
   .obtain⟨a,ha⟩:=(ih q (g.par i q hq)).mp h;exact⟨a+1,ha.first hq⟩
  .rintro⟨a,h⟩;rcases h.ASL with⟨_,z⟩|⟨q,a',hq,e1,hr⟩
   .omega
   .refine⟨q,hq,?_⟩;rw[t9];rcases sS a' with z|z
    .subst z;left;have:e=q:=by
      cases hr with
      |here=>rfl
     simp[this]
    .right;refine(ih q (g.par i q hq)).mpr ⟨a'-1,?_⟩;rw[show a'-1+1=a' by omega];exact hr
def KJ(k:Nat)(d:D Nat)(p:Nat):D Nat:=dput d (p+1) (min (k+1) ((BP d (p+1)).getD (k+1)))
def KH(l:qa)(d:D Nat)(i:Nat):D Nat:=match BP d (i+1) with
 |none=>d
 |some k=>(person l i).parents.foldl (KJ k) d
def FU(l:qa)(i:Nat):D Nat:=(pW l.persons.length).reverse.foldl (KH l) [(i+1,0)]
theorem RD(k:Nat):∀(ps:List Nat) (d:D Nat) (n:Nat),BP (ps.foldl (KJ k) d) (n+1)=if n∈ps then some (min (k+1) ((BP d (n+1)).getD (k+1))) else BP d (n+1)
 |[],d,n=>rfl
 |p::ps,d,n=>by
  rw[q_,RD k ps];unfold KJ;rw[Ql];by_cases e:p+1=n+1
  .have:n=p:=by omega
   subst this;rw[η rfl,η (υ ..)];split
   .show some (min (k+1) (min (k+1) _))=_;congr 1;omega
   .rfl
  .rw[ζ e];have:¬ n=p:=by omega
   by_cases z:n∈ps
   .rw[η z,η (θ _ z)]
   .rw[ζ z,ζ (λq=>by rcases pM.mp q with y|y;exact this y;exact z y)]
def ASX(l:qa)(i j p a:Nat):Prop:=(p=i/\a=0)\/∃c a',j<=c/\a=a'+1/\Path l i c a'/\p∈(person l c).parents
structure Gn(l:qa)(i j:Nat)(d:D Nat):Prop where
 sound:∀p k,BP d (p+1)=some k->Path l i p k
 XH:∀p a,ASX l i j p a->∃k,k<=a/\BP d (p+1)=some k
 zero:BP d 0=none
 nd:(AJ d).Nodup
theorem AOQ{l:qa}(g:Good l){i c a:Nat}(h:Path l i c a):ASX l i (c+1) c a:=by
 cases h with
 |here=>exact .inl ⟨rfl,rfl⟩
 |up hc hp=>exact .inr ⟨_,_,g.par _ _ hp,rfl,hc,hp⟩
theorem AHL(k:Nat):∀(ps:List Nat) (d:D Nat),BP d 0=none->(AJ d).Nodup->BP (ps.foldl (KJ k) d) 0=none/\(AJ (ps.foldl (KJ k) d)).Nodup
 |[],d,h,n=>⟨h,n⟩
 |p::ps,d,h,n=>by rw[q_];refine AHL k ps _ ?_ (LF n _ _);unfold KJ;rw[Ql,ζ (by omega)];exact h
theorem AQu{l:qa}(g:Good l){i c:Nat}{d:D Nat}(h:Gn l i (c+1) d):Gn l i c (KH l d c):=by
 unfold KH;cases q:BP d (c+1) with
 |none=>
  refine⟨h.sound,λp a hp=>?_,h.zero,h.nd⟩;refine h.XH p a ?_;rcases hp with z|⟨c',a',h1,h2,h3,h4⟩
  .exact .inl z
  .refine .inr ⟨c',a',?_,h2,h3,h4⟩;rcases vh c c' with y|y
   .exact y
   .have:c'=c:=by omega
    subst this;obtain⟨k,_,hk⟩:=h.XH _ _ (AOQ g h3);rw[q] at hk;cases hk
 |some k=>
  dsimp only;have hk:=h.sound c k q;obtain⟨z1,z2⟩:=AHL k (person l c).parents d h.zero h.nd;refine⟨λp a hp=>?_,λp a hp=>?_,z1,z2⟩
  .rw[RD] at hp;split at hp
   .rename_i hm;injection hp with hp;rcases xT (k+1) ((BP d (p+1)).getD (k+1)) with y|y
    .rw[wI y] at hp;rw[<-hp];exact .up hk hm
    .rw[Nat.min_eq_right y] at hp;cases r:BP d (p+1) with
     |none=>rw[r] at hp;have:k+1=a:=hp;rw[<-this];exact .up hk hm
     |some b=>rw[r] at hp;have:b=a:=hp;rw[<-this];exact h.sound p b r
   .exact h.sound p a hp
  .rw[RD];rcases hp with z|⟨c',a',h1,h2,h3,h4⟩
   .obtain⟨b,ie,bR⟩:=h.XH p a (.inl z);split
    .exact⟨_,by rw[bR];show min (k+1) b<=a;omega,rfl⟩
    .exact⟨b,ie,bR⟩
   .rcases vh c c' with y|y
    .obtain⟨b,ie,bR⟩:=h.XH p a (.inr ⟨c',a',y,h2,h3,h4⟩);split
     .exact⟨_,by rw[bR];show min (k+1) b<=a;omega,rfl⟩
     .exact⟨b,ie,bR⟩
    .have:c'=c:=by omega
     subst this;obtain⟨b,ie,bR⟩:=h.XH _ _ (AOQ g h3);rw[q] at bR;have:k=b:=j_ bR;rw[η h4];exact⟨_,by omega,rfl⟩
theorem ALT{l:qa}(g:Good l){i:Nat}:∀(k:Nat) {d:D Nat},Gn l i k d->Gn l i 0 ((pW k).reverse.foldl (KH l) d)
 |0,d,h=>h
 |k+1,d,h=>by rw[List.range_succ,List.reverse_append,List.reverse_singleton,List.singleton_append,q_];exact ALT g k (AQu g h)
structure Gens(l:qa)(i:Nat)(d:D Nat):Prop where
 sound:∀p k,BP d (p+1)=some k->Path l i p k
 least:∀p a,Path l i p a->∃k,k<=a/\BP d (p+1)=some k
 zero:BP d 0=none
 nd:(AJ d).Nodup
theorem M9{l:qa}(g:Good l){i:Nat}(hi:i<l.persons.length):Gens l i (FU l i):=by
 have h0:Gn l i l.persons.length [(i+1,0)]:=by
  refine⟨λp k h=>?_,λp a h=>?_,ζ (by omega),by simp[AJ]⟩
  .have h':(if i+1=p+1 then some 0 else none)=some k:=h;split at h'
   .rename_i e;have:i=p:=by omega
    subst this;injection h' with h';subst h';exact .here
   .cases h'
  .rcases h with⟨rfl,rfl⟩|⟨c,a',h1,_,_,h4⟩
   .exact⟨0,b_ _,η rfl⟩
   .have:=Xu h4;omega
 have h:=ALT g l.persons.length h0;refine⟨h.sound,λp a hp=>h.XH p a ?_,h.zero,h.nd⟩;cases hp with
 |here=>exact .inl ⟨rfl,rfl⟩
 |up hc hp=>exact .inr ⟨_,_,qG _,rfl,hc,hp⟩
theorem ANb{l:qa}(g:Good l){e i:Nat}(hi:i<l.persons.length):(BP (FU l i) (e+1)).isSome=(i==e||descends l e vY i):=by
 have h:=M9 g hi;rw[qV,t9,AI1 g];constructor
 .intro q;obtain⟨k,hk⟩:=uB.mp q;have p:=h.sound e k hk;cases p with
  |here=>left;simp
  |up hc hp=>right;exact⟨_,.up hc hp⟩
 .rintro(q|⟨a,q⟩)
  .have:i=e:=by simpa using q
   subst this;obtain⟨k,_,hk⟩:=h.least i 0 .here;rw[hk];rfl
  .obtain⟨k,_,hk⟩:=h.least _ _ q;rw[hk];rfl
theorem APd{l:qa}(g:Good l){i j p a b:Nat}(hi:i<l.persons.length)(hj:j<l.persons.length)(h1:BP (FU l i) (p+1)=some a)(h2:BP (FU l j) (p+1)=some b)
  (hm:∀p' a' b',BP (FU l i) (p'+1)=some a'->BP (FU l j) (p'+1)=some b'->aY (p,a,b) (p',a',b')=true):related l i j=some (p,a,b):=by
 have gi:=M9 g hi;have gj:=M9 g hj;refine AKT (R9.mpr ⟨(LN g i 0 p a).mpr ⟨a,by omega,gi.sound p a h1⟩,(LN g j 0 p b).mpr ⟨b,by omega,gj.sound p b h2⟩⟩) λy hy=>?_;obtain⟨p',a',b'⟩:=y;obtain⟨y1,y2⟩:=R9.mp hy;obtain⟨a1,ea,pa⟩:=(LN g i 0 p' a').mp y1;obtain⟨b1,eb,pb⟩:=(LN g j 0 p' b').mp y2;obtain⟨k1,q1,r1⟩:=gi.least _ _ pa;obtain⟨k2,q2,r2⟩:=gj.least _ _ pb;have:=hm p' k1 k2 r1 r2;rw[uu] at ea eb;subst ea eb;exact Lf.mpr (L2.Lx.le (Lf.mp this) (w9 q1 q2) λh=>L2.Lx.le h q1 id)
theorem APe{l:qa}(g:Good l){i j:Nat}(hi:i<l.persons.length)(hj:j<l.persons.length)(h:∀p a b,BP (FU l i) (p+1)=some a->BP (FU l j) (p+1)=some b->False):related l i j=none:=by have gi:=M9 g hi;have gj:=M9 g hj;refine AKU (List.eq_nil_iff_forall_not_mem.mpr λy hy=>?_);obtain⟨p',a',b'⟩:=y;obtain⟨y1,y2⟩:=R9.mp hy;obtain⟨a1,ea,pa⟩:=(LN g i 0 p' a').mp y1;obtain⟨b1,eb,pb⟩:=(LN g j 0 p' b').mp y2;obtain⟨k1,q1,r1⟩:=gi.least _ _ pa;obtain⟨k2,q2,r2⟩:=gj.least _ _ pb;exact h p' k1 k2 r1 r2
def K3(D B:Nat)(d:Hx.D Q):Prop:=∀x∈d,Sz D B x.2
theorem K3.mono{D B E C:Nat}{d:Hx.D Q}(h:K3 D B d)(dv:D∣E)(p:0<E)(b:B<=C):K3 E C d:=λx hx=>(h x hx).mono dv p b
theorem K3.val{D B:Nat}{d:Hx.D Q}(p:0<D)(h:K3 D B d)(k:Nat):Sz D B (Ak d k):=by
 unfold Ak;cases e:BP d k with
 |none=>exact(Sz.zero p).mono (qi _) p (qG _)
 |some v=>exact h _ (GO e)
theorem K3.put{D B:Nat}{d:Hx.D Q}(h:K3 D B d)(k:Nat){v:Q}(hv:Sz D B v):K3 D B (dput d k v):=λx hx=>by
 rcases VJ hx with e|e
 .rw[e];exact hv
 .exact h x e
theorem K3.Am{D B C:Nat}{d:Hx.D Q}(p:0<D)(h:K3 D B d)(k:Nat){a:Q}(ha:Sz D C a):K3 D (B+C) (Am d k a):=(h.mono (qi _) p (Nat.le_add_right _ _)).put k ((h.val p k).add ha)
theorem K3.fold{D C:Nat}(p:0<D){b:Q}(hb:Sz D C b):∀(ks:List Nat) {B:Nat}{d:Hx.D Q},K3 D B d->K3 D (B+ks.length*C) (ks.foldl (λd k=>Hx.Am d k b) d)
 |[],B,d,h=>h.mono (qi _) p (by omega)
 |k::ks,B,d,h=>by have:=K3.fold p hb ks (h.Am p k hb);refine this.mono (qi _) p ?_;rw[o_,tU];omega
theorem K3.addEq{D E B C:Nat}{d:Hx.D Q}(p:0<D)(h:K3 D B d){a:Q}{ks:List Nat}(ha:Sz E C a)(hd:ks≠[]->E*ks.length∣D):K3 D (B+ks.length*C) (addEq d ks a):=by
 by_cases z:ks=[]
 .subst z;exact h.mono (qi _) p (by omega)
 .have hp:0<ks.length:=rA.mpr z;exact K3.fold p ((ha.Zs hp).mono (hd z) p (b_ _)) ks h
theorem V1{l:qa}(g:Good l)(e k i:Nat):(KO l e k i).length<=2:=a_ (pU _ _) (g.two i).1
theorem i7{E n:Nat}(h:n<=2)(h0:0<n):E*n∣E*2:=by
 have:n=1\/n=2:=by omega
 rcases this with q|q
 .subst q;exact⟨2,by omega⟩
 .subst q;exact qi _
theorem Zd{l:qa}(g:Good l){e k E C:Nat}(p:0<E):∀(d:Hx.D Q) {B:Nat}{h:Hx.D Q},K3 E C d->K3 (E*2) B h->K3 (E*2) (B+d.length*(2*C)) (d.foldl (λh x=>Hx.addEq h (ups (KO l e k (x.1-1))) x.2) h)
 |[],B,h,_,hh=>hh.mono (qi _) (by omega) (by omega)
 |x::d,B,h,hd,hh=>by have hx:=hd x (υ ..);have hl:=V1 g e k (x.1-1);have h1:K3 (E*2) (B+(ups (KO l e k (x.1-1))).length*C) (Hx.addEq h (ups (KO l e k (x.1-1))) x.2):=hh.addEq (by omega) hx λz=>i7 (by rw[Mc];exact hl) (rA.mpr z);have:=Zd (e:=e) (k:=k) g p d (λy hy=>hd y (θ _ hy)) h1;refine this.mono (qi _) (by omega) ?_;rw[Mc,o_,tU];have:=pR C hl;omega
theorem AMA{m:Nat}{α:Type}{d:Hx.D α}(nd:(AJ d).Nodup)(hk:∀n∈AJ d,n<=m):d.length<=m+1:=by
 have h:(AJ d).length<=m+1:=by
  have:(AJ d).Perm ((pW (m+1)).filter λn=>(AJ d).contains n):=by refine(r8 nd (List.nodup_range.filter _)).mpr λa=>?_;rw[d_,sQ,rG];exact⟨λh=>⟨by have:=hk a h;omega,h⟩,λh=>h.2⟩
  rw[this.length_eq];exact a_ (pU _ _) (by rw[qx];exact b_ _)
 unfold AJ at h;rw[χ] at h;exact h
theorem ARS(m:Nat):(tu 1 m).Nodup:=by
 have:tu 1 m=(pW m).map (· + 1):=by rw[vc,show(tu 0 m).map (· + 1)=(tu 0 m).map (1 + ·) from sI λa _=>xU a 1,List.map_add_range']
 rw[this];exact RE yV
theorem Dn{m:Nat}{α:Type}{d:Hx.D α}(nd:(AJ d).Nodup)(hk:∀n∈AJ d,1<=n/\n<=m):d.length<=m:=by
 have h:(AJ d).length<=m:=by
  have:(AJ d).Perm ((tu 1 m).filter λn=>(AJ d).contains n):=by refine(r8 nd ((ARS m).filter _)).mpr λa=>?_;rw[d_,List.mem_range'_1,rG];exact⟨λh=>⟨by have:=hk a h;omega,h⟩,λh=>h.2⟩
  rw[this.length_eq];exact a_ (pU _ _) (by rw[List.length_range'];exact b_ _)
 unfold AJ at h;rw[χ] at h;exact h
theorem AKK{l:qa}(g:Good l){e:Nat}:∀(k:Nat) {E C:Nat}{d:Hx.D Q},0<E->K3 E C d->(AJ d).Nodup->(∀n∈AJ d,1<=n/\n<=l.persons.length)->K3 (E*2^k) (32^k*C) (Ku l e k d)
 |0,E,C,d,p,h,_,_=>h.mono ⟨1,by simp⟩ (by simpa using p) (by omega)
 |k+1,E,C,d,p,h,nd,hk=>by
  have hl:=Dn nd hk;have hf:=g.GV;have h1:K3 (E*2) (0+d.length*(2*C)) (lvl l e k d):=Zd g p d h (λx hx=>by cases hx);have h2:K3 (E*2) (32*C) (lvl l e k d):=h1.mono (qi _) (by omega) (by have:=pR (2*C) (show d.length<=16 by omega);omega)
  have q:=Sy g (e:=e) (k:=k) d [] (by simp[AJ]) (λn hn=>by cases hn);have h3:=AKK (e:=e) g k (by omega) h2 q.1 q.2;have e1:E*2*2^k=E*2^(k+1):=by rw[rN];ac_rfl
  have e2:32^k*(32*C)=32^(k+1)*C:=by rw[rN];ac_rfl
  rw[e1,e2] at h3;exact h3
theorem WG{l:qa}(g:Good l)(e i:Nat):(kids l e i).length<=16:=by
 unfold kids;split
 .exact a_ (pU _ _) (Mh g i)
 .exact qG _
theorem ARw{l:qa}(g:Good l){e E C i:Nat}{p:Hx.D Q×Hx.D Q}(hE:0<E)(h:K3 E C p.1)(h2:K3 E C p.2):K3 (E*Oq) (17*C) (JN l e p i).1/\K3 (E*Oq) (17*C) (JN l e p i).2:=by
 have pE:0<E*Oq:=p7 hE TZ;have up:∀{d:Hx.D Q},K3 E C d->K3 (E*Oq) (17*C) d:=λh=>h.mono (rM _ _) pE (by omega);unfold JN;split
 .exact⟨up h,up h2⟩
 .rename_i a ha;have hs:=h _ (GO ha);split
  .exact⟨up h,up (h2.put _ hs)⟩
  .refine⟨?_,up h2⟩;have h3:K3 (E*Oq) C p.1:=h.mono (rM _ _) pE (b_ _);have h4:=h3.addEq pE (ks:=ups (kids l e i)) hs λz=>uv E (YM _ (rA.mpr z) (by rw[Mc];exact WG g e i));refine h4.mono (qi _) pE ?_;have:=pR C (show(ups (kids l e i)).length<=16 by rw[Mc];exact WG g e i);omega
theorem AMK{l:qa}(g:Good l){e:Nat}:∀(k i:Nat) {E C:Nat}{p:Hx.D Q×Hx.D Q},0<E->K3 E C p.1->K3 E C p.2->K3 (E*Oq^k) (17^k*C) ((tu i k).foldl (JN l e) p).1/\K3 (E*Oq^k) (17^k*C) ((tu i k).foldl (JN l e) p).2
 |0,i,E,C,p,hE,h,h2=>⟨h.mono ⟨1,by simp⟩ (by simpa using hE) (by omega),h2.mono ⟨1,by simp⟩ (by simpa using hE) (by omega)⟩
 |k+1,i,E,C,p,hE,h,h2=>by
  rw[xN,q_];obtain⟨s1,s2⟩:=ARw g (e:=e) (i:=i) hE h h2;have:=AMK (e:=e) g k (i+1) (p7 hE TZ) s1 s2;have e1:E*Oq*Oq^k=E*Oq^(k+1):=by rw[rN];ac_rfl
  have e2:17^k*(17*C)=17^(k+1)*C:=by rw[rN];ac_rfl
  rw[e1,e2] at this;exact this
def N0:Nat:=131072
def Sm(x:Q):Prop:=x.n<2^N0/\x.d<2^N0
theorem Sz.sm{x:Q}{D B d b:Nat}(h:Sz D B x)(hd:D<2^d)(hb:B<2^b)(hn:d+b<=N0):Sm x:=by
 refine⟨?_,?_⟩
 .refine pN h.fG ?_;refine AQ (A5 hb hd) (by omega)
 .exact pN h.dP (AQ hd (by omega))
end Hx
namespace Hx
open PySem PySem.Spec PyProof.Rows L2
def top(i:Nat):qX:=PySem.Challenge.pw_heirshares_s01_answers.main.body.getD i (.Pass ⟨0,0,0,0⟩)
theorem AYQ{CX:Y6}{P:pQ}{w:qt}{K : ξ}{mg:qf->Option Δ}{AG:qM}{N:List qf}{qual:qf}{scope:ua}{f : Ξ}{cd : Δ}{A:qN}{AR:List yx}{s : Ω}{H:Hp}{E:XK}:(YO CX P w K mg AG N qual scope f cd A AR s H E).K=K:=rfl
theorem AU8:((1:Nat)<1000)=True:=by simp
theorem AUf:((2:Nat)<1000)=True:=by simp
theorem AQV:((3:Nat)<1000)=True:=by simp
theorem AUq:((0:Nat)<=pY)=True:=eq_true (by decide)
theorem AUp:((1:Nat)<=pY)=True:=eq_true (by decide)
theorem AUo:((2:Nat)<=pY)=True:=eq_true (by decide)
abbrev Ny:qX:=inClass (top 12) 0
abbrev J9:qX:=inClass (top 12) 1
abbrev Hy:qX:=inClass (top 12) 2
abbrev Iv:qX:=inClass (top 12) 3
abbrev N1:qX:=inClass (top 13) 0
abbrev My:qX:=inClass (top 13) 1
abbrev Ja:qX:=inClass (top 13) 2
abbrev KC:qX:=inClass (top 13) 3
abbrev IA:qX:=inClass (top 13) 4
abbrev Hz:qX:=inClass (top 13) 5
abbrev LB:qX:=inClass (top 13) 6
abbrev KD:qX:=inClass (top 13) 7
abbrev GC:qX:=inClass (top 13) 8
abbrev Iz:qX:=inClass (top 13) 9
abbrev K9:qX:=inClass (top 13) 10
abbrev Mx:qX:=inClass (top 13) 11
abbrev Nz:qX:=inClass (top 13) 12
abbrev KA:qX:=inClass (top 13) 13
abbrev K5:qX:=top 15
abbrev JX:qX:=top 16
abbrev Ru:qX:=top 17
abbrev Nn:qX:=top 22
abbrev J7:qX:=top 23
abbrev ZR:qX:=top 24
abbrev Xd:qX:=top 25
abbrev Xb:qX:=top 26
abbrev T6:qX:=top 27
abbrev T5:qX:=top 28
abbrev Xa:qX:=top 29
abbrev Vk:qX:=top 30
abbrev Hw:qX:=top 31
abbrev J6:qX:=top 32
abbrev Rv:qX:=inClass (top 38) 0
abbrev Mv:qX:=top 39
abbrev Np:qX:=top 40
abbrev O3:qX:=inClass (top 42) 0
abbrev JY:qX:=inClass (top 42) 1
abbrev Iw:qX:=inClass (top 42) 2
abbrev HR:qX:=inClass (top 42) 3
abbrev Ew:qX:=inClass (top 42) 4
abbrev Fl:qX:=inClass (top 42) 5
abbrev JZ:qX:=inClass (top 42) 6
abbrev HS:qX:=inClass (top 42) 7
abbrev Nm:qX:=top 44
abbrev L8:qX:=top 45
abbrev MA:qX:=top 46
abbrev Mu:qX:=top 47
abbrev Vi:qX:=top 48
abbrev ZS:qX:=top 49
abbrev Vj:qX:=top 50
abbrev ZT:qX:=top 51
abbrev QM:qX:=inClass (top 54) 0
abbrev GB:qX:=inClass (top 54) 1
abbrev K8:qX:=inClass (top 54) 2
abbrev O2:qX:=inClass (top 55) 0
abbrev MF:qX:=inClass (top 55) 1
abbrev K7:qX:=inClass (top 55) 2
abbrev QL:qX:=inClass (top 57) 0
abbrev O4:qX:=inClass (top 57) 1
abbrev ME:qX:=top 58
abbrev Xc:qX:=top 59
abbrev O1:qX:=top 60
abbrev MC:qX:=top 61
abbrev Nv:qX:=top 62
abbrev Mw:qX:=top 63
abbrev Nq:qX:=top 64
abbrev J8:qX:=top 65
abbrev Nt:qX:=top 66
abbrev ZQ:qX:=top 67
abbrev Gd:qX:=top 68
abbrev MD:qX:=top 69
abbrev MB:qX:=top 70
abbrev Nr:qX:=top 71
abbrev Nu:qX:=top 72
abbrev K6:qX:=top 73
abbrev Q8:qX:=top 75
set_option genInjectivity false
set_option genSizeOf false
structure Ad where
 (Au Aa JP Ay CS EH CJ Fx C5 B0 CG Fz Ed Cb C7 B4 B3 DV C8 BS CI DU Ec Fy C6 DR CY Jj Fv C4 SJ Pc Pa LS LR PZ ND By C3 Jk Eb Fw Gs CZ CH Bj BB BL Ca Bk Ft CU Dz Ea NC Pd Km SK IU BR DT Gr D3 DS IT Gu CB Pb Df B9 Cw CQ Cs BV Cu SI Bx CA B8 Ct Cv Be Ih Ip P0 BW Br BG BF BE BD BC Rg BZ HV HU UQ Zl WI : Ξ)
 (HL Dt Ce DC HN GU DZ Dv Ci Cg Cf Dy Bq DF ER GS HM Du EL B5 LV HC Dr UW RX RV Mp Mn RT Og Cd Dq LW GQ HD Ik DX DE CL Ba Bf DY CM HB E7 E8 GP Oe UX Of UY Jx Bp EO Ij FG EN Jw Il FF RW Ii FD HK GR HF Ds HH Qm DW FE E9 HG HJ EM HE:tE)
set_option genInjectivity true
set_option genSizeOf true
structure Txt(K : ξ)(mg:qf->Option Δ)(t:Ad):Prop where
 DG:Tj K t.Au
 AJt:mg "Person" = some (.ref t.Au)
 UJ:Mk K t.Au t.Fx
 ABg:Cp K t.Au "parents"
 Gh:Cp K t.Au "day_of_death"
 AB2:Cp K t.Au "spouse"
 AX:Tj K t.Aa
 AJu:mg "Family" = some (.ref t.Aa)
 UK:Mk K t.Aa t.Fz
 KS:Cp K t.Aa "persons"
 AAw:Cp K t.Aa "renounced"
 WU:Tj K t.JP
 Zb:mg "Law" = some (.ref t.JP)
 X3:Mk K t.JP t.Jk
 ACZ:Cp K t.JP "steps_in"
 LI:Cp K t.JP "kept_part"
 JD:Cp K t.JP "spouse_parts"
 D9:Tj K t.Ay
 ALz:mg "Lines" = some (.ref t.Ay)
 V9:Mk K t.Ay t.Gs
 ACY:Cp K t.Ay "family"
 AEt:Cp K t.Ay "law"
 N5:Cp K t.Ay "dead"
 D6:Cp K t.Ay "live_above"
 Ng:Tj K t.CS
 AOc:mg "Gift" = some (.ref t.CS)
 X5:Mk K t.CS t.IU
 AD3:Cp K t.CS "giver"
 AEu:Cp K t.CS "whom"
 ACa:Cp K t.CS "instead"
 G0:Cp K t.CS "portion"
 NG:Tj K t.EH
 ALy:mg "Wills" = some (.ref t.EH)
 V8:Mk K t.EH t.Gr
 M5:Cp K t.EH "gifts"
 Im:Tj K t.CJ
 AOb:mg "Land" = some (.ref t.CJ)
 X4:Mk K t.CJ t.IT
 Lv:Cp K t.CJ "law"
 IB:Cp K t.CJ "family"
 Li:Cp K t.CJ "wills"
 Ke:BX K "__init__" "Person.__init__" Ny t.Fx t.HL
 ADU:Binds K t.HL ["self","parents"] []
 Gk:BX K "has_died" "Person.has_died" J9 t.C5 t.Dt
 B6:Binds K t.Dt ["self"] []
 Bb:Meth K t.Au "has_died" t.C5
 En:BX K "has_died_by" "Person.has_died_by" Hy t.B0 t.Ce
 Hf:Binds K t.Ce ["self","day"] []
 Em:Meth K t.Au "has_died_by" t.B0
 FY:BX K "is_married" "Person.is_married" Iv t.CG t.DC
 Fd:Binds K t.DC ["self"] []
 Di:Meth K t.Au "is_married" t.CG
 Kg:BX K "__init__" "Family.__init__" N1 t.Fz t.HN
 ADW:Binds K t.HN ["self"] []
 JT:BX K "knows" "Family.knows" My t.Ed t.GU
 BI:Binds K t.GU ["self","number"] []
 A7:Meth K t.Aa "knows" t.Ed
 F7:BX K "knows_two" "Family.knows_two" Ja t.Cb t.DZ
 JJ:Binds K t.DZ ["self","one","other"] []
 F3:Meth K t.Aa "knows_two" t.Cb
 Gp:BX K "numbered" "Family.numbered" KC t.C7 t.Dv
 Ai:Binds K t.Dv ["self","number"] []
 Ah:Meth K t.Aa "numbered" t.C7
 Ep:BX K "all_numbers" "Family.all_numbers" IA t.B4 t.Ci
 Bl:Binds K t.Ci ["self"] []
 BQ:Meth K t.Aa "all_numbers" t.B4
 Eo:BX K "children_of" "Family.children_of" Hz t.B3 t.Cg
 AAa:Binds K t.Cg ["self","number"] []
 HX:Meth K t.Aa "children_of" t.B3
 Hs:BX K "dead_by" "Family.dead_by" LB t.DV t.Cf
 ABp:Binds K t.Cf ["self","day"] []
 KZ:Meth K t.Aa "dead_by" t.DV
 Gq:BX K "may_take" "Family.may_take" KD t.C8 t.Dy
 Eh:Binds K t.Dy ["self","number","dead"] []
 DN:Meth K t.Aa "may_take" t.C8
 De:BX K "may_be_parents" "Family.may_be_parents" GC t.BS t.Bq
 AAM:Binds K t.Bq ["self","one","other"] []
 Fq:Meth K t.Aa "may_be_parents" t.BS
 Fb:BX K "add_person" "Family.add_person" Iz t.CI t.DF
 AAi:Binds K t.DF ["self","one","other"] []
 ID:Meth K t.Aa "add_person" t.CI
 Hr:BX K "let_die" "Family.let_die" K9 t.DU t.ER
 ABo:Binds K t.ER ["self","number","day"] []
 KY:Meth K t.Aa "let_die" t.DU
 JS:BX K "marry" "Family.marry" Mx t.Ec t.GS
 ACi:Binds K t.GS ["self","one","other"] []
 MM:Meth K t.Aa "marry" t.Ec
 Kf:BX K "part" "Family.part" Nz t.Fy t.HM
 ADV:Binds K t.HM ["self","number"] []
 M7:Meth K t.Aa "part" t.Fy
 Gm:BX K "renounce" "Family.renounce" KA t.C6 t.Du
 ABM:Binds K t.Du ["self","number","whose"] []
 Je:Meth K t.Aa "renounce" t.C6
 Cz:BX K "generations_up" "generations_up" K5 t.DR t.EL
 Ht:Binds K t.EL ["family","number"] []
 Hl:mg "generations_up" = some (.ref t.DR)
 D8:BX K "nearest_ancestor" "nearest_ancestor" JX t.CY t.B5
 AA3:Binds K t.B5 ["family","one","other"] []
 AAx:mg "nearest_ancestor" = some (.ref t.CY)
 Lz:BX K "is_close" "is_close" Ru t.Jj t.LV
 AGQ:Binds K t.LV ["family","number","dead"] []
 AGM:mg "is_close" = some (.ref t.Jj)
 EY:BX K "may_be_told" "may_be_told" Nn t.Fv t.HC
 Kr:Binds K t.HC ["fraction"] []
 Ka:mg "may_be_told" = some (.ref t.Fv)
 Bw:BX K "in_lowest_terms" "in_lowest_terms" J7 t.C4 t.Dr
 Eg:Binds K t.Dr ["above","below"] []
 EX:mg "in_lowest_terms" = some (.ref t.C4)
 PY:BX K "plus" "plus" ZR t.SJ t.UW
 VR:Binds K t.UW ["one","other"] []
 VH:mg "plus" = some (.ref t.SJ)
 Kd:BX K "minus" "minus" Xd t.Pc t.RX
 Oj:Binds K t.RX ["one","other"] []
 OW:mg "minus" = some (.ref t.Pc)
 Ly:BX K "times" "times" Xb t.Pa t.RV
 Qu:Binds K t.RV ["one","other"] []
 QY:mg "times" = some (.ref t.Pa)
 Ji:BX K "divided" "divided" T6 t.LS t.Mp
 Pf:Binds K t.Mp ["one","other"] []
 PL:mg "divided" = some (.ref t.LS)
 IK:BX K "is_more" "is_more" T5 t.LR t.Mn
 NJ:Binds K t.Mn ["one","other"] []
 M8:mg "is_more" = some (.ref t.LR)
 Lw:BX K "total" "total" Xa t.PZ t.RT
 Qt:Binds K t.RT ["fractions"] []
 QX:mg "total" = some (.ref t.PZ)
 G9:BX K "add_to" "add_to" Vk t.ND t.Og
 LY:Binds K t.Og ["amounts","number","amount"] []
 LM:mg "add_to" = some (.ref t.ND)
 CK:BX K "add_in_equal_parts" "add_in_equal_parts" Hw t.By t.Cd
 HZ:Binds K t.Cd ["amounts","numbers","amount"] []
 HY:mg "add_in_equal_parts" = some (.ref t.By)
 DO:BX K "without_nothing" "without_nothing" J6 t.C3 t.Dq
 Jm:Binds K t.Dq ["amounts"] []
 Jf:mg "without_nothing" = some (.ref t.C3)
 Nc:BX K "__init__" "Law.__init__" Rv t.Jk t.LW
 Qv:Binds K t.LW ["self","steps_in","kept_part","spouse_parts"] []
 G2:BX K "law_at_first" "law_at_first" Mv t.Eb t.GQ
 ACg:Binds K t.GQ [] []
 ACc:mg "law_at_first" = some (.ref t.Eb)
 IJ:BX K "law_may_say" "law_may_say" Np t.Fw t.HD
 ADO:Binds K t.HD ["kept_part","spouse_parts"] []
 AC6:mg "law_may_say" = some (.ref t.Fw)
 Lm:BX K "__init__" "Lines.__init__" O3 t.Gs t.Ik
 AEA:Binds K t.Ik ["self","family","law","dead"] []
 F5:BX K "live_lines" "Lines.live_lines" JY t.CZ t.DX
 AA4:Binds K t.DX ["self"] []
 JG:Meth K t.Ay "live_lines" t.CZ
 FZ:BX K "stepping_in" "Lines.stepping_in" Iw t.CH t.DE
 IX:Binds K t.DE ["self","number","live"] []
 FT:Meth K t.Ay "stepping_in" t.CH
 EF:BX K "parents_among" "Lines.parents_among" HR t.Bj t.CL
 Gx:Binds K t.CL ["self","number","live"] []
 EE:Meth K t.Ay "parents_among" t.Bj
 C1:BX K "one_generation_on" "Lines.one_generation_on" Ew t.BB t.Ba
 AAA:Binds K t.Ba ["self","live"] []
 EW:Meth K t.Ay "one_generation_on" t.BB
 DJ:BX K "class_that_takes" "Lines.class_that_takes" Fl t.BL t.Bf
 AAI:Binds K t.Bf ["self"] []
 Ex:Meth K t.Ay "class_that_takes" t.BL
 F6:BX K "give_above" "Lines.give_above" JZ t.Ca t.DY
 AA5:Binds K t.DY ["self","generations","amount"] []
 JH:Meth K t.Ay "give_above" t.Ca
 EG:BX K "give_to_lines" "Lines.give_to_lines" HS t.Bk t.CM
 AAV:Binds K t.CM ["self","amounts"] []
 Gi:Meth K t.Ay "give_to_lines" t.Bk
 II:BX K "spouse_part" "spouse_part" Nm t.Ft t.HB
 ADN:Binds K t.HB ["land","dead","generations"] []
 AC5:mg "spouse_part" = some (.ref t.Ft)
 DP:BX K "shared_by_law" "shared_by_law" L8 t.CU t.E7
 Io:Binds K t.E7 ["land","dead"] []
 Ie:mg "shared_by_law" = some (.ref t.CU)
 GI:BX K "given_by_will" "given_by_will" MA t.Dz t.E8
 ACG:Binds K t.E8 ["land","dead"] []
 AB3:mg "given_by_will" = some (.ref t.Dz)
 G1:BX K "made_greater" "made_greater" Mu t.Ea t.GP
 ACf:Binds K t.GP ["amounts"] []
 ACb:mg "made_greater" = some (.ref t.Ea)
 Od:BX K "wished" "wished" Vi t.NC t.Oe
 AKG:Binds K t.Oe ["land","dead"] []
 AJs:mg "wished" = some (.ref t.NC)
 RQ:BX K "kept" "kept" ZS t.Pd t.UX
 YS:Binds K t.UX ["land","dead"] []
 X7:mg "kept" = some (.ref t.Pd)
 Mm:BX K "shares" "shares" Vj t.Km t.Of
 Ue:Binds K t.Of ["land","dead"] []
 UL:mg "shares" = some (.ref t.Km)
 TN:BX K "ends" "ends" ZT t.SK t.UY
 AO2:Binds K t.UY ["land","number","day"] []
 AOa:mg "ends" = some (.ref t.SK)
 Mf:BX K "__init__" "Gift.__init__" QM t.IU t.Jx
 AFP:Binds K t.Jx ["self","giver","whom","instead","portion"] []
 Dd:BX K "names_persons_of" "Gift.names_persons_of" GB t.BR t.Bp
 AAL:Binds K t.Bp ["self","family"] []
 Fp:Meth K t.CS "names_persons_of" t.BR
 Hq:BX K "who_takes" "Gift.who_takes" K8 t.DT t.EO
 ABn:Binds K t.EO ["self","family"] []
 KW:Meth K t.CS "who_takes" t.DT
 Ll:BX K "__init__" "Wills.__init__" O2 t.Gr t.Ij
 AD9:Binds K t.Ij ["self"] []
 Ig:BX K "will_of" "Wills.will_of" MF t.D3 t.FG
 LZ:Binds K t.FG ["self","giver"] []
 Ic:Meth K t.EH "will_of" t.D3
 Ho:BX K "add_gift" "Wills.add_gift" K7 t.DS t.EN
 ABm:Binds K t.EN ["self","family","gift"] []
 KU:Meth K t.EH "add_gift" t.DS
 Me:BX K "__init__" "Land.__init__" QL t.IT t.Jw
 AFO:Binds K t.Jw ["self"] []
 Ln:BX K "begin" "Land.begin" O4 t.Gu t.Il
 OC:Binds K t.Il ["self"] []
 Lj:Meth K t.CJ "begin" t.Gu
 GN:BX K "answer_begins" "answer_begins" ME t.CB t.FF
 ACK:Binds K t.FF ["land","numbers"] []
 AFm:mg "answer_begins" = some (.ref t.CB)
 Qi:BX K "pairs" "pairs" Xc t.Pb t.RW
 AMb:Binds K t.RW ["numbers"] []
 ALx:mg "pairs" = some (.ref t.Pb)
 JO:BX K "answer_law" "answer_law" O1 t.Df t.Ii
 AD8:Binds K t.Ii ["land","numbers"] []
 AIc:mg "answer_law" = some (.ref t.Df)
 GK:BX K "answer_person" "answer_person" MC t.B9 t.FD
 ACI:Binds K t.FD ["land","numbers"] []
 AFk:mg "answer_person" = some (.ref t.B9)
 IS:BX K "answer_dies" "answer_dies" Nv t.Cw t.HK
 ADT:Binds K t.HK ["land","numbers"] []
 AHg:mg "answer_dies" = some (.ref t.Cw)
 G3:BX K "answer_marry" "answer_marry" Mw t.CQ t.GR
 ACh:Binds K t.GR ["land","numbers"] []
 AGZ:mg "answer_marry" = some (.ref t.CQ)
 IL:BX K "answer_part" "answer_part" Nq t.Cs t.HF
 ADP:Binds K t.HF ["land","numbers"] []
 AHc:mg "answer_part" = some (.ref t.Cs)
 EZ:BX K "answer_renounce" "answer_renounce" J8 t.BV t.Ds
 ABL:Binds K t.Ds ["land","numbers"] []
 AEM:mg "answer_renounce" = some (.ref t.BV)
 IP:BX K "answer_gift" "answer_gift" Nt t.Cu t.HH
 ADR:Binds K t.HH ["land","numbers"] []
 AHe:mg "answer_gift" = some (.ref t.Cu)
 RO:BX K "told" "told" ZQ t.SI t.Qm
 YR:Binds K t.Qm ["amounts"] []
 X6:mg "told" = some (.ref t.SI)
 CF:BX K "answer_of_estate" "answer_of_estate" Gd t.Bx t.DW
 F9:Binds K t.DW ["land","dead","amounts_of"] []
 F4:mg "answer_of_estate" = some (.ref t.Bx)
 GL:BX K "answer_by_law" "answer_by_law" MD t.CA t.FE
 ACJ:Binds K t.FE ["land","numbers"] []
 AFl:mg "answer_by_law" = some (.ref t.CA)
 GJ:BX K "answer_shares" "answer_shares" MB t.B8 t.E9
 ACH:Binds K t.E9 ["land","numbers"] []
 AFj:mg "answer_shares" = some (.ref t.B8)
 IM:BX K "answer_kept" "answer_kept" Nr t.Ct t.HG
 ADQ:Binds K t.HG ["land","numbers"] []
 AHd:mg "answer_kept" = some (.ref t.Ct)
 IQ:BX K "answer_ends" "answer_ends" Nu t.Cv t.HJ
 ADS:Binds K t.HJ ["land","numbers"] []
 AHf:mg "answer_ends" = some (.ref t.Cv)
 FW:BX K "answer_related" "answer_related" K6 t.Be t.EM
 ABl:Binds K t.EM ["land","numbers"] []
 AEv:mg "answer_related" = some (.ref t.Be)
 NB:BX K "answers" "answers" Q8 t.Ih t.HE
 ANk:Binds K t.HE ["calls"] []
 AHb:mg "answers" = some (.ref t.Ih)
 Qs:∃k,mg "DONE" = some (.int (0) k)
 Kp:∃k,mg "BAD_NUMBER" = some (.int (-1) k)
 Bg:∃k,mg "NO_SUCH_PERSON" = some (.int (-2) k)
 AA2:∃k,mg "RENOUNCED_ALREADY" = some (.int (-3) k)
 CN:∃k,mg "NOT_AS_THINGS_STAND" = some (.int (-4) k)
 Uc:∃k,mg "NO_ROOM" = some (.int (-5) k)
 ACe:∃k,mg "MORE_THAN_ALL" = some (.int (-6) k)
 AD7:∃k,mg "NO_ANCESTOR" = some (.int (-6) k)
 Fc:∃k,mg "NOBODY" = some (.int (0) k)
 ADK:∃k,mg "MOST_PERSONS" = some (.int (16) k)
 SM:∃k,mg "LAST_DAY" = some (.int (99999) k)
 Jy:mg "NOTHING" = some (.ref t.Ip)
 AJ1:∀H,J1 K H t.Ip [.int (0),.int (1)]
 XI:mg "ALL" = some (.ref t.P0)
 AUP:∀H,J1 K H t.P0 [.int (1),.int (1)]
 ACE:∃k,mg "GREATEST_BELOW" = some (.int (100) k)
 RZ:∃k,mg "CLASSES" = some (.int (5) k)
 AA1:∃k,mg "STEPS_IN_AT_FIRST" = some (.int (1) k)
 AAh:mg "KEPT_PART_AT_FIRST" = some (.ref t.BW)
 AAe:∀H,J1 K H t.BW [.int (1),.int (2)]
 AAR:mg "SPOUSE_PARTS_AT_FIRST" = some (.ref t.Br)
 AAG:∀H,J1 K H t.BG [.int (1),.int (4)]
 AAF:∀H,J1 K H t.BF [.int (1),.int (2)]
 AAE:∀H,J1 K H t.BE [.int (3),.int (4)]
 AAD:∀H,J1 K H t.BD [.int (1),.int (1)]
 AAC:∀H,J1 K H t.BC [.int (1),.int (1)]
 AAO:∀H,J1 K H t.Br [.ref t.BG,.ref t.BF,.ref t.BE,.ref t.BD,.ref t.BC]
 AFK:∃k,mg "MOST_GIFTS" = some (.int (10) k)
 AO0:mg "CALLS" = some (.ref t.Rg)
 AOl:∀P w,jC P w K t.Rg (WJ [(0,.ref t.CB),(1,.ref t.Df),(2,.ref t.B9),(3,.ref t.Cw),(4,.ref t.CQ),(5,.ref t.Cs),(6,.ref t.BV),(7,.ref t.Cu),(8,.ref t.CA),(9,.ref t.B8),(10,.ref t.Ct),(11,.ref t.Cv),(12,.ref t.Be)])
 AH5:t.Cf.code=.ref t.UQ
 AOz:t.B5.code=.ref t.Zl
 AOy:t.Qm.code=.ref t.WI
 AHz:tF K t.UQ t.BZ=true
 AOs:tF K t.Zl t.HV=true
 AOr:tF K t.WI t.HU=true
 Yl:t.BZ≠t.HV/\t.BZ≠t.HU/\t.HV≠t.HU
 dR:mg "all" = none
 Zv:mg "dict" = none
 Ks:mg "len" = none
 SO:mg "list" = none
 dQ:mg "min" = none
 VT:mg "range" = none
 Pg:mg "reversed" = none
 WX:mg "sorted" = none
def A4(v0 v1 v2:V):List (qf×V):=[("parents",v0),("day_of_death",v1),("spouse",v2)]
theorem AF9(v0 v1 v2:V):(A4 v0 v1 v2).lookup ("parents" : qf)=some v0:=by rfl
theorem AAc(v0 v1 v2:V):(A4 v0 v1 v2).lookup ("day_of_death" : qf)=some v1:=by rfl
theorem ABb(v0 v1 v2 w:V):CT "day_of_death" w (A4 v0 v1 v2)=A4 v0 w v2:=by rfl
theorem AGx(v0 v1 v2:V):(A4 v0 v1 v2).lookup ("spouse" : qf)=some v2:=by rfl
theorem ADw(v0 v1 v2 w:V):CT "spouse" w (A4 v0 v1 v2)=A4 v0 v1 w:=by rfl
theorem ANo(v0:V):(CT "parents" v0 []).length=1:=by rfl
theorem ANn(v0 v1:V):(CT "day_of_death" v1 (CT "parents" v0 [])).length=2:=by rfl
theorem ASY(v0 v1 v2:V):(CT "spouse" v2 (CT "day_of_death" v1 (CT "parents" v0 [])))=A4 v0 v1 v2:=by rfl
theorem AFW(v0 v1 v2 u0 u1 u2:V):(A4 v0 v1 v2=A4 u0 u1 u2)=(v0=u0/\v1=u1/\v2=u2):=by simp[A4]
theorem Po(v0 v1 v2:V):(A4 v0 v1 v2).length=3:=by rfl
theorem ADd(v0 v1 v2:V):(A4 v0 v1 v2).lookup ("has_died" : qf)=none:=by rfl
theorem AAU(v0 v1 v2:V):(A4 v0 v1 v2).lookup ("has_died_by" : qf)=none:=by rfl
theorem ACW(v0 v1 v2:V):(A4 v0 v1 v2).lookup ("is_married" : qf)=none:=by rfl
def BA(v0 v1:V):List (qf×V):=[("persons",v0),("renounced",v1)]
theorem ACS(v0 v1:V):(BA v0 v1).lookup ("persons" : qf)=some v0:=by rfl
theorem AEh(v0 v1:V):(BA v0 v1).lookup ("renounced" : qf)=some v1:=by rfl
theorem ANp(v0:V):(CT "persons" v0 []).length=1:=by rfl
theorem ASc(v0 v1:V):(CT "renounced" v1 (CT "persons" v0 []))=BA v0 v1:=by rfl
theorem AKv(v0 v1 u0 u1:V):(BA v0 v1=BA u0 u1)=(v0=u0/\v1=u1):=by simp[BA]
theorem AFc(v0 v1:V):(BA v0 v1).length=2:=by rfl
theorem AFb(v0 v1:V):(BA v0 v1).lookup ("knows" : qf)=none:=by rfl
theorem ACx(v0 v1:V):(BA v0 v1).lookup ("knows_two" : qf)=none:=by rfl
theorem AAk(v0 v1:V):(BA v0 v1).lookup ("numbered" : qf)=none:=by rfl
theorem ACU(v0 v1:V):(BA v0 v1).lookup ("all_numbers" : qf)=none:=by rfl
theorem ACT(v0 v1:V):(BA v0 v1).lookup ("children_of" : qf)=none:=by rfl
theorem ADz(v0 v1:V):(BA v0 v1).lookup ("dead_by" : qf)=none:=by rfl
theorem ADg(v0 v1:V):(BA v0 v1).lookup ("may_take" : qf)=none:=by rfl
theorem ABR(v0 v1:V):(BA v0 v1).lookup ("may_be_parents" : qf)=none:=by rfl
theorem ACX(v0 v1:V):(BA v0 v1).lookup ("add_person" : qf)=none:=by rfl
theorem ADy(v0 v1:V):(BA v0 v1).lookup ("let_die" : qf)=none:=by rfl
theorem AFa(v0 v1:V):(BA v0 v1).lookup ("marry" : qf)=none:=by rfl
theorem AGB(v0 v1:V):(BA v0 v1).lookup ("part" : qf)=none:=by rfl
theorem ADf(v0 v1:V):(BA v0 v1).lookup ("renounce" : qf)=none:=by rfl
def Qz(v0 v1 v2:V):List (qf×V):=[("steps_in",v0),("kept_part",v1),("spouse_parts",v2)]
theorem AIK(v0 v1 v2:V):(Qz v0 v1 v2).lookup ("steps_in" : qf)=some v0:=by rfl
theorem AGy(v0 v1 v2:V):(Qz v0 v1 v2).lookup ("kept_part" : qf)=some v1:=by rfl
theorem AEg(v0 v1 v2:V):(Qz v0 v1 v2).lookup ("spouse_parts" : qf)=some v2:=by rfl
theorem AT3(v0:V):(CT "steps_in" v0 []).length=1:=by rfl
theorem AT2(v0 v1:V):(CT "kept_part" v1 (CT "steps_in" v0 [])).length=2:=by rfl
theorem AXE(v0 v1 v2:V):(CT "spouse_parts" v2 (CT "kept_part" v1 (CT "steps_in" v0 [])))=Qz v0 v1 v2:=by rfl
theorem AQM(v0 v1 v2:V):(Qz v0 v1 v2).length=3:=by rfl
def Fg(v0 v1 v2 v3:V):List (qf×V):=[("family",v0),("law",v1),("dead",v2),("live_above",v3)]
theorem AIJ(v0 v1 v2 v3:V):(Fg v0 v1 v2 v3).lookup ("family" : qf)=some v0:=by rfl
theorem AFX(v0 v1 v2 v3:V):(Fg v0 v1 v2 v3).lookup ("dead" : qf)=some v2:=by rfl
theorem Jq(v0 v1 v2 v3:V):(Fg v0 v1 v2 v3).lookup ("live_above" : qf)=some v3:=by rfl
theorem AQL(v0:V):(CT "family" v0 []).length=1:=by rfl
theorem AQK(v0 v1:V):(CT "law" v1 (CT "family" v0 [])).length=2:=by rfl
theorem AAW(v0 v1 v2 v3:V):(Fg v0 v1 v2 v3).lookup ("stepping_in" : qf)=none:=by rfl
theorem ABy(v0 v1 v2 v3:V):(Fg v0 v1 v2 v3).lookup ("parents_among" : qf)=none:=by rfl
theorem AAv(v0 v1 v2 v3:V):(Fg v0 v1 v2 v3).lookup ("one_generation_on" : qf)=none:=by rfl
theorem AA7(v0 v1 v2 v3:V):(Fg v0 v1 v2 v3).lookup ("class_that_takes" : qf)=none:=by rfl
theorem ACw(v0 v1 v2 v3:V):(Fg v0 v1 v2 v3).lookup ("give_above" : qf)=none:=by rfl
theorem ABz(v0 v1 v2 v3:V):(Fg v0 v1 v2 v3).lookup ("give_to_lines" : qf)=none:=by rfl
def Hh(v0 v1 v2 v3:V):List (qf×V):=[("giver",v0),("whom",v1),("instead",v2),("portion",v3)]
theorem AKu(v0 v1 v2 v3:V):(Hh v0 v1 v2 v3).lookup ("giver" : qf)=some v0:=by rfl
theorem AMi(v0 v1 v2 v3:V):(Hh v0 v1 v2 v3).lookup ("whom" : qf)=some v1:=by rfl
theorem AIM(v0 v1 v2 v3:V):(Hh v0 v1 v2 v3).lookup ("instead" : qf)=some v2:=by rfl
theorem K1(v0 v1 v2 v3:V):(Hh v0 v1 v2 v3).lookup ("portion" : qf)=some v3:=by rfl
theorem ASb(v0:V):(CT "giver" v0 []).length=1:=by rfl
theorem ASa(v0 v1:V):(CT "whom" v1 (CT "giver" v0 [])).length=2:=by rfl
theorem ASZ(v0 v1 v2:V):(CT "instead" v2 (CT "whom" v1 (CT "giver" v0 []))).length=3:=by rfl
theorem AVq(v0 v1 v2 v3:V):(CT "portion" v3 (CT "instead" v2 (CT "whom" v1 (CT "giver" v0 []))))=Hh v0 v1 v2 v3:=by rfl
theorem ABQ(v0 v1 v2 v3:V):(Hh v0 v1 v2 v3).lookup ("names_persons_of" : qf)=none:=by rfl
theorem ADx(v0 v1 v2 v3:V):(Hh v0 v1 v2 v3).lookup ("who_takes" : qf)=none:=by rfl
def Pn(v0:V):List (qf×V):=[("gifts",v0)]
theorem AEG(v0:V):(Pn v0).lookup ("gifts" : qf)=some v0:=by rfl
theorem AT1(v0:V):(CT "gifts" v0 [])=Pn v0:=by rfl
theorem AEf(v0:V):(Pn v0).lookup ("will_of" : qf)=none:=by rfl
theorem ADv(v0:V):(Pn v0).lookup ("add_gift" : qf)=none:=by rfl
def C9(v0 v1 v2:V):List (qf×V):=[("law",v0),("family",v1),("wills",v2)]
theorem SW(v0 v1 v2:V):(C9 v0 v1 v2).lookup ("law" : qf)=some v0:=by rfl
theorem ADe(v0 v1 v2 w:V):CT "law" w (C9 v0 v1 v2)=C9 w v1 v2:=by rfl
theorem ON(v0 v1 v2:V):(C9 v0 v1 v2).lookup ("family" : qf)=some v1:=by rfl
theorem AFZ(v0 v1 v2 w:V):CT "family" w (C9 v0 v1 v2)=C9 v0 w v2:=by rfl
theorem AFY(v0 v1 v2:V):(C9 v0 v1 v2).lookup ("wills" : qf)=some v2:=by rfl
theorem AGA(v0 v1 v2 w:V):CT "wills" w (C9 v0 v1 v2)=C9 v0 v1 w:=by rfl
theorem ANq(v0 v1 v2 u0 u1 u2:V):(C9 v0 v1 v2=C9 u0 u1 u2)=(v0=u0/\v1=u1/\v2=u2):=by simp[C9]
theorem AIL(v0 v1 v2:V):(C9 v0 v1 v2).length=3:=by rfl
theorem AGz(v0 v1 v2:V):(C9 v0 v1 v2).lookup ("begin" : qf)=none:=by rfl
theorem AHI:AU ["self","parents"] ["self","parents"] (AN Ny):=by walk_at "s"
theorem AEI:AU ["self"] ["self"] (AN J9):=by walk_at "s"
theorem ACl:AU ["self","day"] ["self","day"] (AN Hy):=by walk_at "s"
theorem AC3:AU ["self"] ["self"] (AN Iv):=by walk_at "s"
theorem AHJ:AU ["self"] ["self"] (AN N1):=by walk_at "s"
theorem AGX:AU ["self","number"] ["self","number"] (AN My):=by walk_at "s"
theorem ADi:AU ["self","one","other"] ["self","one","other"] (AN Ja):=by walk_at "s"
theorem AEK:AU ["self","number"] ["self","number"] (AN KC):=by walk_at "s"
theorem ACm:AU ["self"] ["self"] (AN IA):=by walk_at "s"
theorem HQ:AU ["self","number","child"] ["self","number"] (AN Hz):=by walk_at "s"
theorem J4:AU ["self","day","dead","number"] ["self","day"] (AN LB):=by walk_at "s"
theorem AEL:AU ["self","number","dead"] ["self","number","dead"] (AN KD):=by walk_at "s"
theorem Fj:AU ["self","one","other","number"] ["self","one","other"] (AN GC):=by walk_at "s"
theorem Hv:AU ["self","one","other","number"] ["self","one","other"] (AN Iz):=by walk_at "s"
theorem ABf:AU ["self","number","day","person"] ["self","number","day"] (AN K9):=by walk_at "s"
theorem L7:AU ["self","one","other","first","second"] ["self","one","other"] (AN Mx):=by walk_at "s"
theorem Mt:AU ["self","number","person","spouse"] ["self","number"] (AN Nz):=by walk_at "s"
theorem AEJ:AU ["self","number","whose"] ["self","number","whose"] (AN KA):=by walk_at "s"
theorem FL:AU ["family","number","generations","descendant","parent","through_this"] ["family","number"] (AN K5):=by walk_at "s"
theorem DA:AU ["family","one","other","from_one","from_other","common","nearest","number"] ["family","one","other"] (AN JX):=by walk_at "s"
theorem AGJ:AU ["family","number","dead","person"] ["family","number","dead"] (AN Ru):=by walk_at "s"
theorem Mr:AU ["fraction","above","below"] ["fraction"] (AN Nn):=by walk_at "s"
theorem Bu:AU ["above","below","divisor","rest","remainder"] ["above","below"] (AN J7):=by walk_at "s"
theorem ASu:AU ["one","other"] ["one","other"] (AN ZR):=by walk_at "s"
theorem AQp:AU ["one","other"] ["one","other"] (AN Xd):=by walk_at "s"
theorem AQo:AU ["one","other"] ["one","other"] (AN Xb):=by walk_at "s"
theorem ANB:AU ["one","other"] ["one","other"] (AN T6):=by walk_at "s"
theorem ANA:AU ["one","other"] ["one","other"] (AN T5):=by walk_at "s"
theorem Sk:AU ["fractions","together","fraction"] ["fractions"] (AN Xa):=by walk_at "s"
theorem APL:AU ["amounts","number","amount"] ["amounts","number","amount"] (AN Vk):=by walk_at "s"
theorem AAX:AU ["amounts","numbers","amount","number"] ["amounts","numbers","amount"] (AN Hw):=by walk_at "s"
theorem JW:AU ["amounts","some","number"] ["amounts"] (AN J6):=by walk_at "s"
theorem ALQ:AU ["self","steps_in","kept_part","spouse_parts"] ["self","steps_in","kept_part","spouse_parts"] (AN Rv):=by walk_at "s"
theorem AGV:AU [] [] (AN Mv):=by walk_at "s"
theorem Ms:AU ["kept_part","spouse_parts","fraction"] ["kept_part","spouse_parts"] (AN Np):=by walk_at "s"
theorem AIT:AU ["self","family","law","dead"] ["self","family","law","dead"] (AN O3):=by walk_at "s"
theorem Iu:AU ["self","live","number"] ["self"] (AN JY):=by walk_at "s"
theorem Hu:AU ["self","number","live","child"] ["self","number","live"] (AN Iw):=by walk_at "s"
theorem Gb:AU ["self","number","live","parent"] ["self","number","live"] (AN HR):=by walk_at "s"
theorem EU:AU ["self","live","farther","number"] ["self","live"] (AN Ew):=by walk_at "s"
theorem AAB:AU ["self","generations"] ["self"] (AN Fl):=by walk_at "s"
theorem DB:AU ["self","generations","amount","amounts","live","higher","number"] ["self","generations","amount"] (AN JZ):=by walk_at "s"
theorem ED:AU ["self","amounts","waiting","taken","number"] ["self","amounts"] (AN HS):=by walk_at "s"
theorem AHD:AU ["land","dead","generations"] ["land","dead","generations"] (AN Nm):=by walk_at "s"
theorem EK:AU ["land","dead","lines","generations","for_spouse","amounts"] ["land","dead"] (AN L8):=by walk_at "s"
theorem Ib:AU ["land","dead","amounts","gift","taker"] ["land","dead"] (AN MA):=by walk_at "s"
theorem JQ:AU ["amounts","given","greater","number"] ["amounts"] (AN Mu):=by walk_at "s"
theorem OS:AU ["land","dead","by_law","amounts","left","number"] ["land","dead"] (AN Vi):=by walk_at "s"
theorem U5:AU ["land","dead","by_law","amounts","number"] ["land","dead"] (AN ZS):=by walk_at "s"
theorem GA:AU ["land","dead","wishes","least","more","missing","number","enough","all_more","amounts"] ["land","dead"] (AN Vj):=by walk_at "s"
theorem Q7:AU ["land","number","day","amounts","dead","amount","takers","taker"] ["land","number","day"] (AN ZT):=by walk_at "s"
theorem AKS:AU ["self","giver","whom","instead","portion"] ["self","giver","whom","instead","portion"] (AN QM):=by walk_at "s"
theorem ABs:AU ["self","family"] ["self","family"] (AN GB):=by walk_at "s"
theorem ABe:AU ["self","family","number"] ["self","family"] (AN K8):=by walk_at "s"
theorem AIS:AU ["self"] ["self"] (AN O2):=by walk_at "s"
theorem K4:AU ["self","giver","gift"] ["self","giver"] (AN MF):=by walk_at "s"
theorem J3:AU ["self","family","gift","each"] ["self","family","gift"] (AN K7):=by walk_at "s"
theorem AKR:AU ["self"] ["self"] (AN QL):=by walk_at "s"
theorem AIU:AU ["self"] ["self"] (AN O4):=by walk_at "s"
theorem AFh:AU ["land","numbers"] ["land","numbers"] (AN ME):=by walk_at "s"
theorem Vh:AU ["numbers","at"] ["numbers"] (AN Xc):=by walk_at "s"
theorem Nl:AU ["land","numbers","kept_part","spouse_parts"] ["land","numbers"] (AN O1):=by walk_at "s"
theorem AFf:AU ["land","numbers"] ["land","numbers"] (AN MC):=by walk_at "s"
theorem AHH:AU ["land","numbers"] ["land","numbers"] (AN Nv):=by walk_at "s"
theorem AGW:AU ["land","numbers"] ["land","numbers"] (AN Mw):=by walk_at "s"
theorem AHE:AU ["land","numbers"] ["land","numbers"] (AN Nq):=by walk_at "s"
theorem AEH:AU ["land","numbers"] ["land","numbers"] (AN J8):=by walk_at "s"
theorem AC2:AU ["land","numbers","gift"] ["land","numbers"] (AN Nt):=by walk_at "s"
theorem XZ:AU ["amounts","answer","number"] ["amounts"] (AN ZQ):=by walk_at "s"
theorem ADh:AU ["land","dead","amounts_of"] ["land","dead","amounts_of"] (AN Gd):=by walk_at "s"
theorem AFg:AU ["land","numbers"] ["land","numbers"] (AN MD):=by walk_at "s"
theorem AFe:AU ["land","numbers"] ["land","numbers"] (AN MB):=by walk_at "s"
theorem AHF:AU ["land","numbers"] ["land","numbers"] (AN Nr):=by walk_at "s"
theorem AHG:AU ["land","numbers"] ["land","numbers"] (AN Nu):=by walk_at "s"
theorem ABd:AU ["land","numbers","nearest"] ["land","numbers"] (AN K6):=by walk_at "s"
theorem Ga:AU ["calls","land","answered","at","start","end","answer_call","answer"] ["calls"] (AN Q8):=by walk_at "s"
end Hx
namespace L2
open PySem PySem.Spec PyProof.Rows
section
variable {σ:St}{H:Hp}{Q:VK}{v:V}{x0 x1 x2 x3 x4 x5 x6 x7 x8 x9:Option V}{R:St->Hp->Prop}
theorem AUs{o:Option (Option V)}{k:V->Prop}:lF o k=∃v,o=some (some v)/\k v:=propext ⟨Tz,λ⟨_,e,h⟩=>Tw e h⟩
theorem tv0:Sf 0 (some v::σ) H Q=Q v H:=rfl
theorem tv1:Sf 1 (x0::some v::σ) H Q=Q v H:=rfl
theorem tv2:Sf 2 (x0::x1::some v::σ) H Q=Q v H:=rfl
theorem tv3:Sf 3 (x0::x1::x2::some v::σ) H Q=Q v H:=rfl
theorem tv4:Sf 4 (x0::x1::x2::x3::some v::σ) H Q=Q v H:=rfl
theorem tv5:Sf 5 (x0::x1::x2::x3::x4::some v::σ) H Q=Q v H:=rfl
theorem tv6:Sf 6 (x0::x1::x2::x3::x4::x5::some v::σ) H Q=Q v H:=rfl
def Wx:Option HO->Option (Ξ × Ξ × List (qf×V))
 |some (.ins C d fs)=>some (C,d,fs)
 |_=>none
theorem AP0{C d : Ξ}{fs:List (qf×V)}:Wx (some (.ins C d fs))=some (C,d,fs):=rfl
theorem Gj{o:Option HO}{u : Ξ × Ξ × List (qf×V)}(h:Wx o=some u):o=some (.ins u.1 u.2.1 u.2.2):=by
 cases o with
 |none=>cases h
 |some v=>cases v<;>cases h<;>rfl
theorem AWL{K : ξ}{f:qf}{b : Ξ}{u : Ξ × Ξ × List (qf×V)}{q:V->Prop}(h:Wx (H b)=some u)(h1:Tj K u.1)(h2:Cp K u.1 f)(h3:u.2.2.lookup f=some v):
  (∃a C dx fs w,V.ref b=V.ref a/\H a=some (.ins C dx fs)/\Tj K C/\Cp K C f/\fs.lookup f=some w/\q w)=q v:=
 propext ⟨by rintro⟨a,C,dx,fs,w,e1,e2,_,_,e5,z⟩;cases e1;rw[Gj h] at e2;cases e2;rw[h3] at e5;cases e5;exact z,λz=>⟨b,_,_,_,v,rfl,Gj h,h1,h2,h3,z⟩⟩
theorem AU0{C : Ξ}{m:qf}{b : Ξ}{u : Ξ × Ξ × List (qf×V)}{q:Prop}(h:Wx (H b)=some u)(h1:u.1=C)(h2:u.2.2.lookup m=none):
  (∃a dx fs,V.ref b=V.ref a/\H a=some (.ins C dx fs)/\fs.lookup m=none/\q)=q:=
 propext ⟨λ⟨a,dx,fs,e1,e2,_,z⟩=>z,λz=>⟨b,_,_,rfl,h1▸Gj h,h2,z⟩⟩
theorem AUy{K : ξ}{f:qf}{b : Ξ}{u : Ξ × Ξ × List (qf×V)}{q : Ξ -> Ξ -> Ξ -> List (qf×V)->Prop}(h:Wx (H b)=some u)(h1:Tj K u.1)(h2:Cp K u.1 f)(h3:u.2.2.length<1000):
  (∃a C dx fs,V.ref b=V.ref a/\H a=some (.ins C dx fs)/\Tj K C/\Cp K C f/\fs.length<1000/\q a C dx fs)=q b u.1 u.2.1 u.2.2:=
 propext ⟨by rintro⟨a,C,dx,fs,e1,e2,_,_,_,z⟩;cases e1;rw[Gj h] at e2;cases e2;exact z,λz=>⟨b,_,_,_,rfl,Gj h,h1,h2,h3,z⟩⟩
theorem AXW{b:Bool}{p:Bool->Prop}:(∃c,V.bl b=V.bl c/\p c)=p b:=propext ⟨by rintro⟨c,e,z⟩;cases e;exact z,λz=>⟨b,rfl,z⟩⟩
theorem AWJ{b:Int}{p:Int->Prop}:(∃c,V.int b=V.int c/\p c)=p b:=propext ⟨by rintro⟨c,e,z⟩;cases e;exact z,λz=>⟨b,rfl,z⟩⟩
theorem AU1{a b:Int}{p:Int->Int->Prop}:(∃c d,V.int a=V.int c/\V.int b=V.int d/\p c d)=p a b:=propext ⟨by rintro⟨c,d,e,e2,z⟩;cases e;cases e2;exact z,λz=>⟨a,b,rfl,rfl,z⟩⟩
theorem AUz{b : Ξ}{p : Ξ -> Prop}:(∃c,V.ref b=V.ref c/\p c)=p b:=propext ⟨by rintro⟨c,e,z⟩;cases e;exact z,λz=>⟨b,rfl,z⟩⟩
theorem AUi{t u:TS}{D:Ends}(h:t {D with nx:=u D} σ H):gh t u D σ H:=h
theorem AXS{C : Ξ}{m:qf}{sp:Sp}{E:XK}{ta:TE}{t:TA}:bh C m sp [] E ta t σ H Q=ta σ H λx H1=>∃a dx fs,x=.ref a/\H1 a=some (.ins C dx fs)/\fs.lookup m=none/\t σ H1 λvs H2=>sp (x::vs) H2 Q E:=rfl
theorem AXT{sp:Sp}{E:XK}{t:TA}:bx sp [] E t σ H Q=t σ H λvs H1=>sp vs H1 Q E:=rfl
theorem AXU{C : Ξ}{sp:Sp}{E:XK}{t:TA}:bq C sp [] E t σ H Q=t σ H λvs H1=>∀x dx,H1 x=none->H1 dx=none->dx≠x->sp (.ref x::vs) (upd (upd H1 dx (.own x)) x (.ins C dx [])) (λv H2=>v=.Es/\Q (.ref x) H2) E:=rfl
theorem sc1{i j:Int}:aU (.int i) (.int j)=true:=rfl
theorem sc2:aU .Es .Es=true:=rfl
theorem sc3{i:Int}:aU (.int i) .Es=true:=rfl
theorem sc4{a b:Bool}:aU (.bl a) (.bl b)=true:=rfl
def cJ:Option HO->Option (List V)
 |some (.lst xs)=>some xs
 |_=>none
theorem APk{xs:List V}:cJ (some (.lst xs))=some xs:=rfl
theorem RH{o:Option HO}{xs:List V}(h:cJ o=some xs):o=some (.lst xs):=by
 cases o with
 |none=>cases h
 |some v=>cases v<;>cases h<;>rfl
end
end L2
namespace Hx
open PySem PySem.Spec PyProof.Rows L2
section
variable {H:Hp}{C b : Ξ}{u : Ξ × Ξ × List (qf×V)}
def gd{α β:Type}[DecidableEq β](f:α->β)(z:α)(l:β):Option α:=if l=f z then some z else none
theorem AUS{α β:Type}[DecidableEq β]{f:α->β}{z y:α}{l:β}(h:gd f z l=some y):l=f y:=by
 unfold gd at h;split at h
 .cases h;assumption
 .cases h
def jq(l:List (qf×V))(i:Nat):V:=(l.getD i ("",.Es)).2
def fD(l:List (qf×V)):Option (V×V×V):=gd (λz=>A4 z.1 z.2.1 z.2.2) (jq l 0,jq l 1,jq l 2) l
theorem AU4{x y z:V}:fD (A4 x y z)=some (x,y,z):=η rfl
theorem VD{l:List (qf×V)}{z:V×V×V}(h:fD l=some z):l=A4 z.1 z.2.1 z.2.2:=(AUS h :)
def dH(l:List (qf×V)):Option (Ξ × V):=gd (λz=>BA (.ref z.1) z.2) (match jq l 0 with|.ref p=>p|_=>0,jq l 1) l
theorem AVe{p : Ξ}{y:V}:dH (BA (.ref p) y)=some (p,y):=η rfl
theorem RS{l:List (qf×V)}{z : Ξ × V}(h:dH l=some z):l=BA (.ref z.1) z.2:=(AUS h :)
def intD:V->Option Int
 |.int i=>some i
 |_=>none
theorem AVa{i:Int}:intD (.int i)=some i:=rfl
theorem AOp{v:V}{i:Int}(h:intD v=some i):v=.int i:=by cases v<;>cases h;rfl
variable {t:Ad}{Q:VK}{E:XK}
def QG(t:Ad):Sp:=λvs H Q _=>∃a dx x d y,vs=[.ref a]/\H a=some (.ins t.Au dx (A4 x d y))/\Q (.bl (!decide (d=.Es))) H
def AD1(t:Ad):Sp:=λvs H Q _=>∃a dx x d y,vs=[.ref a]/\H a=some (.ins t.Au dx (A4 x d (.int y)))/\Q (.bl (!decide (y=0))) H
def Vf(t:Ad):Sp:=λvs H Q _=>∃f n dx pl rl as,vs=[.ref f,.int n]/\H f=some (.ins t.Aa dx (BA (.ref pl) rl))/\H pl=some (.lst as)/\Q (.bl (decide (1<=n/\n<=as.length))) H
def AEo(t:Ad):Sp:=λvs H Q _=>∃f n m dx pl rl as,vs=[.ref f,.int n,.int m]/\H f=some (.ins t.Aa dx (BA (.ref pl) rl))/\H pl=some (.lst as)/\Q (.bl (decide ((1<=n/\n<=as.length)/\(1<=m/\m<=as.length)/\n≠m))) H
def QF(t:Ad):Sp:=λvs H Q _=>∃f n dx pl rl as j a,vs=[.ref f,.int n]/\H f=some (.ins t.Aa dx (BA (.ref pl) rl))/\H pl=some (.lst as)/\n=((j:Nat):Int)+1/\as[j]?=some a/\Q a H
theorem AWK{z:V×V×V}(h:Wx (H b)=some u)(h1:u.1=t.Au)(h2:fD u.2.2=some z):
  QG t [V.ref b] H Q E=Q (.bl (!decide (z.2.1=.Es))) H:=
 propext ⟨by rintro⟨a,dx,x,d,y,e1,e2,q⟩;cases e1;rw[Gj h,VD h2,h1] at e2;cases e2;exact q,λq=>⟨b,_,_,_,_,rfl,by rw[Gj h,VD h2,h1],q⟩⟩
theorem AWH{z:V×V×V}{i:Int}(h:Wx (H b)=some u)(h1:u.1=t.Au)(h2:fD u.2.2=some z)(h3:intD z.2.2=some i):
  AD1 t [V.ref b] H Q E=Q (.bl (!decide (i=0))) H:=
 propext ⟨by rintro⟨a,dx,x,d,y,e1,e2,q⟩;cases e1;rw[Gj h,VD h2,AOp h3,h1] at e2;cases e2;exact q,λq=>⟨b,_,_,_,_,rfl,by rw[Gj h,VD h2,AOp h3,h1],q⟩⟩
theorem AXV{m:Int}{z : Ξ × V}{as:List V}(h:Wx (H b)=some u)(h1:u.1=t.Aa)(h2:dH u.2.2=some z)(h3:cJ (H z.1)=some as):
  Vf t [V.ref b,V.int m] H Q E=Q (.bl (decide (1<=m/\m<=as.length))) H:=
 propext ⟨by rintro⟨f,n,dx,pl,rl,xs,e1,e2,e3,q⟩;cases e1;rw[Gj h,RS h2,h1] at e2;cases e2;rw[RH h3] at e3;cases e3;exact q,λq=>⟨b,_,_,_,_,_,rfl,by rw[Gj h,RS h2,h1],RH h3,q⟩⟩
theorem AWI{m k:Int}{z : Ξ × V}{as:List V}(h:Wx (H b)=some u)(h1:u.1=t.Aa)(h2:dH u.2.2=some z)(h3:cJ (H z.1)=some as):
  AEo t [V.ref b,V.int m,V.int k] H Q E=Q (.bl (decide ((1<=m/\m<=as.length)/\(1<=k/\k<=as.length)/\m≠k))) H:=
 propext ⟨by rintro⟨f,n,i,dx,pl,rl,xs,e1,e2,e3,q⟩;cases e1;rw[Gj h,RS h2,h1] at e2;cases e2;rw[RH h3] at e3;cases e3;exact q,λq=>⟨b,_,_,_,_,_,_,rfl,by rw[Gj h,RS h2,h1],RH h3,q⟩⟩
theorem AWG{m:Int}{z : Ξ × V}{as:List V}(h:Wx (H b)=some u)(h1:u.1=t.Aa)(h2:dH u.2.2=some z)(h3:cJ (H z.1)=some as):
  QF t [V.ref b,V.int m] H Q E=∃j:Nat,m=(j:Int)+1/\∃a,as[j]?=some a/\Q a H:=
 propext ⟨by rintro⟨f,n,dx,pl,rl,xs,j,a,e1,e2,e3,e4,e5,q⟩;cases e1;rw[Gj h,RS h2,h1] at e2;cases e2;rw[RH h3] at e3;cases e3;exact⟨j,e4,a,e5,q⟩,λ⟨j,e4,a,e5,q⟩=>⟨b,_,_,_,_,_,j,a,rfl,by rw[Gj h,RS h2,h1],RH h3,e4,e5,q⟩⟩
end
def rdT{K : ξ}{mg:qf->Option Δ}{t:Ad}(T:Txt K mg t):=rD T.DG (rD T.ABg (rD T.Gh (rD T.AB2 (rD T.AX (rD T.KS (rD T.AAw (rD T.WU (rD T.ACZ (rD T.LI (rD T.JD (rD T.D9 (rD T.ACY (rD T.AEt (rD T.N5 (rD T.D6 (rD T.Ng (rD T.AD3 (rD T.AEu (rD T.ACa (rD T.G0 (rD T.NG (rD T.M5 (rD T.Im (rD T.Lv (rD T.IB (T.Li))))))))))))))))))))))))))
local macro_rules | `(tactic|lk)=>`(tactic|decide)
theorem _root_.L2.EI.m{j k:Nat}{A:qN}(r:EI k A)(h:j<=k:=by decide):EI j A:=r.mono h
local macro_rules | `(tactic|walk_at "rd0")=>do
 let f(s:String):=(s.splitOn " ").toArray.mapM fun x=>if x.front=='↓'then `(Lean.Parser.Tactic.simpLemma|↓$(Lean.mkIdent (x.drop 1).toName):term)else `(Lean.Parser.Tactic.simpLemma|$(Lean.mkIdent x.toName):term)
 let l:=((<-f "AYQ")++#[<-`(Lean.Parser.Tactic.simpLemma|rdT ‹Txt _ _ _›)]++(<-f "↓tv0 ↓tv1 ↓tv2 ↓tv3 ↓tv4 ↓tv5 ↓tv6 ↓AXS ↓AXT ↓AWL ↓AU0 ↓AUy AP0 ↓AXW ↓AWJ ↓AU1 ↓AUz APk AU4 AVe AVa ↓AWK ↓AWH ↓AXV ↓AWI ↓AWG QG Vf QF AUB AVx AUD gm Sf tC gn AV4 AUA tB AT6 jf tUn rI gB rU rEq rNe sc1 sc2 sc3 sc4 AQc AV6 tOr AVz AUG AVy AT9 ↓AXU AUs aQ bu mw AVw AV1 AWB gw WN AUK Ol MV AW9 AW8 L2.start AQZ AQa AUj ASm iH cQ AVv tBM AUR AUQ tSl AT8 ANx g8 iA g9 AOF wipe AWF gu AUF AUI AUE XW AQb AQY AT7 AT5 ALV AWE AWc List.cons.injEq reduceCtorEq AD Q5 List.map_cons List.map_nil List.length_cons List.length_nil List.replicate List.nil_append List.cons_append List.append_nil List.getElem?_cons_zero List.getElem?_cons_succ List.set_cons_zero List.set_cons_succ Nat.reduceSub Nat.reduceAdd Nat.zero_lt_succ Option.some.injEq exists_eq_left' exists_eq' V.ref.injEq V.int.injEq V.bl.injEq HO.ins.injEq HO.lst.injEq HO.tup.injEq and_assoc exists_and_left true_and and_true ↓reduceIte Bool.false_eq_true Bool.not_true Bool.not_false AU8 AUf AQV AUq AUp AUo AF9 AAc ABb AGx ADw ADd ACW Po AFW ASY ANo ANn ACS AEh AFb ACx AAk ACU ACT ADg ABR ACX ADy AFa AGB ADf AKv ASc ANp AIK AXE AT3 AT2 AIJ AFX Jq AAW ABy AAv AA7 AQL AQK AKu AMi AIM K1 ABQ ADx AVq ASb ASa ASZ AEG AEf AT1 SW ADe ON AFY AGz AIL ANq")).push ⟨(<-`(Lean.Parser.Tactic.simpStar| *)).raw⟩
 `(tactic|simp only[$l,*])
local macro_rules | `(tactic|z_go)=>`(tactic|((try walk_at "rd0");repeat (with_reducible refine AUi ?_;walk_at "rd0")))
local macro_rules | `(tactic|walk_at "rf")=>`(tactic|((try walk_at "rd0");repeat (simp only[gh];walk_at "rd0")))
section
variable {P:pQ}{w:qt}{K : ξ}{mg:qf->Option Δ}{AG:qM}{t:Ad}
theorem Lu(T:Txt K mg t):A2 P w K mg AG FI 1 t.C5 t.Dt ["self"] (QG t):=by
 refine T.Gk.ok AEI (λvs H Q E h=>?_) (λDM A AR s H vs Q E hr h=>?_)
 .obtain⟨_,_,_,_,_,rfl,_⟩:=h;rfl
 obtain⟨a,dx,x,d,y,rfl,hp,q⟩:=h;refine⟨_,(AI (AV (ARB (AOP (Mz (pv 0) rfl))))),?_⟩
 z_go
theorem AD2(T:Txt K mg t):A2 P w K mg AG FI 1 t.CG t.DC ["self"] (AD1 t):=by
 refine T.FY.ok AC3 (λvs H Q E h=>?_) (λDM A AR s H vs Q E hr h=>?_)
 .obtain⟨_,_,_,_,_,rfl,_⟩:=h;rfl
 obtain⟨a,dx,x,d,y,rfl,hp,q⟩:=h;refine⟨_,(AI (AV (Mb W8 (Mz (pv 0) rfl) (An rfl T.Fc) (Cn _)))),?_⟩
 z_go
def AC0(t:Ad):Sp:=λvs H Q _=>∃a dx p,vs=[.ref a,p]/\H a=some (.ins t.Au dx [])/\Q .Es (upd H a (.ins t.Au dx (A4 p .Es (.int 0))))
theorem AHU(T:Txt K mg t):A2 P w K mg AG FI 1 t.Fx t.HL ["self","parents"] (AC0 t):=by
 refine T.Ke.ok AHI (λvs H Q E h=>?_) (λDM A AR s H vs Q E hr h=>?_)
 .obtain⟨_,_,_,rfl,_⟩:=h;rfl
 obtain⟨a,dx,p,rfl,hp,q⟩:=h;refine⟨_,(AE (Dh (pv 0) (pv 1) rfl)
  (AE (Dh (pv 0) ZY rfl)
  (AI (Dh (pv 0) (An rfl T.Fc) rfl)))),?_⟩
 z_go
def AC1(t:Ad):Sp:=λvs H Q _=>∃a dx,vs=[.ref a]/\H a=some (.ins t.Aa dx [])/\∀pl rl,H pl=none->H rl=none->pl≠rl->∀H',(∀b,b≠a->H' b=upd (upd H pl (.lst [])) rl (.dT []) b)->H' a=some (.ins t.Aa dx (BA (.ref pl) (.ref rl)))->Q .Es H'
theorem AHW(T:Txt K mg t):A2 P w K mg AG FI 1 t.Fz t.HN ["self"] (AC1 t):=by
 refine T.Kg.ok AHJ (λvs H Q E h=>?_) (λDM A AR s H vs Q E hr h=>?_)
 .obtain⟨_,_,rfl,_⟩:=h;rfl
 obtain⟨a,dx,rfl,hp,q⟩:=h;refine⟨_,(AE (Dh (pv 0) (EV AF) rfl)
  (AI (Dh (pv 0) ARA rfl))),?_⟩
 z_go
 intro pl RM;have n1:a≠pl:=AO hp RM;have e1:upd H pl (HO.lst []) a=some (.ins t.Aa dx []):=by rw[AH n1];exact hp
 z_go
 intro rl Wz;have n3:rl≠a:=λe=>by rw[e,AD] at Wz;cases Wz
 rw[AH n3] at Wz;have n2:rl≠pl:=λe=>by rw[e,AD] at Wz;cases Wz
 rw[AH n2] at Wz;have e2:upd (upd (upd H pl (HO.lst [])) a (HO.ins t.Aa dx (CT "persons" (V.ref pl) []))) rl (HO.dT []) a=some (HO.ins t.Aa dx (CT "persons" (V.ref pl) [])):=by rw[AH (qk n3),AD]
 z_go
 refine q pl rl RM Wz (qk n2) _ (λb hb=>?_) ?_
 .rw[AH hb];by_cases h:b=rl
  .subst h;rw[AD,AD]
  .rw[AH h,AH h,AH hb]
 .rw[AD]
theorem Ls(T:Txt K mg t):A2 P w K mg AG FI 1 t.Ed t.GU ["self","number"] (Vf t):=by
 refine T.JT.ok AGX (λvs H Q E h=>?_) (λDM A AR s H vs Q E hr h=>?_)
 .obtain⟨_,_,_,_,_,_,rfl,_⟩:=h;rfl
 obtain⟨f,n,dx,pl,rl,as,rfl,hf,hl,q⟩:=h;refine⟨_,(AI (AV (ALc W9 W9 Ac (pv 1) (CO FH rfl T.Ks PySem.boot_len (AA (Mz (pv 0) rfl) AF))))),?_⟩
 z_go
 by_cases h:1<=n
 .simpa[h] using q
 .simpa[h] using q
theorem AEr(T:Txt K mg t):A2 P w K mg AG FI 2 t.Cb t.DZ ["self","one","other"] (AEo t):=by
 have AY:=@Ls P w K mg AG t T;refine T.F7.ok ADi (λvs H Q E h=>?_) (λDM A AR s H vs Q E hr h=>?_)
 .obtain⟨_,_,_,_,_,_,_,rfl,_⟩:=h;rfl
 obtain⟨f,n,m,dx,pl,rl,as,rfl,hf,hl,q⟩:=h;refine⟨_,(AI (AV (Xs (Aj (pv 0) T.AX T.A7 AY hr.m T.BI .nil AS (AA (pv 1) AF)) (Xs (Aj (pv 0) T.AX T.A7 AY hr.m T.BI .nil AS (AA (pv 2) AF)) (Vw (Mb W8 (pv 1) (pv 2) (Cn _))))))),?_⟩;clear AY
 z_go
 by_cases h:1<=n/\n<=as.length
 .by_cases h2:1<=m/\m<=as.length
  .simpa[h,h2] using q
  .simpa[h,h2] using q
 .simpa[h] using q
theorem DI(T:Txt K mg t):A2 P w K mg AG FI 1 t.C7 t.Dv ["self","number"] (QF t):=by
 refine T.Gp.ok AEK (λvs H Q E h=>?_) (λDM A AR s H vs Q E hr h=>?_)
 .obtain⟨_,_,_,_,_,_,_,_,rfl,_⟩:=h;rfl
 obtain⟨f,n,dx,pl,rl,as,j,a,rfl,hf,hl,hn,ha,q⟩:=h;refine⟨_,(AI (AV (A9 A3 (Mz (pv 0) rfl) (F0 ARH (pv 1) Ac) (λ_ _=>rfl)))),?_⟩;have e:WY as (n-1)=some a:=at_of (by omega) ha;clear hn
 z_go
def Rh:Option Nat->V
 |none=>.Es
 |some d=>.int d
def aO:Option Nat->V
 |none=>.int 0
 |some j=>.int ((j:Nat)+1)
def ZJ(ps:List Nat):List V:=ps.map λp=>.int ((p:Nat)+1)
def Wq(rs:List (Nat×Nat)):List (List Key×V):=rs.map λx=>([pS ((x.1:Int)+1),pS ((x.2:Int)+1)],.bl true)
def AXD(t:Ad)(H:Hp)(Y8:List Ξ)(a : Ξ)(p:yW):Prop:=∃dx pa,pa∈Y8/\H a=some (.ins t.Au dx (A4 (.ref pa) (Rh p.died) (aO p.spouse)))/\H pa=some (.lst (ZJ p.parents))
structure FA where
 f : Ξ
 dx : Ξ
 pl : Ξ
 rl : Ξ
 as:List Ξ
 Y8:List Ξ
def own(F:FA):List Ξ:=F.f::F.pl::F.rl::(F.as++F.Y8)
structure Cj(t:Ad)(H:Hp)(l:e_)(F:FA):Prop where
 obj:H F.f=some (.ins t.Aa F.dx (BA (.ref F.pl) (.ref F.rl)))
 lst:H F.pl=some (.lst (F.as.map V.ref))
 nd:F.as.Nodup
 len:F.as.length=l.persons.length
 ZX:∀(j:Nat) (a : Ξ),F.as[j]?=some a->AXD t H F.Y8 a (g_ l j)
 Rm:H F.rl=some (.dT (Wq l.renounced))
 Uv:∀a∈F.Y8,∃xs,H a=some (.lst xs)
 UB:F.pl∉F.Y8
structure NO(H H':Hp)(F F':FA):Prop where
 kp:∀b o,H b=some o->b∉own F->H' b=some o
 gr:∀b,b∈own F'->b∈own F\/H b=none
 al:∀b,H' b=none->H b=none
theorem NO.refl(H:Hp)(F:FA):NO H H F F:=⟨λ_ _ h _=>h,λ_ h=>.inl h,λ_ h=>h⟩
theorem Sd{H:Hp}{a b : Ξ}{o:HO}(h:upd H a o b=none):H b=none:=by
 by_cases e:b=a
 .rw[e,AD] at h;cases h
 .rw[AH e] at h;exact h
theorem AJx{l:e_}{n m:Nat}(h:m=l.persons.length):((1:Int)<=(n:Int)/\(n:Int)<=((m:Nat):Int))↔¬ (n=0\/qz l (n-1)=false):=by unfold qz;rw[decide_eq_false_iff_not];omega
theorem Cj.get{H:Hp}{l:e_}{F:FA}(A:Cj t H l F){j:Nat}(h:j<l.persons.length):∃a dx pa,F.as[j]?=some a/\H a=some (.ins t.Au dx (A4 (.ref pa) (Rh (g_ l j).died) (aO (g_ l j).spouse)))/\H pa=some (.lst (ZJ (g_ l j).parents)):=by
 have h':j<F.as.length:=by rw[A.len];exact h
 have e:F.as[j]?=some F.as[j]:=n_ h';obtain⟨dx,pa,_,h1,h2⟩:=A.ZX j _ e;exact⟨_,dx,pa,e,h1,h2⟩
theorem Cj.set{H:Hp}{l:e_}{F:FA}(A:Cj t H l F){j:Nat}{a dx pa : Ξ}{p:yW}(hj:F.as[j]?=some a)(hp:p.parents=(g_ l j).parents)(hd:H a=some (.ins t.Au dx (A4 (.ref pa) (Rh (g_ l j).died) (aO (g_ l j).spouse))))(kG:H pa=some (.lst (ZJ (g_ l j).parents))):
  Cj t (upd H a (.ins t.Au dx (A4 (.ref pa) (Rh p.died) (aO p.spouse)))) (rZ l j p) F/\NO H (upd H a (.ins t.Au dx (A4 (.ref pa) (Rh p.died) (aO p.spouse)))) F F:=by
 have Na:j<l.persons.length:=by rw[<-A.len];exact(l_.mp hj).1
 have nf:F.f≠a:=by intro e;have:=A.obj;rw[e,hd] at this;injection this with this;injection this with _ _ z;have:=congrArg List.length z;rw[Po,AFc] at this;cases this
 have npl:F.pl≠a:=D5 A.lst hd (by intro z;cases z);have nrl:F.rl≠a:=D5 A.Rm hd (by intro z;cases z);have af:pa≠a:=D5 kG hd (by intro z;cases z);refine⟨⟨by rw[AH nf];exact A.obj,by rw[AH npl];exact A.lst,A.nd,by rw[Hj];exact A.len,λj' a' h'=>?_,by rw[AH nrl];exact A.Rm,λb hb=>?_,A.UB⟩,⟨λb o hb nb=>?_,λb hb=>.inl hb,λb hb=>Sd hb⟩⟩
 .rw[Jc Na];by_cases e:j'=j
  .subst e;rw[η rfl];have ea:a'=a:=j_ (h'.symm.trans hj);subst ea;obtain⟨i6,jm,m',bT,kW⟩:=A.ZX j' a' h';rw[hd] at bT;injection bT with bT;injection bT with _ _ bT;rw[AFW] at bT;have ep:pa=jm:=V.ref.inj bT.1;rw[<-ep] at m';exact⟨dx,pa,m',AD,by rw[AH af,hp];exact kG⟩
  .rw[ζ e];have na:a'≠a:=λq=>e (Ys A.nd h' (by rw[q];exact hj));obtain⟨i6,jm,m',h1,h2⟩:=A.ZX j' a' h';exact⟨i6,jm,m',by rw[AH na];exact h1,by rw[AH (D5 h2 hd (by intro z;cases z))];exact h2⟩
 .obtain⟨xs,hx⟩:=A.Uv b hb;exact⟨xs,by rw[AH (D5 hx hd (by intro z;cases z))];exact hx⟩
 .have:b≠a:=λe=>nb (by rw[e];exact θ _ (θ _ (θ _ (qT _ (qQ hj)))));rw[AH this];exact hb
inductive jK(t:Ad)(n:Nat)(c:List Nat->uH)(vs:List V)(H:Hp)(Q:VK)(Xk:XK):Prop
 |mk:∀(F:FA) (l:e_) (ns:List Nat),vs=.ref F.f::ns.map (λk=>V.int (k:Nat))->ns.length=n->Good l->Cj t H l F->(∀H' F',F'.f=F.f->Cj t H' (f_ l (c ns)).1 F'->NO H H' F F'->Q (.int (f_ l (c ns)).2.v) H')->jK t n c vs H Q Xk
theorem aC{α:Type}{l:List α}(h:l.length=2):∃a b,l=[a,b]:=by
 match l,h with
 |[a,b],_=>exact⟨a,b,rfl⟩
theorem list1{α:Type}{l:List α}(h:l.length=1):∃a,l=[a]:=by
 match l,h with
 |[a],_=>exact⟨a,rfl⟩
def Pz:List Nat->uH
 |[n,d]=>.dies n d
 |_=>.begins
theorem ANG(T:Txt K mg t):A2 P w K mg AG FI 2 t.DU t.ER ["self","number","day"] (jK t 2 Pz):=by
 have AY:=@Ls P w K mg AG t T;have AK:=@DI P w K mg AG t T;have Ao:=@Lu P w K mg AG t T;refine T.Hr.ok ABf (λvs H Q E h=>?_) (λDM A AR s H vs Q E hr h=>?_)
 .obtain⟨F,l,ns,rfl,hl,_⟩:=h;rw[o_,χ,hl];rfl
 obtain⟨F,l,ns,rfl,hn,g,fa,q⟩:=h;obtain⟨n,d,rfl⟩:=aC hn;refine⟨_,(AE (Bv (Gf (CD (Aj (pv 0) T.AX T.A7 AY hr.m T.BI .nil AS (AA (pv 1) AF)))) (AI (AV (An rfl T.Bg))) Ax)
  (AE (Bv (Cy Yr (pv 2) (An rfl T.SM) (Cn _)) (AI (AV (An rfl T.Kp))) Ax)
  (AE (Al (i:=3) ABf.nd rfl (qh rfl) (Aj (pv 0) T.AX T.Ah AK hr.m T.Ai .nil AS (AA (pv 1) AF)))
  (AE (Bv (CD (Cc (pv 3) T.DG T.Bb Ao hr.m T.B6 .nil AS)) (AI (AV (An rfl T.CN))) Ax)
  (AE (Dh (pv 3) (pv 2) rfl)
  (AI (AV (An rfl T.Qs)))))))),?_⟩
 clear AY AK Ao;have o1:=fa.obj;have o2:=fa.lst
 z_go
 rw[χ];have kn:=AJx (n:=n) fa.len;by_cases k:n=0\/qz l (n-1)=false
 .rw[η (by rw[zdf (λh=>kn.mp h k)];rfl)];have e:f_ l (Pz [n,d])=(l,qJ (-2)):=η k;rw[e] at q;exact q H F rfl fa (.refl H F)
 rw[ζ (by rw[zqt (kn.mpr k)];exact Λ)];by_cases k2:99999<d
 .z_go
  rw[η (zqt (by omega))];have e:f_ l (Pz [n,d])=(l,qJ (-1)):=(ζ k).trans (η k2);rw[e] at q;exact q H F rfl fa (.refl H F)
 z_go
 rw[ζ (λh=>k2 (by have:=zod h;omega))];have Na:n-1<l.persons.length:=FJ (λh=>k (.inr h));obtain⟨a,dx,pa,ha,h1,h2⟩:=fa.get Na;have hn0:n≠0:=λh=>k (.inl h)
 z_go
 refine⟨n-1,by omega,.ref a,by rw[m_,ha];rfl,?_⟩
 z_go
 have dd:uo l (n-1) = !decide (Rh (g_ l (n-1)).died=V.Es):=by unfold uo;cases (g_ l (n-1)).died<;>rfl
 rw[<-dd];by_cases k3:uo l (n-1)=true
 .rw[η k3];have e:f_ l (Pz [n,d])=(l,qJ (-4)):=(ζ k).trans ((ζ k2).trans (η k3));rw[e] at q;exact q H F rfl fa (.refl H F)
 rw[ζ k3]
 z_go
 have e:f_ l (Pz [n,d])=(rZ l (n-1) {g_ l (n-1) with died:=some d},qJ 0):=(ζ k).trans ((ζ k2).trans (ζ k3));rw[e] at q;obtain⟨z1,z2⟩:=fa.set (p:={g_ l (n-1) with died:=some d}) ha rfl h1 h2;exact q _ F rfl z1 z2
theorem NO.trans{H H1 H2:Hp}{F F1 F2:FA}(a:NO H H1 F F1)(b:NO H1 H2 F1 F2):NO H H2 F F2:=by
 refine⟨λc o h n=>b.kp c o (a.kp c o h n) λm=>?_,λc hc=>?_,λc hc=>a.al c (b.al c hc)⟩
 .rcases a.gr c m with q|q
  .exact n q
  .rw[h] at q;cases q
 .rcases b.gr c hc with q|q
  .exact a.gr c q
  .by_cases h:c∈own F
   .exact .inl h
   .refine .inr ?_;cases e:H c with
    |none=>rfl
    |some o=>rw[a.kp c o e h] at q;cases q
theorem YN(l:e_)(i:Nat):(!decide (Rh (g_ l i).died=V.Es))=uo l i:=by unfold uo;cases (g_ l i).died<;>rfl
def nS:Option Nat->Int
 |none=>0
 |some j=>(j:Nat)+1
theorem Q4(o:Option Nat):aO o=.int (nS o):=by cases o<;>rfl
theorem cH(o:Option Nat):(!decide (nS o=0))=o.isSome:=by
 cases o with
 |none=>rfl
 |some j=>
  have:¬ nS (some j)=0:=by show¬ ((j:Int)+1=0);omega
  rw[zdf this];rfl
def NI:List Nat->uH
 |[n,d]=>.marry n d
 |_=>.begins
theorem AHs{l:e_}{n k m:Nat}(h:m=l.persons.length):((1:Int)<=(n:Int)/\(n:Int)<=((m:Nat):Int)/\(1:Int)<=(k:Int)/\(k:Int)<=((m:Nat):Int)/\(n:Int)≠(k:Int))↔¬ (n=0\/k=0\/qz l (n-1)=false\/qz l (k-1)=false\/n=k):=by unfold qz;rw[decide_eq_false_iff_not,decide_eq_false_iff_not];omega
theorem ARM(T:Txt K mg t):A2 P w K mg AG FI 3 t.Ec t.GS ["self","one","other"] (jK t 2 NI):=by
 have Ek:=@AEr P w K mg AG t T;have AK:=@DI P w K mg AG t T;have Ao:=@Lu P w K mg AG t T;have DH:=@AD2 P w K mg AG t T;refine T.JS.ok L7 (λvs H Q E h=>?_) (λDM A AR s H vs Q E hr h=>?_)
 .obtain⟨F,l,ns,rfl,hl,_⟩:=h;rw[o_,χ,hl];rfl
 obtain⟨F,l,ns,rfl,hn,g,fa,q⟩:=h;obtain⟨n,d,rfl⟩:=aC hn;refine⟨_,(AE (Bv (Gf (CD (Aj (pv 0) T.AX T.F3 Ek hr.m T.JJ .nil AS (AA (pv 1) (AA (pv 2) AF))))) (AI (AV (An rfl T.Bg))) Ax)
  (AE (Al (i:=3) L7.nd rfl (qh rfl) (Aj (pv 0) T.AX T.Ah AK hr.m T.Ai .nil AS (AA (pv 1) AF)))
  (AE (Al (i:=4) L7.nd rfl (qh rfl) (Aj (pv 0) T.AX T.Ah AK hr.m T.Ai .nil AS (AA (pv 2) AF)))
  (AE (Bv (PW.pt (Pq (CD (Cc (pv 3) T.DG T.Di DH hr.m T.Fd .nil AS)) (Pq (CD (Cc (pv 4) T.DG T.Di DH hr.m T.Fd .nil AS)) (Pq (CD (Cc (pv 3) T.DG T.Bb Ao hr.m T.B6 .nil AS)) (O6 (CD (Cc (pv 4) T.DG T.Bb Ao hr.m T.B6 .nil AS))))))) (AI (AV (An rfl T.CN))) Ax)
  (AE (Dh (pv 3) (pv 2) rfl)
  (AE (Dh (pv 4) (pv 1) rfl)
  (AI (AV (An rfl T.Qs))))))))),?_⟩
 clear Ek AK Ao DH;have o1:=fa.obj;have o2:=fa.lst
 z_go
 rw[χ];have kn:=AHs (n:=n) (k:=d) fa.len;by_cases k:n=0\/d=0\/qz l (n-1)=false\/qz l (d-1)=false\/n=d
 .rw[η (by rw[zdf (λh=>kn.mp h k)];rfl)];have e:f_ l (NI [n,d])=(l,qJ (-2)):=η k;rw[e] at q;exact q H F rfl fa (.refl H F)
 rw[ζ (by rw[zqt (kn.mpr k)];exact Λ)];have k':=k;simp only[not_or] at k';obtain⟨a1,a2,a3,a4,a5⟩:=k';obtain⟨a,dx,pa,ha,h1,h2⟩:=fa.get (FJ a3);obtain⟨b,dy,pb,hb,h3,h4⟩:=fa.get (FJ a4);have j4:a≠b:=λe=>by rw[e] at ha;have:=Ys fa.nd ha hb;omega
 rw[Q4] at h1 h3
 z_go
 refine⟨n-1,by omega,.ref a,by rw[m_,ha];rfl,?_⟩
 z_go
 refine⟨d-1,by omega,.ref b,by rw[m_,hb];rfl,?_⟩;have h3':upd H a (HO.ins t.Au dx (A4 (V.ref pa) (Rh (g_ l (n-1)).died) (V.int ↑d))) b=H b:=AH (qk j4)
 z_go
 rw[YN,YN,cH,cH];by_cases m:(g_ l (n-1)).spouse.isSome=true\/(g_ l (d-1)).spouse.isSome=true\/uo l (n-1)=true\/uo l (d-1)=true
 .have e:f_ l (NI [n,d])=(l,qJ (-4)):=(ζ k).trans (η m);rw[e] at q;have q':Q (V.int (-4)) H:=q H F rfl fa (.refl H F);by_cases m1:(g_ l (n-1)).spouse.isSome=true
  .rw[η m1];exact q'
  .rw[ζ m1];by_cases m2:(g_ l (d-1)).spouse.isSome=true
   .rw[η m2];exact q'
   .rw[ζ m2];by_cases m3:uo l (n-1)=true
    .rw[η m3];exact q'
    .rw[ζ m3];have m4:uo l (d-1)=true:=by
      rcases m with z|z|z|z
      .exact absurd z m1
      .exact absurd z m2
      .exact absurd z m3
      .exact z
     rw[η m4];exact q'
 .have m':=m;simp only[not_or] at m';obtain⟨m1,m2,m3,m4⟩:=m';rw[ζ m1,ζ m2,ζ m3,ζ m4];rw[<-Q4] at h1 h3;have e:f_ l (NI [n,d])=(rZ (rZ l (n-1) {g_ l (n-1) with spouse:=some (d-1)}) (d-1) {g_ (rZ l (n-1) {g_ l (n-1) with spouse:=some (d-1)}) (d-1) with spouse:=some (n-1)},qJ 0):=(ζ k).trans (ζ m);rw[e] at q;obtain⟨z1,z2⟩:=fa.set (p:={g_ l (n-1) with spouse:=some (d-1)}) ha rfl h1 h2;have v1:aO (some (d-1))=V.int (d:Int):=by show V.int (((d-1:Nat):Int)+1)=_;congr 1;omega
  have v2:aO (some (n-1))=V.int (n:Int):=by show V.int (((n-1:Nat):Int)+1)=_;congr 1;omega
  dsimp only at z1 z2;rw[v1] at z1 z2;have pj:g_ (rZ l (n-1) {g_ l (n-1) with spouse:=some (d-1)}) (d-1)=g_ l (d-1):=by rw[Jc (FJ a3),ζ (by omega)]
  obtain⟨y1,y2⟩:=z1.set (p:={g_ (rZ l (n-1) {g_ l (n-1) with spouse:=some (d-1)}) (d-1) with spouse:=some (n-1)}) (dx:=dy) (pa:=pb) hb rfl (by rw[pj,AH (qk j4)];exact h3) (by rw[pj,AH (D5 h4 h1 (by intro z;cases z))];exact h4);dsimp only at y1 y2;rw[v2,pj] at y1 y2;rw[pj] at q
  z_go
  exact q _ F rfl y1 (z2.trans y2)
def Py:List Nat->uH
 |[n]=>.part n
 |_=>.begins
theorem AS9(T:Txt K mg t):A2 P w K mg AG FI 2 t.Fy t.HM ["self","number"] (jK t 1 Py):=by
 have AY:=@Ls P w K mg AG t T;have AK:=@DI P w K mg AG t T;have Ao:=@Lu P w K mg AG t T;have DH:=@AD2 P w K mg AG t T;refine T.Kf.ok Mt (λvs H Q E h=>?_) (λDM A AR s H vs Q E hr h=>?_)
 .obtain⟨F,l,ns,rfl,hl,_⟩:=h;rw[o_,χ,hl];rfl
 obtain⟨F,l,ns,rfl,hn,g,fa,q⟩:=h;obtain⟨n,rfl⟩:=list1 hn;refine⟨_,(AE (Bv (Gf (CD (Aj (pv 0) T.AX T.A7 AY hr.m T.BI .nil AS (AA (pv 1) AF)))) (AI (AV (An rfl T.Bg))) Ax)
  (AE (Al (i:=2) Mt.nd rfl (qh rfl) (Aj (pv 0) T.AX T.Ah AK hr.m T.Ai .nil AS (AA (pv 1) AF)))
  (AE (Bv (Gf (CD (Cc (pv 2) T.DG T.Di DH hr.m T.Fd .nil AS))) (AI (AV (An rfl T.CN))) Ax)
  (AE (Al (i:=3) Mt.nd rfl (qh rfl) (Aj (pv 0) T.AX T.Ah AK hr.m T.Ai .nil AS (AA (Mz (pv 2) rfl) AF)))
  (AE (Bv (PW.pt (Pq (CD (Cc (pv 2) T.DG T.Bb Ao hr.m T.B6 .nil AS)) (O6 (CD (Cc (pv 3) T.DG T.Bb Ao hr.m T.B6 .nil AS))))) (AI (AV (An rfl T.CN))) Ax)
  (AE (Dh (pv 2) (An rfl T.Fc) rfl)
  (AE (Dh (pv 3) (An rfl T.Fc) rfl)
  (AI (AV (An rfl T.Qs)))))))))),?_⟩
 clear AY AK Ao DH;have o1:=fa.obj;have o2:=fa.lst
 z_go
 rw[χ];have kn:=AJx (n:=n) fa.len;by_cases k:n=0\/qz l (n-1)=false
 .rw[η (by rw[zdf (λh=>kn.mp h k)];rfl)];have e:f_ l (Py [n])=(l,qJ (-2)):=η k;rw[e] at q;exact q H F rfl fa (.refl H F)
 rw[ζ (by rw[zqt (kn.mpr k)];exact Λ)];have k':=k;simp only[not_or] at k';obtain⟨a1,a3⟩:=k';obtain⟨a,dx,pa,ha,h1,h2⟩:=fa.get (FJ a3);rw[Q4] at h1
 z_go
 refine⟨n-1,by omega,.ref a,by rw[m_,ha];rfl,?_⟩
 z_go
 rw[cH];cases es:(g_ l (n-1)).spouse with
 |none=>rw[η (show(!(none:Option Nat).isSome)=true from rfl)];have e:f_ l (Py [n])=(l,qJ (-4)):=(ζ k).trans (by rw[es]);rw[e] at q;exact q H F rfl fa (.refl H F)
 |some j=>
  rw[ζ (show¬ (!(some j).isSome)=true from Λ)];obtain⟨s1,s2,s3⟩:=g.aR (n-1) j es;obtain⟨b,dy,pb,hb,h3,h4⟩:=fa.get s2;have j4:a≠b:=λe=>by rw[e] at ha;exact s1 (Ys fa.nd ha hb)
  rw[Q4] at h3
  z_go
  refine⟨j,rfl,.ref b,by rw[m_,hb];rfl,?_⟩;have h3':upd H a (HO.ins t.Au dx (A4 (V.ref pa) (Rh (g_ l (n-1)).died) (V.int 0))) b=H b:=AH (qk j4);rw[es] at h1
  z_go
  rw[YN,YN];by_cases m:uo l (n-1)=true\/uo l j=true
  .have e:f_ l (Py [n])=(l,qJ (-4)):=(ζ k).trans (by rw[es];exact η m);rw[e] at q;have q':Q (V.int (-4)) H:=q H F rfl fa (.refl H F);by_cases m1:uo l (n-1)=true
   .rw[η m1];exact q'
   .rw[ζ m1];rcases m with z|z
    .exact absurd z m1
    .rw[η z];exact q'
  .have m':=m;simp only[not_or] at m';rw[ζ m'.1,ζ m'.2];rw[<-es,<-Q4] at h1;rw[<-Q4] at h3;have e:f_ l (Py [n])=(rZ (rZ l (n-1) {g_ l (n-1) with spouse:=none}) j {g_ (rZ l (n-1) {g_ l (n-1) with spouse:=none}) j with spouse:=none},qJ 0):=(ζ k).trans (by rw[es];exact ζ m);rw[e] at q;obtain⟨z1,z2⟩:=fa.set (p:={g_ l (n-1) with spouse:=none}) ha rfl h1 h2;dsimp only at z1 z2;have pj:g_ (rZ l (n-1) {g_ l (n-1) with spouse:=none}) j=g_ l j:=by rw[Jc (FJ a3),ζ (qk s1)]
   obtain⟨y1,y2⟩:=z1.set (p:={g_ (rZ l (n-1) {g_ l (n-1) with spouse:=none}) j with spouse:=none}) (dx:=dy) (pa:=pb) hb rfl (by rw[pj,AH (qk j4)];exact h3) (by rw[pj,AH (D5 h4 h1 (by intro z;cases z))];exact h4);dsimp only at y1 y2;rw[pj] at y1 y2;rw[pj] at q
   z_go
   exact q _ F rfl y1 (z2.trans y2)
def S8(i e:Nat):List Key:=[pS ((i:Int)+1),pS ((e:Int)+1)]
theorem ARp{i e i' e':Nat}(h:S8 i e=S8 i' e'):i=i'/\e=e':=by unfold S8 at h;injection h with h1 h2;injection h2 with h2 _;injection h1 with h1;injection h2 with h2;omega
theorem P9(i e:Nat):∀rs:List (Nat×Nat),NU (Wq rs) (S8 i e)=if rs.contains (i,e)=true then some (.bl true) else none
 |[]=>rfl
 |(a,b)::rs=>by
  show NU ((S8 a b,V.bl true)::Wq rs) (S8 i e)=_;by_cases h:a=i/\b=e
  .obtain⟨rfl,rfl⟩:=h;rw[QA rfl,η (by simp)]
  .have h':¬ S8 a b=S8 i e:=λq=>h (ARp q);rw[OP h',P9 i e rs];have:((a,b)::rs).contains (i,e)=rs.contains (i,e):=by
    rw[List.contains_cons];have:((i,e)==(a,b))=false:=by rw[beq_eq_false_iff_ne];intro z;injection z with z1 z2;exact h ⟨z1.symm,z2.symm⟩
    rw[this,uE]
   rw[this]
theorem AQ0{i e:Nat}{rs:List (Nat×Nat)}(h:¬ rs.contains (i,e)=true):putK (Wq rs) (S8 i e) (.bl true)=Wq (rs++[(i,e)]):=by rw[AQ1 _ (by rw[P9,ζ h])];unfold Wq;rw[se];rfl
theorem Cj.same{H H':Hp}{l:e_}{F:FA}(A:Cj t H l F)(s:AM H H'):Cj t H' l F:=⟨s _ _ A.obj,s _ _ A.lst,A.nd,A.len,λj a h=>let ⟨dx,pa,m,h1,h2⟩:=A.ZX j a h;⟨dx,pa,m,s _ _ h1,s _ _ h2⟩,s _ _ A.Rm,λb hb=>let ⟨xs,hx⟩:=A.Uv b hb;⟨xs,s _ _ hx⟩,A.UB⟩
theorem NO.same{H H':Hp}{F:FA}(s:AM H H'):NO H H' F F:=⟨λb o h _=>s b o h,λb h=>.inl h,λb h=>s.free h⟩
theorem Cj.AUu{H:Hp}{l:e_}{F:FA}(A:Cj t H l F)(rs:List (Nat×Nat)):
  Cj t (upd H F.rl (.dT (Wq rs))) {l with renounced:=rs} F/\NO H (upd H F.rl (.dT (Wq rs))) F F:=by
 have n1:F.f≠F.rl:=D5 A.obj A.Rm (by intro z;cases z);have n2:F.pl≠F.rl:=D5 A.lst A.Rm (by intro z;cases z);refine⟨⟨by rw[AH n1];exact A.obj,by rw[AH n2];exact A.lst,A.nd,A.len,λj a h=>?_,AD,λb hb=>?_,A.UB⟩,⟨λb o h nb=>?_,λb h=>.inl h,λb h=>Sd h⟩⟩
 .obtain⟨dx,pa,m,h1,h2⟩:=A.ZX j a h;exact⟨dx,pa,m,by rw[AH (D5 h1 A.Rm (by intro z;cases z))];exact h1,by rw[AH (D5 h2 A.Rm (by intro z;cases z))];exact h2⟩
 .obtain⟨xs,hx⟩:=A.Uv b hb;exact⟨xs,by rw[AH (D5 hx A.Rm (by intro z;cases z))];exact hx⟩
 .have:b≠F.rl:=λe=>nb (by rw[e];exact θ _ (θ _ (υ ..)));rw[AH this];exact h
theorem AJr:∀(m:Nat) (l:List Nat),l.Nodup->(∀x∈l,x<m)->l.length<=m
 |0,[],_,_=>by simp
 |0,x::l,_,h=>by have:=h x (υ ..);omega
 |m+1,l,hn,h=>by
  have h1:=AJr m (l.filter λx=>x != m) (hn.filter _) λx hx=>by
   have a:=h x (d_.mp hx).1;have b:x≠m:=by simpa using(d_.mp hx).2
   omega
  have h2:l.length<=(l.filter λx=>x != m).length+1:=by
   clear h h1
   induction l with
   |nil=>simp
   |cons a l ih=>
    have cT:=qv.mp hn;rw[qB];by_cases e:a=m
    .subst e;rw[ζ (by simp)];have:l.filter (λx=>x != a)=l:=List.filter_eq_self.mpr λx hx=>by have:x≠a:=λq=>cT.1 (q▸hx);simpa using this
     rw[this,o_];exact b_ _
    .rw[η (by simpa using e),o_,o_];have:=ih cT.2;omega
  omega
theorem ASx{l:e_}(g:Good l):l.renounced.length<=256:=by
 have h:=AJr 256 (l.renounced.map λx=>x.1*16+x.2) ?_ ?_
 .rw[χ] at h;exact h
 .have nd:=g.g6;have rn:=g.Rm;have GV:=g.GV;generalize l.renounced=rs at nd rn
  induction rs with
  |nil=>simp
  |cons a rs ih=>have P5:=qv.mp nd;rw[k_];refine qv.mpr ⟨λhm=>?_,ih P5.2 λx hx=>rn x (θ _ hx)⟩;obtain⟨b,hb,e⟩:=Θ.mp hm;have r1:=rn a (υ ..);have r2:=rn b (θ _ hb);have:b=a:=vQ (by omega) (by omega);rw[this] at hb;exact P5.1 hb
 .intro x hx;obtain⟨b,hb,rfl⟩:=Θ.mp hx;have r2:=g.Rm b hb;have GV:=g.GV;omega
def WW:List Nat->uH
 |[n,d]=>.renounce n d
 |_=>.begins
theorem ALh(T:Txt K mg t):A2 P w K mg AG FI 3 t.C6 t.Du ["self","number","whose"] (jK t 2 WW):=by
 have Ek:=@AEr P w K mg AG t T;refine T.Gm.ok AEJ (λvs H Q E h=>?_) (λDM A AR s H vs Q E hr h=>?_)
 .obtain⟨F,l,ns,rfl,hl,_⟩:=h;rw[o_,χ,hl];rfl
 obtain⟨F,l,ns,rfl,hn,g,fa,q⟩:=h;obtain⟨n,d,rfl⟩:=aC hn;have hu:=IG hr;refine⟨_,(AE (Bv (Gf (CD (Aj (pv 0) T.AX T.F3 Ek hr.m T.JJ .nil AS (AA (pv 1) (AA (pv 2) AF))))) (AI (AV (An rfl T.Bg))) Ax)
  (AE (Bv (KI (MG hu (I0 (AA (pv 1) (AA (pv 2) AF))) (Mz (pv 0) rfl))) (AI (AV (An rfl T.AA2))) Ax)
  (AE (KL hu (Mz (pv 0) rfl) (I0 (AA (pv 1) (AA (pv 2) AF))) V0 rfl)
  (AI (AV (An rfl T.Qs)))))),?_⟩
 clear Ek;have o1:=fa.obj;have o2:=fa.lst
 z_go
 rw[χ];have kn:=AHs (n:=n) (k:=d) fa.len;by_cases k:n=0\/d=0\/qz l (n-1)=false\/qz l (d-1)=false\/n=d
 .rw[η (by rw[zdf (λh=>kn.mp h k)];rfl)];have e:f_ l (WW [n,d])=(l,qJ (-2)):=η k;rw[e] at q;exact q H F rfl fa (.refl H F)
 rw[ζ (by rw[zqt (kn.mpr k)];exact Λ)]
 z_go
 intro p hp;have s1:AM H (upd H p (HO.tup [V.int n,V.int d])):=AM.new hp;have W3:=fa.same s1;have o3:=W3.obj;have o4:=W3.Rm;have k':=k;simp only[not_or] at k';obtain⟨a1,a2,a3,a4,a5⟩:=k'
 z_go
 have hk:(S8 (n-1) (d-1)).map kV=([V.int n,V.int d]:List V):=by show[V.int (((n-1:Nat):Int)+1),V.int (((d-1:Nat):Int)+1)]=_;rw[show(((n-1:Nat):Int)+1)=n by omega,show(((d-1:Nat):Int)+1)=d by omega]
 refine⟨_,Ld.t o4 (by rw[AD,<-hk]),?_⟩;rw[P9];by_cases m:l.renounced.contains (n-1,d-1)=true
 .rw[η m,η (show(some (V.bl true)).isSome=true from rfl)];have e:f_ l (WW [n,d])=(l,qJ (-3)):=(ζ k).trans (η m);rw[e] at q;exact q _ F rfl W3 (.same s1)
 .rw[ζ m,ζ (show¬ (none:Option V).isSome=true from Λ)]
  z_go
  intro p2 W0;have s2:AM (upd H p (HO.tup [V.int n,V.int d])) (upd (upd H p (HO.tup [V.int n,V.int d])) p2 (HO.tup [V.int n,V.int d])):=AM.new W0;have kc:=W3.same s2;have e:f_ l (WW [n,d])=({l with renounced:=l.renounced++[(n-1,d-1)]},qJ 0):=(ζ k).trans (ζ m);rw[e] at q;have GV:(Wq l.renounced).length<pY:=by unfold Wq;rw[χ];exact pN (ASx g) (by lk)
  refine⟨_,P4.t kc.Rm (by rw[AD,<-hk]) GV,?_⟩;rw[AQ0 m];obtain⟨z1,z2⟩:=kc.AUu (l.renounced++[(n-1,d-1)]);exact q _ F rfl z1 ((NO.same (s1.trans s2)).trans z2)
def Zc(n m k:Int):Bool:=if n=m then decide (n=0) else decide ((n=0\/(1<=n/\n<=k))/\(m=0\/(1<=m/\m<=k)))
def ABc(t:Ad):Sp:=λvs H Q _=>∃f n m dx pl rl as,vs=[.ref f,.int n,.int m]/\H f=some (.ins t.Aa dx (BA (.ref pl) rl))/\H pl=some (.lst as)/\∀H',AM H H'->Q (.bl (Zc n m as.length)) H'
theorem AEq(T:Txt K mg t):A2 P w K mg AG FI 2 t.BS t.Bq ["self","one","other"] (ABc t):=by
 have AY:=@Ls P w K mg AG t T;refine T.De.ok Fj (λvs H Q E h=>?_) (λDM A AR s H vs Q E hr h=>?_)
 .obtain⟨_,_,_,_,_,_,_,rfl,_⟩:=h;rfl
 obtain⟨f,n,m,dx,pl,rl,as,rfl,hf,hl,q⟩:=h;refine⟨_,(AE (Bv (Cy M0 (pv 1) (pv 2) (Cn _)) (AI (AV (Mb M0 (pv 1) (An rfl T.Fc) (Cn _)))) Ax)
  (AI (AV (CO (ASJ rfl) rfl T.dR ASR (AA (So rfl Fj.nd (ZW (I0 (AA (pv 1) (AA (pv 2) AF)))) (IW (own:=[("number",3)]) (by rfl)) (λ_ _ _ _ _=>(BU (i:=3) Fj.nd rfl (qh rfl))) (λ_ _ _ _ _=>U9) (λ_ _ _ _ _=>(AUL (Mb M0 (pv 3) (An rfl T.Fc) (Cn _)) (Vw (Aj (pv 0) T.AX T.A7 AY hr.m T.BI .nil AS (AA (pv 3) AF)))))) AF))))),?_⟩
 clear AY
 z_go
 by_cases k:n=m
 .rw[η (zqt k)];have z:=q H (.refl H);unfold Zc at z;rw[η k] at z;exact z
 rw[ζ (λz=>k (zod z))];intro p hp;refine⟨⟨_,J1.of AD⟩,λD hD=>?_⟩;refine AOe (xs:=[.int n,.int m]) (λv=>match v with|.int i=>some (.bl (decide (i=0\/(1<=i/\i<=as.length))))|_=>none) hD (J1.of AD) (by simp) (λx hx H' s' N hN=>?_) ?_
 .obtain⟨i,rfl⟩:∃i,x=.int i:=by simp only[pM,rO,or_false] at hx;rcases hx with rfl|rfl<;>exact⟨_,rfl⟩
  have s2:=(AM.new hp).trans s';have ZD:=s2 _ _ hf;have iT:=s2 _ _ hl;clear hx
  z_go
  by_cases c:i=0
  .rw[η (zqt c)];simpa[c] using hN
  .rw[ζ (λz=>c (zod z))];simpa[c] using hN
 .have z:=q _ ((AM.new hp).trans (AM.new hD):AM H (upd (upd H p (HO.tup [V.int n,V.int m])) D (HO.lst [.bl (decide (n=0\/(1<=n/\n<=as.length))),.bl (decide (m=0\/(1<=m/\m<=as.length)))])));refine⟨[decide (n=0\/(1<=n/\n<=as.length)),decide (m=0\/(1<=m/\m<=as.length))],Er.of AD,?_⟩;unfold Zc at z;rw[ζ k] at z;rw[Bool.decide_and] at z;simpa using z
theorem Cj.push{H H':Hp}{l:e_}{F:FA}(A:Cj t H l F){a dx pa : Ξ}{p:yW}(hn:H a=none)(hnp:H pa=none)
  (ho:H' F.pl=some (.lst ((F.as++[a]).map V.ref))) (hk:∀b o,H b=some o->b≠F.pl->H' b=some o) (ha:H' a=some (.ins t.Au dx (A4 (.ref pa) (Rh p.died) (aO p.spouse)))) (kG:H' pa=some (.lst (ZJ p.parents))):
  Cj t H' {l with persons:=l.persons++[p]} {F with as:=F.as++[a],Y8:=F.Y8++[pa]}/\NO H H' F {F with as:=F.as++[a],Y8:=F.Y8++[pa]}:=by
 have nf:F.f≠F.pl:=D5 A.obj A.lst (by intro z;cases z);have nr:F.rl≠F.pl:=D5 A.Rm A.lst (by intro z;cases z);have na:a∉F.as:=λm=>by obtain⟨j,hj⟩:=uW.mp m;obtain⟨_,_,_,h1,_⟩:=A.ZX j a hj;rw[hn] at h1;cases h1
 have af:F.pl≠pa:=λe=>by have:=A.lst;rw[e,hnp] at this;cases this
 refine⟨⟨hk _ _ A.obj nf,ho,?_,?_,λj b hb=>?_,hk _ _ A.Rm nr,λb hb=>?_,λm=>?_⟩,⟨λb o h nb=>hk b o h λe=>nb (by rw[e];exact θ _ (υ ..)),λb hb=>?_,λb hb=>?_⟩⟩
 .refine vV.mpr ⟨A.nd,by simp,λx hx y hy=>?_⟩;have:y=a:=by simpa using hy
  subst this;rintro rfl;exact na hx
 .simp[A.len]
 .rw[AHM];by_cases e:j=l.persons.length
  .rw[η e];have:b=a:=by have Jg:(F.as++[a])[j]?=some b:=hb;rw[e,<-A.len] at Jg;simpa using Jg.symm
   subst this;exact⟨dx,pa,p9 _ (υ ..),ha,kG⟩
  .rw[ζ e];have Jg:(F.as++[a])[j]?=some b:=hb;have hj:j<F.as.length:=by have:=(l_.mp Jg).1;rw[pP,tD] at this;have:=A.len;omega
   rw[sF hj] at Jg;obtain⟨i6,jm,m',h1,h2⟩:=A.ZX j b Jg;exact⟨i6,jm,qT _ m',hk _ _ h1 (D5 h1 A.lst (by intro z;cases z)),hk _ _ h2 λe2=>A.UB (e2▸m')⟩
 .rcases pT.mp hb with z|z
  .obtain⟨xs,hx⟩:=A.Uv b z;exact⟨xs,hk _ _ hx λe=>A.UB (e▸z)⟩
  .have:b=pa:=by simpa using z
   rw[this];exact⟨_,kG⟩
 .rcases pT.mp m with z|z
  .exact A.UB z
  .exact af (by simpa using z)
 .have Jg:b∈F.f::F.pl::F.rl::((F.as++[a])++(F.Y8++[pa])):=hb;simp only[pM,pT,rO,or_false] at Jg;have up:∀c,c∈F.as++F.Y8->c∈own F:=λc hc=>θ _ (θ _ (θ _ hc));rcases Jg with z|z|z|(z|z)|(z|z)
  .exact .inl (by rw[z];exact υ ..)
  .exact .inl (by rw[z];exact θ _ (υ ..))
  .exact .inl (by rw[z];exact θ _ (θ _ (υ ..)))
  .exact .inl (up b (qT _ z))
  .rw[z];exact .inr hn
  .exact .inl (up b (p9 _ z))
  .rw[z];exact .inr hnp
 .cases e:H b with
  |none=>rfl
  |some o=>
   by_cases n:b=F.pl
   .rw[n,ho] at hb;cases hb
   .rw[hk b o e n] at hb;cases hb
theorem AL0{n d m:Nat}:Zc (n:Int) (d:Int) ((m:Nat):Int)=true↔¬ (m<n\/m<d\/(n≠0/\n=d)):=by
 unfold Zc;split
 .rw[decide_eq_true_eq];omega
 .rw[decide_eq_true_eq];omega
def Kq:List Nat->uH
 |[n,d]=>.person n d
 |_=>.begins
theorem AIa(T:Txt K mg t):A2 P w K mg AG FI 3 t.CI t.DF ["self","one","other"] (jK t 2 Kq):=by
 have AAT:=@AEq P w K mg AG t T;have AED:=@AHU P w K mg AG t T;refine T.Fb.ok Hv (λvs H Q E h=>?_) (λDM A AR s H vs Q E hr h=>?_)
 .obtain⟨F,l,ns,rfl,hl,_⟩:=h;rw[o_,χ,hl];rfl
 obtain⟨F,l,ns,rfl,hn,g,fa,q⟩:=h;obtain⟨n,d,rfl⟩:=aC hn;refine⟨_,(AE (Bv (Gf (CD (Aj (pv 0) T.AX T.Fq AAT hr.m T.AAM .nil AS (AA (pv 1) (AA (pv 2) AF))))) (AI (AV (An rfl T.Bg))) Ax)
  (AE (Bv (Cy M0 (CO FH rfl T.Ks IV (AA (Mz (pv 0) rfl) AF)) (An rfl T.ADK) (Cn _)) (AI (AV (An rfl T.Uc))) Ax)
  (AE (FN (Vz rV tM tL OV (Mz (pv 0) rfl) (AA (Sn T.UJ AED hr.m rfl T.AJt T.ADU .nil AS (AA (So rfl Hv.nd (ZW (I0 (AA (pv 1) (AA (pv 2) AF)))) (IW (own:=[("number",3)]) (by rfl)) (λ_ _ _ _ _=>(BU (i:=3) Hv.nd rfl (qh rfl))) (λ_ _ _ _ _=>(O7 (Cy W8 (pv 3) (An rfl T.Fc) (Cn _)))) (λ_ _ _ _ _=>(pv 3))) AF)) AF)))
  (AI (AV (CO FH rfl T.Ks IV (AA (Mz (pv 0) rfl) AF))))))),?_⟩
 clear AAT AED;have o1:=fa.obj;have o2:=fa.lst;unfold ABc AC0
 z_go
 intro H1 s1;have W3:=fa.same s1;have Up:NO H H1 F F:=.same s1;clear o1 o2;have o1:=W3.obj;have o2:=W3.lst;rw[χ];have hl:=fa.len;by_cases k:l.persons.length<n\/l.persons.length<d\/(n≠0/\n=d)
 .rw[η (by have:¬ Zc (n:Int) (d:Int) ((F.as.length:Nat):Int)=true:=λz=>AL0.mp z (by rw[hl];exact k);simpa using this)]
  have e:f_ l (Kq [n,d])=(l,qJ (-2)):=η k;rw[e] at q;exact q H1 F rfl W3 Up
 have mb:Zc (n:Int) (d:Int) ((F.as.length:Nat):Int)=true:=AL0.mpr (by rw[hl];exact k);rw[mb,ζ (by exact Λ)];clear hl mb
 z_go
 rw[χ];have hl:=fa.len;by_cases k2:16<=l.persons.length
 .have GV:=g.GV;rw[η (zqt (by omega))];have e:f_ l (Kq [n,d])=(l,qJ (-5)):=(ζ k).trans (η k2);rw[e] at q;exact q H1 F rfl W3 Up
 rw[ζ (λz=>by have:=zod z;omega)]
 z_go
 refine⟨.inl ⟨rfl,_,Er.of o2⟩,λp hp=>⟨⟨_,J1.of AD⟩,λD hD=>?_⟩⟩;have s2:AM H1 (upd H1 p (HO.tup [V.int n,V.int d])):=AM.new hp;refine AOe (xs:=[.int n,.int d]) (λv=>if v=.int 0 then none else some v) hD (J1.of AD) (by simp) (λx hx H' s' N hN=>?_) ?_
 .obtain⟨i,rfl⟩:∃i,x=.int i:=by simp only[pM,rO,or_false] at hx;rcases hx with rfl|rfl<;>exact⟨_,rfl⟩
  clear hx;clear o1 o2 hp hD hl
  z_go
  by_cases c:i=0
  .simpa[c] using hN
  .simpa[c] using hN
 .intro x dx hx ZE ndx;have s3:AM (upd H1 p (HO.tup [V.int n,V.int d])) (upd (upd H1 p (HO.tup [V.int n,V.int d])) D (.lst (List.filterMap (λv=>if v=.int 0 then none else some v) [V.int n,V.int d]))):=AM.new hD;have jL:=s2.trans s3;generalize hL:List.filterMap (λv=>if v=V.int 0 then none else some v) [V.int n,V.int d]=L at *;generalize hH3:upd (upd H1 p (HO.tup [V.int n,V.int d])) D (HO.lst L)=H3 at *;have mE:H3 D=some (.lst L):=by rw[<-hH3,AD]
  have AXb:x≠dx:=qk ndx;have s4:AM H3 (upd (upd H3 dx (HO.own x)) x (HO.ins t.Au dx (A4 (V.ref D) V.Es (V.int 0)))):=(AM.new ZE).trans (AM.new (by rw[AH AXb];exact hx));generalize hH5:upd (upd H3 dx (HO.own x)) x (HO.ins t.Au dx (A4 (V.ref D) V.Es (V.int 0)))=H5 at *;have hx5:H5 x=some (HO.ins t.Au dx (A4 (V.ref D) V.Es (V.int 0))):=by rw[<-hH5,AD]
  have f9:=jL.trans s4;have kZ:=W3.same f9;have nf:F.f≠F.pl:=D5 kZ.obj kZ.lst (by intro z;cases z);have nx:x≠F.pl:=D5 hx5 kZ.lst (by intro z;cases z);have nh:H1 x=none:=jL.free hx;have kU:H1 D=none:=s2.free hD;have nD:D≠F.pl:=λz=>by rw[z,W3.lst] at kU;cases kU
  refine⟨_,kZ.lst,(by rw[χ,hl];exact pN g.GV (by lk)),_,_,_,(by rw[AH nf];exact kZ.obj),T.AX,T.KS,_,ACS _ _,_,rfl,_,AD,?_⟩;have e:f_ l (Kq [n,d])=({l with persons:=l.persons++[⟨(if n=0 then[] else[n-1])++(if d=0 then[] else[d-1]),none,none⟩]},qJ ((l.persons.length:Int)+1)):=(ζ k).trans (ζ k2);rw[e] at q;have em:(F.as.map V.ref++[V.ref x])=(F.as++[x]).map V.ref:=by rw[se];rfl
  have el:(((F.as.map V.ref++[V.ref x]).length:Nat):Int)=(l.persons.length:Int)+1:=by rw[em,χ,pP,hl];rfl
  rw[el,em];obtain⟨z1,z2⟩:=W3.push (H':=upd H5 F.pl (HO.lst ((F.as++[x]).map V.ref))) (p:=⟨(if n=0 then[] else[n-1])++(if d=0 then[] else[d-1]),none,none⟩) (dx:=dx) (pa:=D) nh kU AD (λb o hb nb=>by rw[AH nb];exact f9 b o hb) (by rw[AH nx];exact hx5) (by
   rw[AH nD];refine(s4 _ _ mE).trans ?_;rw[<-hL];unfold ZJ;by_cases c1:n=0<;>by_cases c2:d=0
   .simp[c1,c2]
   .have:((d-1:Nat):Int)+1=d:=by omega
    simp[c1,c2,this]
   .have:((n-1:Nat):Int)+1=n:=by omega
    simp[c1,c2,this]
   .have h1:((n-1:Nat):Int)+1=n:=by omega
    have h2:((d-1:Nat):Int)+1=d:=by omega
    simp[c1,c2,h1,h2])
  exact q _ {F with as:=F.as++[x],Y8:=F.Y8++[D]} rfl z1 (Up.trans z2)
def BH(K : ξ)(H:Hp)(v:V)(p:Nat×Nat):Prop:=∃a,v=.ref a/\J1 K H a [.int (p.1:Nat),.int (p.2:Nat)]
abbrev Td(K : ξ)(H:Hp):List V->List (Nat×Nat)->Prop:=sG (BH K H)
theorem BH.same{H H':Hp}{v:V}{p:Nat×Nat}(h:BH K H v p)(s:AM H H'):BH K H' v p:=let ⟨a,e,q⟩:=h;⟨a,e,s.tup q⟩
theorem Td.same{H H':Hp}{vs:List V}{ps:List (Nat×Nat)}(h:Td K H vs ps)(s:AM H H'):Td K H' vs ps:=Paired.SA h λ_ _ q=>q.same s
def AG6(K : ξ):Sp:=λvs H Q _=>∃v p,vs=[v]/\BH K H v p/\Q (.bl (qO p)) H
theorem AHV(T:Txt K mg t):A2 P w K mg AG FI 1 t.Fv t.HC ["fraction"] (AG6 K):=by
 refine T.EY.ok Mr (λvs H Q E h=>?_) (λDM A AR s H vs Q E hr h=>?_)
 .obtain⟨_,_,rfl,_⟩:=h;rfl
 obtain⟨_,p,rfl,⟨a,rfl,hp⟩,q⟩:=h;refine⟨_,(AE (Al (i:=1) Mr.nd rfl (qh rfl) (A9 Zm (pv 0) Ac (λ_ _=>rfl)))
  (AE (Al (i:=2) Mr.nd rfl (qh rfl) (A9 Zm (pv 0) Ac (λ_ _=>rfl)))
  (AI (AV (Xs (ALc W9 W9 Ac (pv 2) (An rfl T.ACE)) (Vw (Mb W9 (pv 1) (pv 2) (Cn _)))))))),?_⟩
 z_go
 refine⟨_,hp,_,Ol _ _,?_⟩
 z_go
 refine⟨_,hp,_,MV _ _ _,?_⟩
 z_go
 unfold qO at q;by_cases h1:1<=p.2
 .by_cases h2:p.2<=100
  .have e1:decide ((1:Int)<=(p.2:Int))=true:=zqt (by omega);have e2:decide ((p.2:Int)<=100)=true:=zqt (by omega);simp only[e1,e2,η];rw[zqt h1,zqt h2,sf,sf] at q;have e3:decide ((p.1:Int)<=(p.2:Int))=decide (p.1<=p.2):=by simp
   rw[e3];exact q
  .have e1:decide ((1:Int)<=(p.2:Int))=true:=zqt (by omega);have e2:decide ((p.2:Int)<=100)=false:=zdf (by omega);rw[zqt h1,zdf h2] at q;simp only[e1,e2,η,uR,if_false];exact q
 .have e1:decide ((1:Int)<=(p.2:Int))=false:=zdf (by omega);rw[zdf h1] at q;simp only[e1,uR,if_false];exact q
def AGG(t:Ad):Sp:=λvs H Q _=>∃a dx x y z,vs=[.ref a,x,y,z]/\H a=some (.ins t.JP dx [])/\Q .Es (upd H a (.ins t.JP dx (Qz x y z)))
theorem AGL(T:Txt K mg t):A2 P w K mg AG FI 1 t.Jk t.LW ["self","steps_in","kept_part","spouse_parts"] (AGG t):=by
 refine T.Nc.ok ALQ (λvs H Q E h=>?_) (λDM A AR s H vs Q E hr h=>?_)
 .obtain⟨_,_,_,_,_,rfl,_⟩:=h;rfl
 obtain⟨a,dx,x,y,z,rfl,hp,q⟩:=h;refine⟨_,(AE (Dh (pv 0) (pv 1) rfl)
  (AE (Dh (pv 0) (pv 2) rfl)
  (AI (Dh (pv 0) (pv 3) rfl)))),?_⟩
 z_go
def MW(t:Ad)(K : ξ)(H:Hp)(a dx Eu : Ξ)(l:e_):Prop:=∃kp SY k ss,H a=some (.ins t.JP dx (Qz (.int (if l.stepsIn=true then 1 else 0)) kp (.ref Eu)))/\BH K H kp k/\H Eu=some (.lst SY)/\Td K H SY ss /\
 l.kept=sO k.1 k.2/\qO k=true/\l.spouse=ss.map (λx=>sO x.1 x.2)/\ss.all qO=true/\ss.length=5
theorem MW.same{H H':Hp}{a dx Eu : Ξ}{l:e_}(h:MW t K H a dx Eu l)(s:AM H H'):MW t K H' a dx Eu l:=by obtain⟨kp,SY,k,ss,h1,h2,h3,h4,r⟩:=h;exact⟨kp,SY,k,ss,s _ _ h1,h2.same s,s _ _ h3,h4.same s,r⟩
theorem AM.make{H:Hp}{x dx : Ξ}{o:HO}(hx:H x=none)(hd:H dx=none)(n:dx≠x):AM H (upd (upd H dx (.own x)) x o):=(AM.new hd).trans (AM.new (by rw[AH (qk n)];exact hx))
def AEm(t:Ad)(K : ξ):Sp:=λvs H Q _=>vs=[]/\∀a dx Eu H',AM H H'->H a=none->H Eu=none->MW t K H' a dx Eu ve->Q (.ref a) H'
theorem AKV(T:Txt K mg t):A2 P w K mg AG FI 3 t.Eb t.GQ [] (AEm t K):=by
 have NR:=@AGL P w K mg AG t T;refine T.G2.ok AGV (λvs H Q E h=>?_) (λDM A AR s H vs Q E hr h=>?_)
 .obtain⟨rfl,_⟩:=h;rfl
 obtain⟨rfl,q⟩:=h;refine⟨_,(AI (AV (Sn T.X3 NR hr.m rfl T.Zb T.Qv .nil AS (AA (An rfl T.AA1) (AA (El rfl T.AAh) (AA (Ju AFE rfl T.SO Rc (AA (El rfl T.AAR) AF)) AF)))))),?_⟩;clear NR;unfold AGG
 z_go
 refine⟨_,.inr (T.AAO H),λl hl x dx hx ZE nd=>?_⟩;have s1:AM H (upd H l (HO.lst [.ref t.BG,.ref t.BF,.ref t.BE,.ref t.BD,.ref t.BC])):=AM.new hl;have s2:=AM.make (o:=HO.ins t.JP dx (Qz (V.int 1) (V.ref t.BW) (V.ref l))) hx ZE nd;refine q x dx l _ (s1.trans s2) (s1.free hx) hl ⟨.ref t.BW,_,(1,2),[(1,4),(1,2),(3,4),(1,1),(1,1)],AD,⟨_,rfl,T.AAe _⟩,s2 _ _ AD,?_,by lk,by lk,by lk,by lk,rfl⟩;exact .cons ⟨_,rfl,T.AAG _⟩ (.cons ⟨_,rfl,T.AAF _⟩ (.cons ⟨_,rfl,T.AAE _⟩ (.cons ⟨_,rfl,T.AAD _⟩ (.cons ⟨_,rfl,T.AAC _⟩ .nil))))
theorem Paired.mem{α β:Type}{F:α->β->Prop}:∀{l:List α}{m:List β},sG F l m->∀x∈l,∃y,y∈m/\F x y
 |_,_,.nil,x,h=>by cases h
 |_,_,.cons r t,x,h=>by
  rcases pM.mp h with e|e
  .subst e;exact⟨_,υ ..,r⟩
  .obtain⟨y,hy,q⟩:=Paired.mem t x e;exact⟨y,θ _ hy,q⟩
theorem Paired.at{α β:Type}{F:α->β->Prop}:∀{l:List α}{m:List β}{i:Nat}{x:α}{y:β},sG F l m->l[i]?=some x->m[i]?=some y->F x y
 |_,_,_,_,_,.nil,h,_=>by simp at h
 |_,_,0,_,_,.cons r _,h,h'=>by simp at h h';subst h;subst h';exact r
 |_,_,i+1,_,_,.cons _ t,h,h'=>Paired.at (i:=i) t (by simpa using h) (by simpa using h')
def AM5(K : ξ):Sp:=λvs H Q _=>∃kp Eu SY k ss,vs=[kp,.ref Eu]/\BH K H kp k/\H Eu=some (.lst SY)/\Td K H SY ss/\ss.length<=1000/\∀H',AM H H'->Q (.bl (decide (ss.length=5)&&(qO k&&ss.all qO))) H'
theorem ANF(T:Txt K mg t):A2 P w K mg AG FI 2 t.Fw t.HD ["kept_part","spouse_parts"] (AM5 K):=by
 have HP:=@AHV P w K mg AG t T;refine T.IJ.ok Ms (λvs H Q E h=>?_) (λDM A AR s H vs Q E hr h=>?_)
 .obtain⟨_,_,_,_,_,rfl,_⟩:=h;rfl
 obtain⟨kp,Eu,SY,k,ss,rfl,hk,hs,hf,hz,q⟩:=h;refine⟨_,(AE (Bv (PW.pt (Pq (Cy W8 (CO FH rfl T.Ks IV (AA (pv 1) AF)) (An rfl T.RZ) (Cn _)) (O6 (Gf (CD (Af HP hr.m rfl T.Ka T.EY.kp T.Kr .nil AS (AA (pv 0) AF))))))) (AI (AV V0)) Ax)
  (AI (AV (CO (ASJ rfl) rfl T.dR ASR (AA (So rfl Ms.nd (AON (pv 1)) (IW (own:=[("fraction",2)]) (by rfl)) (λ_ _ _ _ _=>(BU (i:=2) Ms.nd rfl (qh rfl))) (λ_ _ _ _ _=>U9) (λ_ _ _ _ _=>(Af HP hr.m rfl T.Ka T.EY.kp T.Kr .nil AS (AA (pv 2) AF)))) AF))))),?_⟩
 clear HP;unfold AG6;have len:SY.length=ss.length:=hf.length
 z_go
 by_cases c5:ss.length=5
 .rw[ζ (by rw[zqt (show(ss.length:Int)=5 by omega)];exact Λ)];rw[zqt c5,sf] at q;refine⟨k,hk,?_⟩;cases ek:qO k with
  |false=>rw[η (show(!false)=true from rfl)];rw[ek,sZ] at q;exact q H (.refl H)
  |true=>
   rw[ζ (show¬ (!true)=true from Λ)];rw[ek,sf] at q;refine⟨⟨_,Er.of hs⟩,λD hD=>?_⟩;refine PR SY ss (λ_ p o=>o=some (.bl (qO p))) len (λH' s'=>CV (Er.of (s' _ _ hs))) (by omega) hD (λ_ _ _ _ _ _ _ r=>r) (λi x p hx hp H' s' N hN=>?_) (λH' ys s' hy sel=>?_)
   .have fx:=(Paired.at hf hx hp).same s';clear q hf hk hs
    z_go
    exact⟨p,fx,hN _ H' (.refl _) rfl⟩
   .have e:=Sel.AWV (f:=λp=>V.bl (qO p)) sel;refine⟨ss.map qO,Er.of (by rw[hy,e,p6];rfl),?_⟩;rw[yP];exact q H' s'
 .rw[η (by rw[zdf (show¬ (ss.length:Int)=5 by omega)];rfl)];rw[zdf c5,sZ] at q;exact q H (.refl H)
def pairUp:List Nat->List (Nat×Nat)
 |a::b::r=>(a,b)::pairUp r
 |_=>[]
theorem AJl:∀(ns:List Nat) (i:Nat) (p:Nat×Nat),(pairUp ns)[i]?=some p->ns[2*i]?=some p.1/\ns[2*i+1]?=some p.2
 |[],i,p,h=>by simp[pairUp] at h
 |[a],i,p,h=>by simp[pairUp] at h
 |a::b::r,0,p,h=>by have e:(a,b)=p:=j_ h;subst e;exact⟨rfl,rfl⟩
 |a::b::r,i+1,p,h=>by
  have h':(pairUp r)[i]?=some p:=h;obtain⟨h1,h2⟩:=AJl r i p h';have e1:2*(i+1)=2*i+2:=by omega
  rw[e1];exact⟨h1,h2⟩
theorem R3:∀(ns:List Nat),(pairUp ns).length=ns.length/2
 |[]=>rfl
 |[a]=>by show 0=1/2;rfl
 |a::b::r=>by show(pairUp r).length+1=(r.length+2)/2;rw[R3 r];omega
def Aq(ns:List Nat):List V:=ns.map λn=>V.int (n:Nat)
theorem AOo{ns:List Nat}{i n:Nat}{z:Int}(h:ns[i]?=some n)(e:z=(i:Int)):WY (Aq ns) z=some (.int (n:Nat)):=by refine at_of e ?_;unfold Aq;rw[m_,h];rfl
theorem rgS{n:Nat}(h:n<=1000)(e:n%2=0):tZ 0 (n:Int) 2=((n/2:Nat):Int):=by unfold tZ;rw[η (by lk)];split<;>omega
theorem fitsLong{i:Int}(h1 : -100000<=i)(h2:i<=100000):Builtin.Range.rangeFitsLong i=true:=by unfold Builtin.Range.rangeFitsLong;simp only[qm,decide_eq_true_eq];omega
theorem rg2{n:Nat}(h:n<=1000)(e:n%2=0):RgC 0 (n:Int) 2 (n/2):=by refine⟨by lk,by lk,?_,rgS h e⟩;unfold Builtin.Range.small;rw[rgS h e,fitsLong (i:=0) (by lk) (by lk),fitsLong (i:=(n:Int)) (by omega) (by omega),fitsLong (i:=2) (by lk) (by lk),fitsLong (i:=((n/2:Nat):Int)) (by omega) (by omega),η (by lk),fitsLong (i:=(n:Int)+(2-1)) (by omega) (by omega),Bool.or_true];rfl
def AQi(K : ξ):Sp:=λvs H Q _=>∃a ns,vs=[.ref a]/\Er K H a (Aq ns)/\ns.length%2=0/\ns.length<=1000/\∀D H' ys,AM H H'->H D=none->H' D=some (.lst ys)->Td K H' ys (pairUp ns)->Q (.ref D) H'
theorem ARK(T:Txt K mg t):A2 P w K mg AG FI 1 t.Pb t.RW ["numbers"] (AQi K):=by
 refine T.Qi.ok Vh (λvs H Q E h=>?_) (λDM A AR s H vs Q E hr h=>?_)
 .obtain⟨_,_,rfl,_⟩:=h;rfl
 obtain⟨a,ns,rfl,ha,he,hz,q⟩:=h;refine⟨_,(AI (AV (So rfl Vh.nd (APS rfl T.VT (AA Ac (AA (CO (OB K rfl) rfl T.Ks IV (AA (pv 0) AF)) (AA Ac AF)))) (IW (own:=[("at",1)]) (by rfl)) (λ_ _ _ _ _=>(BU (i:=1) Vh.nd rfl (qh rfl))) (λ_ _ _ _ _=>U9) (λ_ _ _ _ _=>(I0 (AA (A9 (S9 K rfl) (pv 0) (pv 1) (λ_ _=>rfl)) (AA (A9 (S9 K rfl) (pv 0) (F0 O9 (pv 1) Ac) (λ_ _=>rfl)) AF))))))),?_⟩
 z_go
 have len:(Aq ns).length=ns.length:=by unfold Aq;rw[χ]
 refine⟨_,.inl ha,ns.length/2,?_,λD hD=>?_⟩
 .rw[len];exact rg2 hz he
 .refine PR (steps 0 2 (ns.length/2)) (pairUp ns) (λH p o=>∃b,o=some (.ref b)/\H b=some (.tup [.int (p.1:Nat),.int (p.2:Nat)])) (by rw[G7,R3]) (λH' s'=>AKM) (by rw[G7];omega) hD ?_ (λi x p hx hp H' s' N hN=>?_) (λH' ys s' hy sel=>?_)
  .rintro H1 H2 ys p o hl sx ⟨b,e,hb⟩;exact⟨b,e,sx b _ (D5 hb hl (by intro z;cases z)) hb⟩
  .have hi:i<ns.length/2:=by have:=(l_.mp hx).1;rw[G7] at this;exact this
   rw[QE hi] at hx;obtain rfl:=j_ hx;obtain⟨p1,p2⟩:=AJl ns i p hp;have a1:WY (Aq ns) (0+(i:Nat)*2)=some (.int (p.1:Nat)):=AOo p1 (by omega);have a2:WY (Aq ns) (0+(i:Nat)*2+1)=some (.int (p.2:Nat)):=AOo p2 (by omega);clear q hx hp he hz len;have YJ:=s'.seq ha
   z_go
   refine⟨_,YJ,_,a1,_,YJ,_,a2,?_⟩;intro b hb;exact hN _ _ (AM.new hb) ⟨b,rfl,AD⟩
  .exact q D H' ys s' hD hy (Sel.all (λp o ⟨b,e,hb⟩=>⟨_,e,b,rfl,J1.of hb⟩) sel)
theorem AHA{n:Nat}(h:n<2^N0):Builtin.Int.intBits ((n:Nat):Int)<=N0:=PySem.intBits_le_iff.mpr (by rw[Int.natAbs_natCast];exact h)
theorem Pr{a b:Nat}(ha:a<2^N0)(hb:b<2^N0):IntMulOk (a:Int) (b:Int):=IntMulOk.of_le (AHA ha) (AHA hb) (by lk)
def tupQ(x:pO):HO:=.tup [.int (x.n:Nat),.int (x.d:Nat)]
def aK(p:Nat×Nat):Prop:=p.1<2^N0/\p.2<2^N0
abbrev qp(x:pO):Nat×Nat:=(x.n,x.d)
abbrev qo(p:Nat×Nat):pO:=sO p.1 p.2
theorem BH.tup{H:Hp}{a : Ξ}{x:pO}(h:H a=some (tupQ x)):BH K H (.ref a) (qp x):=⟨a,rfl,J1.of h⟩
def Ve:Sp:=λvs H Q _=>∃a b:Nat,vs=[.int (a:Nat),.int (b:Nat)]/\0<b/\∀r,H r=none->Q (.ref r) (upd H r (tupQ (sO a b)))
theorem Xy(hP:P.given.tree=none)(T:Txt K mg t):A2 P w K mg AG FI 34 t.C4 t.Dr ["above","below"] Ve:=by
 refine T.Bw.ok Bu (λvs H Q E h=>?_) (λDM A AR s H vs Q E hr h=>?_)
 .obtain⟨_,_,rfl,_⟩:=h;rfl
 obtain⟨a,b,rfl,hb,q⟩:=h;refine⟨_,(AE (Al (i:=2) Bu.nd rfl (qh rfl) (pv 1))
  (AE (Al (i:=3) Bu.nd rfl (qh rfl) (pv 0))
  (AE (Vr qA (Cy W8 (pv 3) Ac (Cn _)) (AE (Al (i:=4) Bu.nd rfl (qh rfl) (F0 AU7 (pv 2) (pv 3)))
   (AE (Al (i:=2) Bu.nd rfl (qh rfl) (pv 3))
   (AI (Al (i:=3) Bu.nd rfl (qh rfl) (pv 4))))))
  (AI (AV (I0 (AA (F0 (ALg (ALZ Bu hP).eB hr (by lk)) (pv 0) (pv 2)) (AA (F0 (ALg (ALZ Bu hP).eB hr (by lk)) (pv 1) (pv 2)) AF)))))))),?_⟩
 z_go
 refine VY (λσ H'=>H'=H/\∃(x y:Nat) (o:Option V),σ=[some (.int (a:Nat)),some (.int (b:Nat)),some (.int (x:Nat)),some (.int (y:Nat)),o]/\0<x/\uN x y=uN a b)
  (λσ _=>((σ.getD 3 none).bind intD).elim 0 zD) ⟨rfl,b,a,none,rfl,hb,yO b a⟩ ?_ ?_
 .rintro σ H2 ⟨rfl,x,y,o,rfl,hx,hg⟩;refine⟨rfl,_,rfl,?_⟩;by_cases hy:y=0
  .subst hy;rw[ζ (by simp)];have eg:x=uN a b:=by rw[<-hg,Nat.gcd_zero_right]
   have q1:sO a b=⟨a/x,b/x⟩:=by rw[Vq hb,eg]
   clear eg
   z_go
   refine⟨by omega,by omega,λr hr=>?_⟩;have:=q r hr;rw[q1] at this;unfold tupQ at this;dsimp only at this;rw[Int.natCast_ediv,Int.natCast_ediv] at this;exact this
  .dsimp only;rw[η (by simp[hy])]
   z_go
   refine⟨by omega,?_⟩
   z_go
   refine⟨⟨y,rfl,x%y,(Int.natCast_emod x y).symm,by omega,?_⟩,?_⟩
   .rw[<-hg,yO y,<-Nat.gcd_rec,yO]
   .show((x:Int)%(y:Int)).toNat<((y:Nat):Int).toNat
    have:=Nat.mod_lt x (show 0<y by omega);rw[<-Int.natCast_emod];omega
 .intro σ H2 Q1 Q2 hq h;obtain⟨v,e,sc,k,ek,q⟩:=Tz h;exact Tw e ⟨sc,k,ek,hq _ _ q⟩
inductive Tu(K : ξ)(ok:Nat×Nat->Nat×Nat->Prop)(f:Nat×Nat->Nat×Nat->pO)(vs:List V)(H:Hp)(Q:VK)(Xk:XK):Prop
 |mk:∀u v p r,vs=[u,v]->BH K H u p->BH K H v r->0<p.2->0<r.2->aK p->aK r->ok p r->(∀b,H b=none->Q (.ref b) (upd H b (tupQ (f p r))))->Tu K ok f vs H Q Xk
def AUU(p r:Nat×Nat):pO:=sO (p.1*r.2+r.1*p.2) (p.2*r.2)
def Zr(p r:Nat×Nat):pO:=sO (p.1*r.2-r.1*p.2) (p.2*r.2)
def AR4(p r:Nat×Nat):pO:=sO (p.1*r.1) (p.2*r.2)
def AW0(p r:Nat×Nat):pO:=sO (p.1*r.2) (p.2*r.1)
def ASr(K : ξ):Sp:=Tu K (λ_ _=>True) AUU
def AQj(K : ξ):Sp:=Tu K (λp r=>r.1*p.2<=p.1*r.2) Zr
def AQh(K : ξ):Sp:=Tu K (λ_ _=>True) AR4
def AM6(K : ξ):Sp:=Tu K (λ_ r=>0<r.1) AW0
theorem VQ{ok:Nat×Nat->Nat×Nat->Prop}{f:Nat×Nat->Nat×Nat->pO}{vs:List V}{H:Hp}{Q:VK}{E:XK}(h:Tu K ok f vs H Q E):vs.length=2:=by obtain⟨_,_,_,_,rfl,_⟩:=h;rfl
theorem Xw(hP:P.given.tree=none)(T:Txt K mg t):A2 P w K mg AG FI 35 t.SJ t.UW ["one","other"] (ASr K):=by
 have BJ:=@Xy P w K mg AG t hP T;refine T.PY.ok ASu (λvs H Q E h=>VQ h) (λDM A AR s H vs Q E hr h=>?_);obtain⟨_,_,p,r,rfl,⟨a,rfl,ha⟩,⟨b,rfl,hb⟩,d1,d2,s1,s2,_,q⟩:=h;refine⟨_,(AI (AV (Af BJ hr.m rfl T.EX T.Bw.kp T.Eg .nil AS (AA (F0 O9 (F0 JR (A9 (Cm K rfl) (pv 0) Ac (λ_ _=>rfl)) (A9 (Cm K rfl) (pv 1) Ac (λ_ _=>rfl))) (F0 JR (A9 (Cm K rfl) (pv 1) Ac (λ_ _=>rfl)) (A9 (Cm K rfl) (pv 0) Ac (λ_ _=>rfl)))) (AA (F0 JR (A9 (Cm K rfl) (pv 0) Ac (λ_ _=>rfl)) (A9 (Cm K rfl) (pv 1) Ac (λ_ _=>rfl))) AF))))),?_⟩;clear BJ;unfold Ve
 z_go
 refine⟨_,ha,_,Ol _ _,_,hb,_,MV _ _ _,_,rfl,_,rfl,Pr s1.1 s2.2,_,hb,_,Ol _ _,_,ha,_,MV _ _ _,_,rfl,_,rfl,Pr s2.1 s1.2,_,ha,_,MV _ _ _,_,hb,_,MV _ _ _,_,rfl,_,rfl,Pr s1.2 s2.2,p.1*r.2+r.1*p.2,?_,p.2*r.2,?_,p7 d1 d2,q⟩
 .push_cast;rfl
 .push_cast;rfl
theorem V3(hP:P.given.tree=none)(T:Txt K mg t):A2 P w K mg AG FI 35 t.Pc t.RX ["one","other"] (AQj K):=by
 have BJ:=@Xy P w K mg AG t hP T;refine T.Kd.ok AQp (λvs H Q E h=>VQ h) (λDM A AR s H vs Q E hr h=>?_);obtain⟨_,_,p,r,rfl,⟨a,rfl,ha⟩,⟨b,rfl,hb⟩,d1,d2,s1,s2,hle,q⟩:=h;refine⟨_,(AI (AV (Af BJ hr.m rfl T.EX T.Bw.kp T.Eg .nil AS (AA (F0 ARH (F0 JR (A9 (Cm K rfl) (pv 0) Ac (λ_ _=>rfl)) (A9 (Cm K rfl) (pv 1) Ac (λ_ _=>rfl))) (F0 JR (A9 (Cm K rfl) (pv 1) Ac (λ_ _=>rfl)) (A9 (Cm K rfl) (pv 0) Ac (λ_ _=>rfl)))) (AA (F0 JR (A9 (Cm K rfl) (pv 0) Ac (λ_ _=>rfl)) (A9 (Cm K rfl) (pv 1) Ac (λ_ _=>rfl))) AF))))),?_⟩;clear BJ;unfold Ve
 z_go
 refine⟨_,ha,_,Ol _ _,_,hb,_,MV _ _ _,_,rfl,_,rfl,Pr s1.1 s2.2,_,hb,_,Ol _ _,_,ha,_,MV _ _ _,_,rfl,_,rfl,Pr s2.1 s1.2,_,ha,_,MV _ _ _,_,hb,_,MV _ _ _,_,rfl,_,rfl,Pr s1.2 s2.2,p.1*r.2-r.1*p.2,?_,p.2*r.2,?_,p7 d1 d2,q⟩
 .rw[Int.ofNat_sub hle];push_cast;rfl
 .push_cast;rfl
theorem Sv(hP:P.given.tree=none)(T:Txt K mg t):A2 P w K mg AG FI 35 t.Pa t.RV ["one","other"] (AQh K):=by
 have BJ:=@Xy P w K mg AG t hP T;refine T.Ly.ok AQo (λvs H Q E h=>VQ h) (λDM A AR s H vs Q E hr h=>?_);obtain⟨_,_,p,r,rfl,⟨a,rfl,ha⟩,⟨b,rfl,hb⟩,d1,d2,s1,s2,_,q⟩:=h;refine⟨_,(AI (AV (Af BJ hr.m rfl T.EX T.Bw.kp T.Eg .nil AS (AA (F0 JR (A9 (Cm K rfl) (pv 0) Ac (λ_ _=>rfl)) (A9 (Cm K rfl) (pv 1) Ac (λ_ _=>rfl))) (AA (F0 JR (A9 (Cm K rfl) (pv 0) Ac (λ_ _=>rfl)) (A9 (Cm K rfl) (pv 1) Ac (λ_ _=>rfl))) AF))))),?_⟩;clear BJ;unfold Ve
 z_go
 refine⟨_,ha,_,Ol _ _,_,hb,_,Ol _ _,_,rfl,_,rfl,Pr s1.1 s2.1,_,ha,_,MV _ _ _,_,hb,_,MV _ _ _,_,rfl,_,rfl,Pr s1.2 s2.2,p.1*r.1,?_,p.2*r.2,?_,p7 d1 d2,q⟩
 .push_cast;rfl
 .push_cast;rfl
theorem R4(hP:P.given.tree=none)(T:Txt K mg t):A2 P w K mg AG FI 35 t.LS t.Mp ["one","other"] (AM6 K):=by
 have BJ:=@Xy P w K mg AG t hP T;refine T.Ji.ok ANB (λvs H Q E h=>VQ h) (λDM A AR s H vs Q E hr h=>?_);obtain⟨_,_,p,r,rfl,⟨a,rfl,ha⟩,⟨b,rfl,hb⟩,d1,d2,s1,s2,hn,q⟩:=h;refine⟨_,(AI (AV (Af BJ hr.m rfl T.EX T.Bw.kp T.Eg .nil AS (AA (F0 JR (A9 (Cm K rfl) (pv 0) Ac (λ_ _=>rfl)) (A9 (Cm K rfl) (pv 1) Ac (λ_ _=>rfl))) (AA (F0 JR (A9 (Cm K rfl) (pv 0) Ac (λ_ _=>rfl)) (A9 (Cm K rfl) (pv 1) Ac (λ_ _=>rfl))) AF))))),?_⟩;clear BJ;unfold Ve
 z_go
 refine⟨_,ha,_,Ol _ _,_,hb,_,MV _ _ _,_,rfl,_,rfl,Pr s1.1 s2.2,_,ha,_,MV _ _ _,_,hb,_,Ol _ _,_,rfl,_,rfl,Pr s1.2 s2.1,p.1*r.2,?_,p.2*r.1,?_,p7 d1 hn,q⟩
 .push_cast;rfl
 .push_cast;rfl
inductive AN7(K : ξ)(vs:List V)(H:Hp)(Q:VK)(Xk:XK):Prop
 |mk:∀u v p r,vs=[u,v]->BH K H u p->BH K H v r->aK p->aK r->Q (.bl (decide (r.1*p.2<p.1*r.2))) H->AN7 K vs H Q Xk
theorem Xx(T:Txt K mg t):A2 P w K mg AG FI 1 t.LR t.Mn ["one","other"] (AN7 K):=by
 refine T.IK.ok ANA (λvs H Q E h=>?_) (λDM A AR s H vs Q E hr h=>?_)
 .obtain⟨_,_,_,_,rfl,_⟩:=h;rfl
 obtain⟨_,_,p,r,rfl,⟨a,rfl,ha⟩,⟨b,rfl,hb⟩,s1,s2,q⟩:=h;refine⟨_,(AI (AV (Mb Yr (F0 JR (A9 (Cm K rfl) (pv 0) Ac (λ_ _=>rfl)) (A9 (Cm K rfl) (pv 1) Ac (λ_ _=>rfl))) (F0 JR (A9 (Cm K rfl) (pv 1) Ac (λ_ _=>rfl)) (A9 (Cm K rfl) (pv 0) Ac (λ_ _=>rfl))) (Cn _)))),?_⟩
 z_go
 refine⟨_,ha,_,Ol _ _,_,hb,_,MV _ _ _,_,rfl,_,rfl,Pr s1.1 s2.2,_,hb,_,Ol _ _,_,ha,_,MV _ _ _,_,rfl,_,rfl,Pr s2.1 s1.2,?_⟩;have e:decide ((r.1:Int)*(p.2:Int)<(p.1:Int)*(r.2:Int))=decide (r.1*p.2<p.1*r.2):=by
  rw[qV,decide_eq_true_iff,decide_eq_true_iff];constructor
  .intro h;exact_mod_cast h
  .intro h;exact_mod_cast h
 rw[e];exact q
section
variable {α:Type}{R:V->α->Prop}
def Dm(R:V->α->Prop)(kvs:List (Key×V))(d:D α):Prop:=sG (λkv x=>kv.1=pS ((x.1:Nat):Int)/\R kv.2 x.2) kvs d
theorem Dm.mono{R':V->α->Prop}{kvs:List (Key×V)}{d:D α}(h:Dm R kvs d)(f:∀v x,R v x->R' v x):Dm R' kvs d:=Paired.SA h λ_ _ q=>⟨q.1,f _ _ q.2⟩
theorem SG{a b:Nat}:(pS ((a:Nat):Int):Key)=pS ((b:Nat):Int)↔a=b:=by
 constructor
 .intro h;injection h with h;omega
 .rintro rfl;rfl
theorem Dm.len{kvs:List (Key×V)}{d:D α}(h:Dm R kvs d):kvs.length=d.length:=rq h
theorem Dm.W2{kvs:List (Key×V)}{d:D α}(h:Dm R kvs d){n:Nat}(e:BP d n=none):NU kvs (pS ((n:Nat):Int))=none:=by
 unfold Dm at h
 induction h with
 |nil=>rfl
 | @cons kv x kvs d r t ih=>
  have e':(if x.1=n then some x.2 else BP d n)=none:=e;by_cases z:x.1=n
  .rw[η z] at e';cases e'
  .rw[ζ z] at e';rw[OP (by rw[r.1];exact λq=>z (SG.mp q))];exact ih e'
theorem Dm.PX{kvs:List (Key×V)}{d:D α}(h:Dm R kvs d){n:Nat}{x:α}(e:BP d n=some x):∃v,NU kvs (pS ((n:Nat):Int))=some v/\R v x:=by
 unfold Dm at h
 induction h with
 |nil=>cases e
 | @cons kv y kvs d r t ih=>
  have e':(if y.1=n then some y.2 else BP d n)=some x:=e;by_cases z:y.1=n
  .rw[η z] at e';injection e' with e';rw[QA (by rw[r.1];exact SG.mpr z)];exact⟨_,rfl,e'▸r.2⟩
  .rw[ζ z] at e';rw[OP (by rw[r.1];exact λq=>z (SG.mp q))];exact ih e'
theorem Dm.at{kvs:List (Key×V)}{d:D α}(h:Dm R kvs d){i:Nat}{x:Nat×α}(e:d[i]?=some x):∃v,kvs[i]?=some (pS ((x.1:Nat):Int),v)/\R v x.2:=by
 unfold Dm at h
 induction h generalizing i with
 |nil=>simp at e
 | @cons kv y kvs d r t ih=>
  cases i with
  |zero=>simp at e;subst e;exact⟨kv.2,by rw[<-r.1];rfl,r.2⟩
  |succ i=>exact ih (by simpa using e)
theorem APP{p:Key×V}{kvs:List (Key×V)}{k:Key}{v:V}(h:¬ p.1=k):putK (p::kvs) k v=p::putK kvs k v:=by
 unfold putK;rw[sX,zdf h,uE];split
 .rw[k_,ζ h]
 .rfl
theorem Dm.put{kvs:List (Key×V)}{d:D α}(h:Dm R kvs d)(nd:(AJ d).Nodup){n:Nat}{v:V}{x:α}(r:R v x):Dm R (putK kvs (pS ((n:Nat):Int)) v) (dput d n x):=by
 unfold Dm at h ⊢
 induction h with
 |nil=>exact .cons ⟨rfl,r⟩ .nil
 | @cons kv y kvs d q t ih=>
  have P5:=qv.mp nd;unfold dput;by_cases z:y.1=n
  .rw[η z];have:putK (kv::kvs) (pS ((n:Nat):Int)) v=(kv.1,v)::kvs:=by
    unfold putK;rw[sX,zqt (show kv.1=_ by rw[q.1];exact SG.mpr z),wX,η rfl,k_,η (show kv.1=_ by rw[q.1];exact SG.mpr z)];congr 1;have t':Dm R kvs d:=t;have:∀p∈kvs,¬ p.1=(pS ((n:Nat):Int):Key):=by intro p hp e;have:NU kvs (pS ((n:Nat):Int))=none:=t'.W2 (BO.mpr (λhn=>P5.1 (by show y.1∈AJ d;rw[z];exact hn)));have a:=Sb (pS ((n:Nat):Int):Key) kvs;rw[this] at a;have:(kvs.any λkv=>decide (kv.1=(pS ((n:Nat):Int):Key)))=true:=uc.mpr ⟨p,hp,zqt e⟩;rw[this] at a;cases a
    rw[sI (g:=id) λp hp=>by rw[ζ (this p hp)];rfl,ym]
   rw[this];exact .cons ⟨by rw[q.1,z],r⟩ t
  .rw[ζ z,APP (by rw[q.1];exact λe=>z (SG.mp e))];exact .cons q (ih P5.2)
theorem Dm.drop{kvs:List (Key×V)}{d:D α}(h:Dm R kvs d)(n:Nat):Dm R (L4 kvs (pS ((n:Nat):Int))) (Ef d n):=by
 unfold Dm at h ⊢;unfold L4 Ef
 induction h with
 |nil=>exact .nil
 | @cons kv y kvs d q t ih=>
  rw[qB,qB];by_cases z:y.1=n
  .rw[ζ (by rw[q.1];simp[z]),ζ (by simp[z])];exact ih
  .rw[η (by rw[q.1];exact zqt λe=>z (SG.mp e)),η (by simp[z])];exact .cons q ih
theorem Dm.keys{kvs:List (Key×V)}{d:D α}(h:Dm R kvs d):(kvs.map λkv=>kV kv.1)=(AJ d).map λn=>V.int ((n:Nat):Int):=by
 unfold Dm at h
 induction h with
 |nil=>rfl
 | @cons kv y kvs d q t ih=>show kV kv.1::_=V.int ((y.1:Nat):Int)::_;rw[q.1];congr 1
end
def FQ(K : ξ)(H:Hp)(v:V)(x:pO):Prop:=BH K H v (qp x)
abbrev DQ(K : ξ)(H:Hp)(kvs:List (Key×V))(d:D pO):Prop:=Dm (FQ K H) kvs d
def dW:HO->Prop
 |.tup _=>False
 |.DK _ (.tup _)=>False
 |_=>True
theorem AK3{H H':Hp}{a0 a : Ξ}{o:HO}{xs:List V}(sx:Ae a0 H H')(h0:H a0=some o)(n:dW o)(h:J1 K H a xs):J1 K H' a xs:=by
 rcases h with(h|⟨u,h⟩)|h
 .exact .inl (.inl (sx _ _ (λe=>by rw[e,h0] at h;cases h;exact n) h))
 .exact .inl (.inr ⟨u,sx _ _ (λe=>by rw[e,h0] at h;cases h;exact n) h⟩)
 .exact .inr h
theorem BH.A6{H H':Hp}{a0 : Ξ}{o:HO}{v:V}{p:Nat×Nat}(sx:Ae a0 H H')(h0:H a0=some o)(n:dW o)(h:BH K H v p):BH K H' v p:=let ⟨a,e,q⟩:=h;⟨a,e,AK3 sx h0 n q⟩
theorem DQ.same{H H':Hp}{kvs:List (Key×V)}{d:D pO}(h:DQ K H kvs d)(s:AM H H'):DQ K H' kvs d:=Dm.mono h λ_ _ q=>BH.same q s
theorem DQ.A6{H H':Hp}{a0 : Ξ}{o:HO}{kvs:List (Key×V)}{d:D pO}(h:DQ K H kvs d)(sx:Ae a0 H H')(h0:H a0=some o)(n:dW o):DQ K H' kvs d:=Dm.mono h λ_ _ q=>BH.A6 sx h0 n q
theorem _root_.L2.AM.x{H H':Hp}(s:AM H H')(a : Ξ):Ae a H H':=λb o _ h=>s b o h
theorem _root_.L2.Ae.trans{a : Ξ}{H H1 H2:Hp}(x:Ae a H H1)(y:Ae a H1 H2):Ae a H H2:=λb o n h=>y b o n (x b o n h)
theorem _root_.L2.Ae.upd{a : Ξ}{H:Hp}{o:HO}:Ae a H (upd H a o):=λb o' n h=>by rw[AH n];exact h
theorem Jd(T:Txt K mg t)(H:Hp):BH K H (.ref t.Ip) (0,1):=⟨_,rfl,T.AJ1 H⟩
theorem Wa(T:Txt K mg t)(H:Hp):BH K H (.ref t.P0) (1,1):=⟨_,rfl,T.AUP H⟩
theorem Nj{n:Nat}(h:n<4294967296):n<2^N0:=p8 h (show 2^32<=2^N0 from qj (by lk) (by lk))
theorem AOD:aK (0,1):=⟨Nj (by lk),Nj (by lk)⟩
theorem ZO:aK (1,1):=⟨Nj (by lk),Nj (by lk)⟩
theorem ZV{x:pO}{p:Nat×Nat}(hx:Bm x)(hp:0<p.2):AUU (qp x) p=x.add (qo p):=((Is.self hx).add (Is.q hp)).eq.symm
theorem U0{x:pO}{p:Nat×Nat}(hx:Bm x)(hp:0<p.2):AR4 (qp x) p=x.mul (qo p):=((Is.self hx).mul (Is.q hp)).eq.symm
def Mq(x:pO)(ps:List (Nat×Nat)):pO:=ps.foldl (λx p=>x.add (qo p)) x
inductive Vd(K : ξ)(vs:List V)(H:Hp)(Q:VK)(Xk:XK):Prop
 |mk:∀l xs ps,vs=[.ref l]->H l=some (.lst xs)->Td K H xs ps->((∀p∈ps,0<p.2/\aK p))->(∀i,Sm (Mq rT (ps.take i)))->(∀v H',AM H H'->FQ K H' v (Mq rT ps)->Q v H')->Vd K vs H Q Xk
theorem ANz{x:pO}(hx:Bm x):∀{ps:List (Nat×Nat)},(∀p∈ps,0<p.2)->Bm (Mq x ps)
 |[],_=>hx
 |p::ps,h=>ANz (SR hx (Ut (h p (υ ..)))) λr hr=>h r (θ _ hr)
theorem AJW(x:pO)(ps:List (Nat×Nat))(p:Nat×Nat):Mq x (ps++[p])=(Mq x ps).add (qo p):=by unfold Mq;rw[rj];rfl
theorem Su(hP:P.given.tree=none)(T:Txt K mg t):A2 P w K mg AG FI 36 t.PZ t.RT ["fractions"] (Vd K):=by
 have Qy:=@Xw P w K mg AG t hP T;refine T.Lw.ok Sk (λvs H Q E h=>?_) (λDM A AR s H vs Q E hr h=>?_)
 .obtain⟨_,_,_,rfl,_⟩:=h;rfl
 obtain⟨l,xs,ps,rfl,hl,hf,hp,kE,q⟩:=h;refine⟨_,(AE (Al (i:=1) Sk.nd rfl (qh rfl) (El rfl T.Jy))
  (AE (Fo qA rfl (FO K rfl (pv 0)) (BU (i:=2) Sk.nd rfl (qh rfl)) (AI (Al (i:=1) Sk.nd rfl (qh rfl) (Af Qy hr.m rfl T.VH T.PY.kp T.VR .nil AS (AA (pv 1) (AA (pv 2) AF))))))
  (AI (AV (pv 1))))),?_⟩
 clear Qy
 z_go
 refine⟨⟨_,Er.of hl⟩,?_⟩;have len:xs.length=ps.length:=rq hf;refine CP xs (λi σ H'=>AM H H'/\∃v o,σ=[some (.ref l),some v,o]/\FQ K H' v (Mq rT (ps.take i))) ⟨.refl H,_,_,rfl,Jd T H⟩ (λi σ H' ⟨s1,_⟩=>CV (Er.of (s1 _ _ hl))) (λi x σ H' hx ⟨s1,v,o,e,fv⟩=>?_) (λσ H' ⟨s1,v,o,e,fv⟩=>?_)
 .subst e;have hi:i<ps.length:=by rw[<-len];exact(l_.mp hx).1
  have hpi:ps[i]?=some ps[i]:=n_ hi;have fx:=(Paired.at hf hx hpi).same s1;have hm:ps[i]∈ps:=qI hi;have ok0:Bm (Mq rT (ps.take i)):=ANz IZ λp Yi=>(hp p (qY Yi)).1;clear q hf hl hx hpi
  z_go
  refine⟨_,_,_,_,rfl,fv,fx,ok0.1,(hp _ hm).1,kE i,(hp _ hm).2,trivial,λb hb=>?_⟩;refine⟨s1.trans (AM.new hb),?_⟩;rw[CW (n_ hi),AJW,<-ZV ok0 (hp _ hm).1];exact BH.tup AD
 .subst e;rw[len,qL] at fv;exact q v H' s1 fv
inductive Tv(K : ξ)(vs:List V)(H:Hp)(Q:VK)(Xk:XK):Prop
 |mk:∀a n v kvs d p,vs=[.ref a,.int ((n:Nat):Int),v]->H a=some (.dK kvs)->DQ K H kvs d->(AJ d).Nodup->Lc d->d.length<=1000->Sm (Ak d n)->BH K H v p->0<p.2->aK p->(∀H' kvs',Ae a H H'->H' a=some (.dK kvs')->DQ K H' kvs' (Am d n (qo p))->Q .Es H')->Tv K vs H Q Xk
theorem OU(hP:P.given.tree=none)(T:Txt K mg t):A2 P w K mg AG FI 36 t.ND t.Og ["amounts","number","amount"] (Tv K):=by
 have Qy:=@Xw P w K mg AG t hP T;refine T.G9.ok APL (λvs H Q E h=>?_) (λDM A AR s H vs Q E hr h=>?_)
 .obtain⟨_,_,_,_,_,_,rfl,_⟩:=h;rfl
 have hu:=IG hr;obtain⟨a,n,v,kvs,d,p,rfl,ha,hd,nd,ok,hz,kE,fv,hp,sp,q⟩:=h;refine⟨_,(AI (KL hu (pv 0) (pv 1) (Af Qy hr.m rfl T.VH T.PY.kp T.VR .nil AS (AA (Vy hu (pv 0) (pv 1) (El rfl T.Jy) ⟨by rfl,by rfl,by rfl,by rfl⟩) (AA (pv 2) AF))) rfl)),?_⟩;clear Qy
 z_go
 refine⟨.inl ⟨_,.inl ha⟩,?_⟩;have key:∃o,NU kvs (pS ((n:Nat):Int))=o/\BH K H (o.getD (.ref t.Ip)) (qp (Ak d n)):=by
  unfold Ak;cases e:BP d n with
  |none=>exact⟨none,hd.W2 e,Jd T H⟩
  |some x=>obtain⟨u,e1,e2⟩:=hd.PX e;exact⟨some u,e1,e2⟩
 obtain⟨o,eo,fo⟩:=key;refine⟨o,.inl ⟨kvs,pS ((n:Nat):Int),.inl ha,rfl,eo.symm⟩,?_⟩;refine⟨_,_,_,_,rfl,fo,fv,(F8 ok n).1,hp,kE,sp,trivial,λb hb=>?_⟩;rw[ZV (F8 ok n) hp];have s1:AM H (upd H b (tupQ ((Ak d n).add (qo p)))):=AM.new hb;have WL:=s1 _ _ ha;have fr:FQ K (upd H b (tupQ ((Ak d n).add (qo p)))) (.ref b) ((Ak d n).add (qo p)):=BH.tup AD;refine⟨_,P4.k (k:=pS ((n:Nat):Int)) WL (by rw[hd.len];exact pN hz (by lk)),q _ _ ((s1.x a).trans Ae.upd) AD ?_⟩;exact DQ.A6 (Dm.put (DQ.same hd s1) nd fr) Ae.upd WL trivial
inductive AJb(K : ξ)(vs:List V)(H:Hp)(Q:VK)(Xk:XK):Prop
 |mk:∀a l v kvs d ks p,vs=[.ref a,.ref l,v]->H a=some (.dK kvs)->DQ K H kvs d->(AJ d).Nodup->Lc d->d.length+ks.length<=1000->Er K H l (ks.map λ(n:Nat)=>V.int ((n:Nat):Int))->H l≠H a->BH K H v p->0<p.2->aK p->((ks≠[]->Sm ((qo p).div ⟨ks.length,1⟩)))->(∀i n,Sm (Ak ((ks.take i).foldl (λd k=>Am d k ((qo p).div ⟨ks.length,1⟩)) d) n))->(∀H' kvs',Ae a H H'->H' a=some (.dK kvs')->DQ K H' kvs' (addEq d ks (qo p))->Q .Es H')->AJb K vs H Q Xk
theorem dN{p r:Nat×Nat}(hp:0<p.2)(hr:0<r.2)(hn:0<r.1):AW0 p r=(qo p).div (qo r):=by have h1:Is (qo p) p.1 p.2:=Is.q hp;have h2:Is (qo r) r.1 r.2:=Is.q hr;exact(h1.div h2 hn).eq.symm
theorem AUx(c:Nat):qo (c,1)=⟨c,1⟩:=Vo (Lh c)
theorem AMM{b:pO}:∀(ks:List Nat) (d:D pO),(ks.foldl (λd k=>Am d k b) d).length<=d.length+ks.length
 |[],d=>b_ _
 |k::ks,d=>by
  have h1:=AMM (b:=b) ks (Am d k b);have h2:=NY d k ((Ak d k).add b);show(ks.foldl (λd k=>Am d k b) (Am d k b)).length<=d.length+(ks.length+1)
  have h3:(Am d k b).length<=d.length+1:=h2;omega
theorem AJp(hP:P.given.tree=none)(T:Txt K mg t):A2 P w K mg AG FI 37 t.By t.Cd ["amounts","numbers","amount"] (AJb K):=by
 have Ej:=@OU P w K mg AG t hP T;have Jz:=@R4 P w K mg AG t hP T;refine T.CK.ok AAX (λvs H Q E h=>?_) (λDM A AR s H vs Q E hr h=>?_)
 .obtain⟨_,_,_,_,_,_,_,rfl,_⟩:=h;rfl
 obtain⟨a,l,v,kvs,d,ks,p,rfl,ha,hd,nd,ok,hz,hl,jv,fv,hp,sp,sdiv,AXN,q⟩:=h;refine⟨_,(AI (Fo qA rfl (FO K rfl (pv 1)) (BU (i:=3) AAX.nd rfl (qh rfl)) (AI (FN (Af Ej hr.m rfl T.LM T.G9.kp T.LY .nil AS (AA (pv 0) (AA (pv 3) (AA (Af Jz hr.m rfl T.PL T.Ji.kp T.Pf .nil AS (AA (pv 2) (AA (I0 (AA (CO (OB K rfl) rfl T.Ks IV (AA (pv 1) AF)) (AA Ac AF))) AF))) AF)))))))),?_⟩;clear Ej Jz
 z_go
 refine⟨⟨_,hl⟩,?_⟩;have sq:∀{H'},Ae a H H'->Er K H' l (ks.map λ(n:Nat)=>V.int ((n:Nat):Int)):=λ{H'} sx=>by
  rcases hl with(h|⟨o,h⟩)|h
  .exact .inl (.inl (sx _ _ (λe=>jv (by rw[e])) h))
  .exact .inl (.inr ⟨o,sx _ _ (λe=>jv (by rw[e])) h⟩)
  .exact .inr h
 refine CP (ks.map λ(n:Nat)=>V.int ((n:Nat):Int)) (λi σ H'=>Ae a H H'/\∃o kvs',σ=[some (.ref a),some (.ref l),some v,o]/\H' a=some (.dK kvs')/\DQ K H' kvs' ((ks.take i).foldl (λd k=>Am d k ((qo p).div ⟨ks.length,1⟩)) d)) ⟨λb o _ h=>h,_,kvs,rfl,ha,hd⟩ (λi σ H' ⟨sx,_⟩=>CV (sq sx)) (λi x σ H' hx ⟨sx,o,kvs',e,YJ,Et⟩=>?_) (λσ H' ⟨sx,o,kvs',e,YJ,Et⟩=>?_)
 .subst e;have hi:i<ks.length:=by have:=(l_.mp hx).1;rw[χ] at this;exact this
  rw[m_,n_ hi] at hx;obtain rfl:=j_ hx;have oj:=fv.A6 sx ha trivial;have iT:=sq sx;have dp:0<ks.length:=by omega
  have od:Bm ((qo p).div ⟨ks.length,1⟩):=D4 (Ut hp);have sd:=sdiv (λz=>by rw[z] at dp;exact absurd dp (by lk));clear q hd hl ha fv sq
  z_go
  refine⟨_,.inl iT,λb hb=>?_⟩;rw[χ];have s1:AM H' (upd H' b (HO.tup [V.int ((ks.length:Nat):Int),V.int 1])):=AM.new hb;refine⟨_,_,p,(ks.length,1),rfl,oj.same s1,⟨b,rfl,J1.of AD⟩,hp,s_,sp,⟨Nj (by show ks.length<_;omega),Nj (by show 1<4294967296;decide)⟩,dp,λc hc=>?_⟩;rw[dN hp (show 0<((ks.length,1):Nat×Nat).2 from s_) dp,AUx];have s2:AM (upd H' b (HO.tup [V.int ((ks.length:Nat):Int),V.int 1])) (upd (upd H' b (HO.tup [V.int ((ks.length:Nat):Int),V.int 1])) c (tupQ ((qo p).div ⟨ks.length,1⟩))):=AM.new hc;have s3:=s1.trans s2;have fl:=AMM (b:=(qo p).div ⟨ks.length,1⟩) (ks.take i) d;rw[sD] at fl;have qe:qo (qp ((qo p).div ⟨ks.length,1⟩))=(qo p).div ⟨ks.length,1⟩:=Vo od;refine⟨a,ks[i],_,kvs',_,qp ((qo p).div ⟨ks.length,1⟩),rfl,s3 _ _ YJ,DQ.same Et s3,R6 _ _ nd,(fold_add od 0 _ _ ok).1,by omega,AXN i _,BH.tup AD,od.1,sd,λH2 Zh b9 bG hd2=>?_⟩;refine⟨sx.trans ((s3.x a).trans b9),Zh,bG,?_⟩;rw[CW (n_ hi),rj];rw[qe] at hd2;exact hd2
 .subst e;rw[χ,qL] at Et;exact q H' kvs' sx YJ Et
inductive Rr(K : ξ)(vs:List V)(H:Hp)(Q:VK)(Xk:XK):Prop
 |mk:∀a kvs d,vs=[.ref a]->H a=some (.dK kvs)->DQ K H kvs d->(AJ d).Nodup->Lc d->d.length<=1000->(∀x∈d,Sm x.2)->(∀r H' kvs',AM H H'->H r=none->H' r=some (.dK kvs')->DQ K H' kvs' (without d)->Q (.ref r) H')->Rr K vs H Q Xk
theorem AKL(d:D pO)(x:Nat×pO):without (d++[x])=without d++if x.2=rT then[] else[x]:=by
 unfold without;rw[uQ];congr 1;rw[qB,vB];by_cases h:x.2=rT
 .rw[η h,ζ (by simp[h])]
 .rw[ζ h,η (by simpa using h)]
theorem TV{α:Type}{d:D α}{k:Nat}{v:α}(h:k∉AJ d):dput d k v=d++[(k,v)]:=by
 induction d with
 |nil=>rfl
 |cons x d ih=>unfold dput;have h1:¬ x.1=k:=λe=>h (by show k∈x.1::AJ d;rw[e];exact υ ..);rw[ζ h1,ih λq=>h (θ _ q)];rfl
theorem AHS(T:Txt K mg t):A2 P w K mg AG FI 2 t.C3 t.Dq ["amounts"] (Rr K):=by
 have Iq:=@Xx P w K mg AG t T;refine T.DO.ok JW (λvs H Q E h=>?_) (λDM A AR s H vs Q E hr h=>?_)
 .obtain⟨_,_,_,rfl,_⟩:=h;rfl
 have hu:=IG hr;obtain⟨a,kvs,d,rfl,ha,hd,nd,ok,hz,kE,q⟩:=h;refine⟨_,(AE (Al (i:=1) JW.nd rfl (qh rfl) JL)
  (AE (MZ (Fo qA rfl (Ma (pv 0)) (BU (i:=2) JW.nd rfl (qh rfl)) (AI (Bv (CD (Af Iq hr.m rfl T.M8 T.IK.kp T.NJ .nil AS (AA (Dc hu (pv 0) (pv 2) (λ_ _=>rfl)) (AA (El rfl T.Jy) AF)))) (AI (KL hu (pv 1) (pv 2) (Dc hu (pv 0) (pv 2) (λ_ _=>rfl)) rfl)) Ax))))
  (AI (AV (pv 1))))),?_⟩
 clear Iq
 z_go
 intro r UT;have aZ:a≠r:=AO ha UT;have WL:upd H r (HO.dK []) a=some (.dK kvs):=by rw[AH aZ];exact ha
 refine⟨a,_,WL,trivial,λod=>?_⟩
 z_go
 refine⟨a,od,rfl,.inl ⟨kvs,AD,?_⟩⟩;have TF:upd (upd H r (HO.dK [])) a (HO.DK od (HO.dK kvs)) r=some (.dK []):=by rw[AH (qk aZ),AD]
 have f0:∀v p,BH K H v p->BH K (upd (upd H r (HO.dK [])) a (HO.DK od (HO.dK kvs))) v p:=λv p h=>(h.same (AM.new UT)).A6 Ae.upd WL trivial;have oM:=hd.keys;refine CP (kvs.map λkv=>kV kv.1) (λi σ H'=>Ae r (upd (upd H r (HO.dK [])) a (HO.DK od (HO.dK kvs))) H'/\∃o kvs',σ=[some (.ref a),some (.ref r),o]/\H' r=some (.dK kvs')/\DQ K H' kvs' (without (d.take i)))
  ⟨λb o _ h=>h,_,[],rfl,TF,.nil⟩ (λi σ H' ⟨sx,_⟩=>GY (sx a _ aZ AD)) (λi x σ H' hx ⟨sx,o,kvs',e,Yh,Et⟩=>?_) (λσ H' ⟨sx,o,kvs',e,Yh,Et⟩=>?_)
 .subst e;have hi:i<d.length:=by have:=(l_.mp hx).1;rw[χ,hd.len] at this;exact this
  have ZF:d[i]?=some d[i]:=n_ hi;obtain⟨v,fP,gJ⟩:=hd.at ZF;rw[m_,fP] at hx;obtain rfl:=j_ hx;have hm:d[i]∈d:=qI hi;have gt:=Kn nd (show(d[i].1,d[i].2)∈d from hm);obtain⟨u,cR,bC⟩:=hd.PX gt;have ox:=ok _ hm;have sxm:=kE _ hm;have Ti:H' a=some (HO.DK od (HO.dK kvs)):=sx a _ aZ AD;have dg:Ld H' a (V.int ((d[i].1:Nat):Int)) (some u):=.inl ⟨kvs,pS ((d[i].1:Nat):Int),.inr ⟨od,Ti⟩,rfl,cR.symm⟩;have fu:BH K H' u (qp d[i].2):=(f0 _ _ bC).A6 sx TF trivial;have nk:d[i].1∉AJ (without (d.take i)):=λz=>by
   obtain⟨y,hy,ey⟩:=Θ.mp z;have eG:=(d_.mp hy).1;obtain⟨j,hj⟩:=uW.mp eG;have oE:j<i:=by have:=(l_.mp hj).1;rw[sD] at this;omega
   rw[uD oE] at hj;have a1:(AJ d)[j]?=some d[i].1:=by unfold AJ;rw[m_,hj,<-ey];rfl
   have a2:(AJ d)[i]?=some d[i].1:=by unfold AJ;rw[m_,ZF];rfl
   have:=Ys nd a1 a2;omega
  have nt:=Jd T H';clear q hd ha WL hx f0 oM cR bC fP gJ gt
  z_go
  refine⟨_,dg,_,_,_,_,rfl,fu,nt,sxm,AOD,?_⟩;refine⟨_,rfl,?_⟩;rw[CW ZF,AKL];have c0:(decide ((0,1).fst*(qp d[i].snd).snd<(qp d[i].snd).fst*(0,1).snd))=decide (0<d[i].2.n):=by show decide (0*d[i].2.d<d[i].2.n*1)=_;rw[wR,tT]
  rw[c0];by_cases z:d[i].2=rT
  .rw[ζ (by rw[z];decide),η z,rC];exact⟨sx,kvs',Yh,Et⟩
  .have zp:0<d[i].2.n:=by
    rcases sS d[i].2.n with y|y
    .exact absurd ((X0 ox).mp y) z
    .exact y
   rw[η (zqt zp),ζ z];have ZA:(AJ (without (d.take i))).Nodup:=(nd.sublist ((ux i d).map _)).sublist (List.filter_sublist.map _);have lw:kvs'.length<pY:=by rw[Dm.len Et];refine pN (a_ (pU _ _) (a_ (qD _ _) hz)) (by lk)
   refine⟨u,dg,_,P4.k (k:=pS ((d[i].1:Nat):Int)) Yh lw,sx.trans Ae.upd,_,AD,?_⟩;have e1:without (d.take i)++[d[i]]=dput (without (d.take i)) d[i].1 d[i].2:=(TV nk).symm;rw[e1];exact DQ.A6 (Dm.put Et ZA fu) Ae.upd Yh trivial
 .subst e;rw[χ,hd.len,qL] at Et;have Ti:H' a=some (HO.DK od (HO.dK kvs)):=sx a _ aZ AD;refine⟨Ti,_,rfl,q r _ kvs' (λb o hb=>?_) UT (by rw[AH (qk aZ)];exact Yh) (DQ.A6 Et Ae.upd Ti trivial)⟩;by_cases e:b=a
  .rw[e,ha] at hb;cases hb;rw[e,AD]
  .rw[AH e];have nb:b≠r:=AO hb UT;exact sx b o nb (by rw[AH e,AH nb];exact hb)
def Qk:Option Nat->Nat->Bool
 |none,_=>false
 |some d,n=>decide (d<=n)
def AG8(t:Ad):Sp:=λvs H Q _=>∃a dx x d y n,vs=[.ref a,.int ((n:Nat):Int)]/\H a=some (.ins t.Au dx (A4 x (Rh d) y))/\Q (.bl (Qk d n)) H
theorem AHX(T:Txt K mg t):A2 P w K mg AG FI 2 t.B0 t.Ce ["self","day"] (AG8 t):=by
 have Ao:=@Lu P w K mg AG t T;refine T.En.ok ACl (λvs H Q E h=>?_) (λDM A AR s H vs Q E hr h=>?_)
 .obtain⟨_,_,_,_,_,_,rfl,_⟩:=h;rfl
 obtain⟨a,dx,x,d,y,n,rfl,ha,q⟩:=h;refine⟨_,(AI (AV (Xs (Cc (pv 0) T.DG T.Bb Ao hr.m T.B6 .nil AS) (Vw (Mb W9 (AW K rfl (pv 0) rfl) (pv 1) (Cn _)))))),?_⟩;clear Ao
 z_go
 cases d with
 |none=>rw[ζ (by lk)];exact q
 |some d=>
  rw[η (show(!decide (Rh (some d)=V.Es))=true from rfl)];refine⟨_,rfl,?_⟩;have e:decide ((d:Int)<=(n:Int))=decide (d<=n):=by simp
  rw[e];exact q
theorem APF(m:Nat):steps 1 1 m=Aq (ups (pW m)):=by unfold steps Aq ups;rw[p6];refine sI λi _=>?_;show V.int (1+(i:Nat)*1)=V.int (((i+1:Nat)):Int);congr 1;omega
def ET(t:Ad):Sp:=λvs H Q _=>∃f dx pl rl as,vs=[.ref f]/\H f=some (.ins t.Aa dx (BA (.ref pl) rl))/\H pl=some (.lst as)/\as.length<=1000/\∀l H',AM H H'->H l=none->H' l=some (.lst (Aq (ups (pW as.length))))->Q (.ref l) H'
theorem GD(T:Txt K mg t):A2 P w K mg AG FI 1 t.B4 t.Ci ["self"] (ET t):=by
 refine T.Ep.ok ACm (λvs H Q E h=>?_) (λDM A AR s H vs Q E hr h=>?_)
 .obtain⟨_,_,_,_,_,rfl,_⟩:=h;rfl
 obtain⟨f,dx,pl,rl,as,rfl,hf,hl,hz,q⟩:=h;refine⟨_,(AI (AV (Ju AI7 rfl T.SO Rc (AA (AS4 rfl T.VT (AA Ac (AA (F0 O9 (CO FH rfl T.Ks IV (AA (AW K rfl (pv 0) rfl) AF)) Ac) AF))) AF)))),?_⟩
 z_go
 intro r UT;refine⟨rfl,_,_,rfl,(by lk),(by lk),(by omega),(by omega),(by omega),λl cX=>?_⟩;have nl:l≠r:=λe=>by rw[e,AD] at cX;cases cX
 have e:((as.length:Int)+1-1).toNat=as.length:=by omega
 rw[e,APF];exact q l _ ((AM.new UT).trans (AM.new cX)) (by rw[AH nl] at cX;exact cX) AD
theorem AOq(n:Nat)(ns:List Nat):lX (V.int ((n:Nat):Int)) (Aq ns)=ns.contains n:=by
 unfold lX Aq;rw[List.any_map,qV,uc,rG];constructor
 .rintro⟨y,hy,e⟩;have e:((y:Int)==(n:Int))=true:=e;have:(y:Int)=(n:Int):=by simpa using e
  have:y=n:=by omega
  rw[<-this];exact hy
 .intro h;exact⟨n,h,by show((n:Int)==(n:Int))=true;simp⟩
theorem AJ6(ns:List Nat):(Aq ns).all TQ=true:=by unfold Aq;rw[yP,tK];intro x _;rfl
theorem OQ(ps:List Nat):ZJ ps=Aq (ups ps):=by unfold ZJ Aq ups;rw[p6];refine sI λi _=>?_;show V.int (((i:Nat):Int)+1)=V.int ((i+1:Nat):Int);congr 1
theorem AEj(ps:List Nat)(i:Nat):(ups ps).contains (i+1)=ps.contains i:=by rw[qV,rG,rG,VI];exact⟨λ⟨j,hj,e⟩=>by have:j=i:=(by omega);rw[<-this];exact hj,λh=>⟨i,h,rfl⟩⟩
theorem Kl{α β:Type}(p:α->Bool)(g:α->β)(l:List α):l.filterMap (λx=>if p x=true then some (g x) else none)=(l.filter p).map g:=by
 induction l with
 |nil=>rfl
 |cons a l ih=>
  rw[rB,qB];split
  .rename_i h;split at h
   .cases h
   .rename_i z;rw[ζ z,ih]
  .rename_i b h;split at h
   .rename_i z;injection h with h;rw[η z,k_,ih,h]
   .cases h
inductive QH(t:Ad)(vs:List V)(H:Hp)(Q:VK)(Xk:XK):Prop
 |mk:∀F l n,vs=[.ref F.f,.int (((n+1:Nat)):Int)]->Good l->Cj t H l F->(∀r H',AM H H'->H r=none->H' r=some (.lst (Aq (ups (vq l n))))->Q (.ref r) H')->QH t vs H Q Xk
theorem ALi(T:Txt K mg t):A2 P w K mg AG FI 2 t.B3 t.Cg ["self","number"] (QH t):=by
 have Ab:=@GD P w K mg AG t T;have AK:=@DI P w K mg AG t T;refine T.Eo.ok HQ (λvs H Q E h=>?_) (λDM A AR s H vs Q E hr h=>?_)
 .obtain⟨_,_,_,rfl,_⟩:=h;rfl
 obtain⟨F,l,n,rfl,g,fa,q⟩:=h;refine⟨_,(AI (AV (So rfl HQ.nd (FO K rfl (Cc (pv 0) T.AX T.BQ Ab hr.m T.Bl .nil AS)) (IW (own:=[("child",2)]) (by rfl)) (λ_ _ _ _ _=>(BU (i:=2) HQ.nd rfl (qh rfl))) (λ_ _ _ _ _=>(O7 (Cy (AHR K rfl) (pv 1) (AW K rfl (Aj (pv 0) T.AX T.Ah AK hr.m T.Ai .nil AS (AA (pv 2) AF)) rfl) (by with_unfolding_all rfl)))) (λ_ _ _ _ _=>(pv 2))))),?_⟩;clear Ab AK;have o1:=fa.obj;have o2:=fa.lst;have GV:=g.GV;have ln:=fa.len;unfold ET
 z_go
 rw[χ];refine⟨by omega,λa H1 s1 na ha=>⟨⟨_,Er.of ha⟩,λD hD=>?_⟩⟩;rw[ln] at ha;refine PR (Aq (ups (pW l.persons.length))) (pW l.persons.length) (λ_ i o=>o=if (g_ l i).parents.contains n=true then some (.int (((i+1:Nat)):Int)) else none) (by unfold Aq ups;simp) (λH' s'=>CV (Er.of (s' _ _ ha))) (by unfold Aq ups;simp;omega) hD (λ_ _ _ _ _ _ _ r=>r) (λi x d hx hd H' s' N hN=>?_) (λH' ys s' hy sel=>?_)
 .have hi:i<l.persons.length:=by have:=(l_.mp hd).1;rw[qx] at this;exact this
  rw[rJ hi] at hd;obtain rfl:=j_ hd;have Wl:x=.int (((i+1:Nat)):Int):=by unfold Aq ups at hx;rw[p6,m_,rJ hi] at hx;exact(j_ hx).symm
  subst Wl;have dI:=fa.same (s1.trans s');obtain⟨b,dx,pa,hb,h1,h2⟩:=dI.get hi;have d9:=dI.obj;have d8:=dI.lst;clear q o1 o2 hx hd fa
  z_go
  refine⟨i,by push_cast;rfl,.ref b,by rw[m_,hb];rfl,?_⟩
  z_go
  refine⟨pa,_,rfl,.inl (Er.of h2),rfl,(by rw[OQ];exact AJ6 _),_,rfl,?_⟩;rw[ζ Λ,OQ,AOq,AEj];split
  .rename_i z;exact hN _ _ (.refl _) (by rw[η z])
  .rename_i z;exact hN _ _ (.refl _) (by rw[ζ z])
 .have e:=Sel.Zp (f:=λi=>if (g_ l i).parents.contains n=true then some (V.int (((i+1:Nat)):Int)) else none) sel;rw[Kl,<-Qq] at e;have e2:ys=Aq (ups (vq l n)):=by rw[e];unfold Aq ups;rw[p6];rfl
  rw[e2] at hy;exact q D H' (s1.trans s') (s1.free hD) hy
def Sx(l:e_)(e n:Nat):Bool:=if n=0 then false else t_ l e (n-1)
inductive AGF(t:Ad)(vs:List V)(H:Hp)(Q:VK)(Xk:XK):Prop
 |mk:∀F l n e d,vs=[.ref F.f,.int ((n:Nat):Int),.int (((e+1:Nat)):Int)]->Good l->Cj t H l F->n<=l.persons.length->e<l.persons.length->(g_ l e).died=some d->(∀H',AM H H'->Q (.bl (Sx l e n)) H')->AGF t vs H Q Xk
theorem AVH{l:e_}{e i d:Nat}(hi:i<l.persons.length)(hd:(g_ l e).died=some d):t_ l e i=(i != e&&(!Qk (g_ l i).died d && !l.renounced.contains (i,e))):=by
 unfold t_ Si49.outlives;rw[hd,zqt hi,sf];congr 2;cases (g_ l i).died with
 |none=>rfl
 |some s=>
  show decide (d<s) = !decide (s<=d);by_cases h:d<s
  .rw[zqt h,zdf (by omega)];rfl
  .rw[zdf h,zqt (by omega)];rfl
theorem NX(T:Txt K mg t):A2 P w K mg AG FI 3 t.C8 t.Dy ["self","number","dead"] (AGF t):=by
 have AK:=@DI P w K mg AG t T;have Dl:=@AHX P w K mg AG t T;refine T.Gq.ok AEL (λvs H Q E h=>?_) (λDM A AR s H vs Q E hr h=>?_)
 .obtain⟨_,_,_,_,_,rfl,_⟩:=h;rfl
 have hu:=IG hr;obtain⟨F,l,n,e,d,rfl,g,fa,hn,he,hd,q⟩:=h;refine⟨_,(AE (Bv (PW.pt (Pq (Cy M0 (pv 1) (An rfl T.Fc) (Cn _)) (Pq (Cy M0 (pv 1) (pv 2) (Cn _)) (O6 (KI (MG hu (I0 (AA (pv 1) (AA (pv 2) AF))) (AW K rfl (pv 0) rfl))))))) (AI (AV V0)) Ax)
  (AI (AV (AU6 (Aj (Aj (pv 0) T.AX T.Ah AK hr.m T.Ai .nil AS (AA (pv 1) AF)) T.DG T.Em Dl hr.m T.Hf .nil AS (AA (AW K rfl (Aj (pv 0) T.AX T.Ah AK hr.m T.Ai .nil AS (AA (pv 2) AF)) rfl) AF)))))),?_⟩
 clear AK Dl;have o1:=fa.obj;have o2:=fa.lst;have o3:=fa.Rm;unfold Sx at q
 z_go
 by_cases c0:n=0
 .subst c0;rw[η (by lk)];exact q H (.refl H)
 rw[ζ (λz=>c0 (by have:=zod z;omega))];rw[ζ c0] at q;have hi:n-1<l.persons.length:=by omega
 rw[AVH hi hd] at q;by_cases c1:n=e+1
 .rw[η (zqt (by omega))];have:(n-1 != e)=false:=by simp;omega
  rw[this,sZ] at q;exact q H (.refl H)
 rw[ζ (λz=>c1 (by have:=zod z;omega))];have:(n-1 != e)=true:=by simp;omega
 rw[this,sf] at q;intro p hp;have s1:AM H (upd H p (HO.tup [V.int ((n:Nat):Int),V.int (((e+1:Nat)):Int)])):=AM.new hp;have W3:=fa.same s1;have tp:upd H p (HO.tup [V.int ((n:Nat):Int),V.int (((e+1:Nat)):Int)]) p=some (.tup ((S8 (n-1) e).map kV)):=by
  rw[AD];show some (HO.tup [V.int ((n:Nat):Int),V.int (((e+1:Nat)):Int)])=some (HO.tup [V.int (((n-1:Nat):Int)+1),V.int ((e:Int)+1)]);have e1:((n-1:Nat):Int)+1=(n:Int):=by omega
  rw[e1];rfl
 have dg:=Ld.t (k:=S8 (n-1) e) W3.Rm tp;rw[P9] at dg;obtain⟨b,dx,pa,hb,h1,h2⟩:=W3.get hi;obtain⟨b2,dx2,pa2,bR,h3,h4⟩:=W3.get he;rw[hd] at h3;have q2:=q _ s1;have d9:=W3.obj;have d8:=W3.lst;clear q o1 o2 o3 fa hp tp;generalize upd H p (HO.tup [V.int ((n:Nat):Int),V.int (((e+1:Nat)):Int)])=H1 at *;unfold AG8
 z_go
 refine⟨_,dg,?_⟩;by_cases c2:l.renounced.contains (n-1,e)=true
 .rw[η c2,η (show(some (V.bl true)).isSome=true from rfl)];rw[c2] at q2;simpa using q2
 .rw[ζ c2,ζ (show¬ (none:Option V).isSome=true from Λ)];have pB:l.renounced.contains (n-1,e)=false:=by simpa using c2
  rw[pB,Bool.not_false,yH] at q2;refine⟨n-1,by omega,.ref b,by rw[m_,hb];rfl,b,rfl,_,_,h1,AAU _ _ _,?_⟩;refine⟨e,by push_cast;rfl,.ref b2,by rw[m_,bR];rfl,?_⟩
  z_go
  exact⟨dx,_,(g_ l (n-1)).died,_,d,rfl,rfl,rfl,rfl,rfl,q2⟩
theorem _root_.L2.AM.Ow{H H':Hp}{r : Ξ}{o:HO}(s:AM H H')(h:H r=none):AM H (upd H' r o):=λb u hb=>by rw[AH (AO hb h)];exact s b u hb
def RN(v:V)(k:Nat):Prop:=v=.int ((k:Nat):Int)
theorem UA(k:Nat):∀(ps:List Nat) (d:D Nat),(ps.foldl (KJ k) d).length<=d.length+ps.length
 |[],d=>b_ _
 |p::ps,d=>by
  have h1:=UA k ps (KJ k d p);have h2:(KJ k d p).length<=d.length+1:=NY d _ _;show(ps.foldl (KJ k) (KJ k d p)).length<=d.length+(ps.length+1)
  omega
theorem APO{l:e_}(g:Good l)(d:D Nat)(i:Nat):(KH l d i).length<=d.length+2:=by
 unfold KH;split
 .omega
 .rename_i k _;have:=UA k (g_ l i).parents d;have:=(g.two i).1;omega
theorem T9{l:e_}(g:Good l):∀(is:List Nat) (d:D Nat),(is.foldl (KH l) d).length<=d.length+2*is.length
 |[],d=>b_ _
 |i::is,d=>by have h1:=T9 g is (KH l d i);have h2:=APO g d i;show(is.foldl (KH l) (KH l d i)).length<=d.length+2*(is.length+1);omega
theorem Vu(k:Nat):∀(ps:List Nat) (d:D Nat),(AJ d).Nodup->(AJ (ps.foldl (KJ k) d)).Nodup
 |[],d,h=>h
 |p::ps,d,h=>Vu k ps _ (LF h _ _)
theorem ALU{l:e_}:∀(is:List Nat) (d:D Nat),(AJ d).Nodup->(AJ (is.foldl (KH l) d)).Nodup
 |[],d,h=>h
 |i::is,d,h=>by
  refine ALU is _ ?_;unfold KH;split
  .exact h
  .exact Vu _ _ _ h
inductive AOA(t:Ad)(vs:List V)(H:Hp)(Q:VK)(Xk:XK):Prop
 |mk:∀F l i,vs=[.ref F.f,.int (((i+1:Nat)):Int)]->Good l->Cj t H l F->i<l.persons.length->(∀r H' kvs,AM H H'->H r=none->H' r=some (.dK kvs)->Dm RN kvs (FU l i)->Q (.ref r) H')->AOA t vs H Q Xk
theorem AOX(T:Txt K mg t):A2 P w K mg AG FI 2 t.DR t.EL ["family","number"] (AOA t):=by
 have Ab:=@GD P w K mg AG t T;have AK:=@DI P w K mg AG t T;refine T.Cz.ok FL (λvs H Q E h=>?_) (λDM A AR s H vs Q E hr h=>?_)
 .obtain⟨_,_,_,rfl,_⟩:=h;rfl
 have hu:=IG hr;obtain⟨F,l,i0,rfl,g,fa,hi0,q⟩:=h;refine⟨_,(AE (Al (i:=2) FL.nd rfl (qh rfl) (Xr (Vs (pv 1) Ac Xm) rfl rfl (by simp) (by lk)))
  (AE (Fo qA rfl (QT rfl T.Pg (AA (Cc (pv 0) T.AX T.BQ Ab hr.m T.Bl .nil AS) AF)) (BU (i:=3) FL.nd rfl (qh rfl)) (AI (Bv (KI (MG hu (pv 3) (pv 2))) (AI (Fo qA rfl (FO K rfl (AW K rfl (Aj (pv 0) T.AX T.Ah AK hr.m T.Ai .nil AS (AA (pv 3) AF)) rfl)) (BU (i:=4) FL.nd rfl (qh rfl)) (AE (Al (i:=5) FL.nd rfl (qh rfl) (F0 O9 (Dc hu (pv 2) (pv 3) (λ_ _=>rfl)) Ac))
     (AI (KL hu (pv 2) (pv 4) (CO (AQC rfl) rfl T.dQ ASQ (AA (pv 5) (AA (Vy hu (pv 2) (pv 4) (pv 5) ⟨by rfl,by rfl,by rfl,by rfl⟩) AF))) rfl))))) Ax)))
  (AI (AV (pv 2))))),?_⟩
 clear Ab AK;have GV:=g.GV;have ln:=fa.len
 z_go
 intro r UT;have s0:AM H (upd H r (HO.dK [(pS (((i0+1:Nat)):Int),.int 0)])):=AM.new UT;refine⟨[(pS (((i0+1:Nat)):Int),.int 0)],rfl,(show 1<=15 by lk),?_⟩;have mk:N8 [] [((pS (((i0+1:Nat)):Int):Key),V.int 0)]=[(pS (((i0+1:Nat)):Int),V.int 0)]:=rfl;rw[mk];have d0:Dm RN [((pS (((i0+1:Nat)):Int):Key),V.int 0)] [(i0+1,0)]:=.cons ⟨rfl,rfl⟩ .nil;have W3:=fa.same s0;have o1:=W3.obj;have o2:=W3.lst;have TF:upd H r (HO.dK [(pS (((i0+1:Nat)):Int),.int 0)]) r=some (.dK [(pS (((i0+1:Nat)):Int),V.int 0)]):=AD;generalize upd H r (HO.dK [(pS (((i0+1:Nat)):Int),.int 0)])=H1 at *;clear mk;unfold ET
 z_go
 rw[χ];refine⟨by omega,λa H2 s2 na ha=>⟨_,Er.of ha,?_⟩⟩;rw[ln] at ha ⊢;have Yv:=s2 _ _ TF;have jl:=s0.trans s2;have len:(Aq (ups (pW l.persons.length))).length=l.persons.length:=by unfold Aq ups;simp
 have na0:a≠r:=λe=>by rw[e,TF] at na;cases na
 refine CP (Aq (ups (pW l.persons.length))).reverse (λj σ H'=>AM H H'/\H' a=some (.lst (Aq (ups (pW l.persons.length))))/\∃o3 o4 o5 kvs,σ=[some (.ref F.f),some (.int (((i0+1:Nat)):Int)),some (.ref r),o3,o4,o5]/\H' r=some (.dK kvs)/\Dm RN kvs (((pW l.persons.length).reverse.take j).foldl (KH l) [(i0+1,0)]))
  ⟨jl,ha,none,none,none,_,rfl,Yv,d0⟩ (λj σ H' wj=>by have:=Tq (Er.of (K:=K) wj.2.1);exact this) (λj x σ H' hx ⟨s',YJ,o3,o4,o5,kvs,e,Yh,Et⟩=>?_) (λσ H' ⟨s',YJ,o3,o4,o5,kvs,e,Yh,Et⟩=>?_)
 .subst e;have hj:j<l.persons.length:=by have:=(l_.mp hx).1;rw[rH,len] at this;exact this
  have hc:l.persons.length-1-j<l.persons.length:=by omega
  have hrv:(pW l.persons.length).reverse[j]?=some (l.persons.length-1-j):=by rw[uf (by rw[qx];exact hj),qx,rJ hc]
  have Wl:x=.int (((l.persons.length-1-j+1:Nat)):Int):=by rw[uf (by rw[len];exact hj),len] at hx;unfold Aq ups at hx;rw[p6,m_,rJ hc] at hx;exact(j_ hx).symm
  rw[CW hrv,rj];generalize hcc:l.persons.length-1-j=c at *;generalize Wn:((pW l.persons.length).reverse.take j).foldl (KH l) [(i0+1,0)]=d at *;have nd:(AJ d).Nodup:=by rw[<-Wn];exact ALU _ _ (by simp[AJ])
  have dl:d.length<=33:=by rw[<-Wn];have:=T9 g ((pW l.persons.length).reverse.take j) [(i0+1,0)];rw[sD,rH,qx] at this;have:[(i0+1,0)].length=1:=rfl;omega
  subst Wl;show gm _ _ _ _ _ _;have dI:=fa.same s';obtain⟨b,dx,pa,hb,h1,h2⟩:=dI.get hc;have d9:=dI.obj;have d8:=dI.lst;have lC:(zA (KH l) d [c])=KH l d c:=rfl;rw[lC];clear q o1 o2 hx hrv lC
  z_go
  cases ek:BP d (c+1) with
  |none=>refine⟨none,.inl ⟨kvs,pS (((c+1:Nat)):Int),.inl Yh,rfl,(Et.W2 ek).symm⟩,?_⟩;rw[ζ (show¬ (none:Option V).isSome=true from Λ)];exact⟨kvs,rfl,by unfold KH;rw[ek];exact Et⟩
  |some k=>
   obtain⟨u,cR,bC⟩:=Et.PX ek;have bC:u=.int ((k:Nat):Int):=bC;subst bC;refine⟨some (.int ((k:Nat):Int)),.inl ⟨kvs,pS (((c+1:Nat)):Int),.inl Yh,rfl,cR.symm⟩,?_⟩;rw[η (show(some (V.int ((k:Nat):Int))).isSome=true from rfl)];have rs:KH l d c=(g_ l c).parents.foldl (KJ k) d:=by unfold KH;rw[ek]
   rw[rs]
   z_go
   refine⟨c,by push_cast;rfl,.ref b,by rw[m_,hb];rfl,?_⟩
   z_go
   refine⟨⟨_,Er.of h2⟩,?_⟩;rw[OQ] at h2;have AWY:(Aq (ups (g_ l c).parents)).length=(g_ l c).parents.length:=by unfold Aq ups;simp
   have two:=(g.two c).1;refine CP (Aq (ups (g_ l c).parents)) (λn σ H2=>AM H H2/\H2 a=some (.lst (Aq (ups (pW l.persons.length))))/\H2 pa=some (.lst (Aq (ups (g_ l c).parents)))/\∃o4 o5 kvs,σ=[some (.ref F.f),some (.int (((i0+1:Nat)):Int)),some (.ref r),some (.int (((c+1:Nat)):Int)),o4,o5]/\H2 r=some (.dK kvs)/\Dm RN kvs (((g_ l c).parents.take n).foldl (KJ k) d))
    ⟨s',YJ,h2,_,_,kvs,rfl,Yh,Et⟩ (λn σ H2 wj=>CV (Er.of wj.2.2.1)) (λn x σ H2 hx ⟨s2',bG,W0,p4,p5,Zh,e2,hr2',hd2⟩=>?_) (λσ H2 ⟨s2',bG,W0,p4,p5,Zh,e2,hr2',hd2⟩=>?_)
   .subst e2;have hn:n<(g_ l c).parents.length:=by have:=(l_.mp hx).1;rw[AWY] at this;exact this
    have ny:(g_ l c).parents[n]?=some (g_ l c).parents[n]:=n_ hn;have hpm:(g_ l c).parents[n]∈(g_ l c).parents:=qI hn;rw[CW ny,rj];generalize hpp:(g_ l c).parents[n]=p at *;have Wl:x=.int (((p+1:Nat)):Int):=by unfold Aq ups at hx;rw[p6,m_,ny] at hx;exact(j_ hx).symm
    subst Wl;have Yg:=g.par c p hpm;have gk:BP (((g_ l c).parents.take n).foldl (KJ k) d) (c+1)=some k:=by rw[RD,ζ (λz=>by have:=g.par c c (qY z);omega)];exact ek
    have ZA:=Vu k ((g_ l c).parents.take n) d nd;have dl2:=UA k ((g_ l c).parents.take n) d;rw[sD] at dl2;generalize hd2d:((g_ l c).parents.take n).foldl (KJ k) d=d2 at *;have lC:([p].foldl (KJ k) d2)=KJ k d2 p:=rfl;rw[lC];obtain⟨u2,fP,gJ⟩:=hd2.PX gk;have gJ:u2=.int ((k:Nat):Int):=gJ;subst gJ;have nN:pa≠r:=D5 W0 hr2' (by intro z;cases z);have nar:a≠r:=D5 bG hr2' (by intro z;cases z);have mQ:Ld H2 r (V.int (((c+1:Nat)):Int)) (some (V.int ((k:Nat):Int))):=.inl ⟨Zh,pS (((c+1:Nat)):Int),.inl hr2',rfl,fP.symm⟩;clear hx ny Wn hcc
    z_go
    refine⟨_,mQ,_,rfl,.inl ⟨_,.inl hr2'⟩,?_⟩;have key:∃(o:Option V) (m:Nat),NU Zh (pS (((p+1:Nat)):Int))=o/\o.getD (V.int ((k:Int)+1))=V.int ((m:Nat):Int)/\m=(BP d2 (p+1)).getD (k+1):=by
     cases e:BP d2 (p+1) with
     |none=>exact⟨none,k+1,hd2.W2 e,by push_cast;rfl,rfl⟩
     |some b=>obtain⟨u3,w1,w2⟩:=hd2.PX e;have w2:u3=.int ((b:Nat):Int):=w2;subst w2;exact⟨some (.int ((b:Nat):Int)),b,w1,rfl,rfl⟩
    obtain⟨o,m,k1,k2,k3⟩:=key;refine⟨o,.inl ⟨Zh,pS (((p+1:Nat)):Int),.inl hr2',rfl,k1.symm⟩,_,k2,_,P4.k (k:=pS (((p+1:Nat)):Int)) hr2' (by rw[hd2.len];exact pN (show d2.length<=35 by omega) (by lk)),s2'.Ow UT,by rw[AH nar];exact bG,by rw[AH nN];exact W0,_,AD,?_⟩;unfold KJ;refine Dm.put hd2 ZA ?_;rw[<-k3];show V.int _=V.int _;congr 1;split<;>omega
   .subst e2;rw[AWY,qL] at hd2;exact⟨s2',bG,_,_,_,rfl,Zh,hr2',hd2⟩
 .subst e;rw[rH,len,vU (by rw[rH,qx];exact b_ _)] at Et;exact q r H' kvs s' UT Yh Et
inductive ALK(t:Ad)(vs:List V)(H:Hp)(Q:VK)(Xk:XK):Prop
 |mk:∀F l i e,vs=[.ref F.f,.int (((i+1:Nat)):Int),.int (((e+1:Nat)):Int)]->Good l->Cj t H l F->i<l.persons.length->e<l.persons.length->(∀H',AM H H'->Q (.bl (close l e i)) H')->ALK t vs H Q Xk
theorem VF(l:e_)(e:Nat):aO (g_ l e).spouse=.int ((EJ l e:Nat):Int):=by
 unfold EJ;cases (g_ l e).spouse with
 |none=>rfl
 |some s=>show V.int (((s:Nat):Int)+1)=V.int ((s+1:Nat):Int);congr 1
theorem ARP(T:Txt K mg t):A2 P w K mg AG FI 3 t.Jj t.LV ["family","number","dead"] (ALK t):=by
 have AK:=@DI P w K mg AG t T;have ES:=@AOX P w K mg AG t T;refine T.Lz.ok AGJ (λvs H Q E h=>?_) (λDM A AR s H vs Q E hr h=>?_)
 .obtain⟨_,_,_,_,rfl,_⟩:=h;rfl
 have hu:=IG hr;obtain⟨F,l,i,e,rfl,g,fa,hi,he,q⟩:=h;refine⟨_,(AE (Al (i:=3) AGJ.nd rfl (qh rfl) (Aj (pv 0) T.AX T.Ah AK hr.m T.Ai .nil AS (AA (pv 2) AF)))
  (AE (Bv (PW.pt (Pq (Cy M0 (pv 1) (AW K rfl (pv 3) rfl) (Cn _)) (O6 (Cy (AHR K rfl) (pv 1) (AW K rfl (pv 3) rfl) (by with_unfolding_all rfl))))) (AI (AV V0)) Ax)
  (AI (AV (ARB (MG hu (pv 2) (Af ES hr.m rfl T.Hl T.Cz.kp T.Ht .nil AS (AA (pv 0) (AA (pv 1) AF))))))))),?_⟩
 clear AK ES;have o1:=fa.obj;have o2:=fa.lst;obtain⟨b,dx,pa,hb,h1,h2⟩:=fa.get he;rw[VF] at h1;unfold close at q
 z_go
 refine⟨e,by push_cast;rfl,.ref b,by rw[m_,hb];rfl,?_⟩
 z_go
 by_cases c1:EJ l e=i+1
 .rw[η (zqt (by omega))];have:(EJ l e==i+1)=true:=by simp[c1]
  rw[this,wX] at q;exact q H (.refl H)
 rw[ζ (λz=>c1 (by have:=zod z;omega))];have:(EJ l e==i+1)=false:=by simp[c1]
 rw[this,uE] at q;refine⟨pa,_,rfl,.inl (Er.of h2),rfl,(by rw[OQ];exact AJ6 _),_,rfl,?_⟩;rw[ζ Λ,OQ,AOq,AEj];by_cases c2:(g_ l e).parents.contains i=true
 .rw[η c2];rw[c2,wX] at q;exact q H (.refl H)
 rw[ζ c2];have pB:(g_ l e).parents.contains i=false:=by simpa using c2
 rw[pB,uE] at q;refine⟨F,l,i,rfl,g,fa,hi,λr H' kvs s' UT Yh hd=>?_⟩;rw[<-ANb g hi] at q;have q':=q H' s';cases ek:BP (FU l i) (e+1) with
 |none=>rw[ek] at q';exact⟨r,rfl,none,.inl ⟨kvs,pS (((e+1:Nat)):Int),.inl Yh,rfl,(hd.W2 ek).symm⟩,q'⟩
 |some k=>rw[ek] at q';obtain⟨u,u1,_⟩:=hd.PX ek;exact⟨r,rfl,some u,.inl ⟨kvs,pS (((e+1:Nat)):Int),.inl Yh,rfl,u1.symm⟩,q'⟩
def RU(v:V)(_:Unit):Prop:=v=.bl true
def SV(H:Hp)(a : Ξ)(f:Nat->Bool):Prop:=∃kvs d,H a=some (.dK kvs)/\Dm RU kvs d/\(AJ d).Nodup/\d.length<=1000/\∀i,(BP d (i+1)).isSome=f i
theorem SV.same{H H':Hp}{a : Ξ}{f:Nat->Bool}(h:SV H a f)(s:AM H H'):SV H' a f:=let ⟨kvs,d,h1,r⟩:=h;⟨kvs,d,s _ _ h1,r⟩
theorem SV.get{H:Hp}{a : Ξ}{f:Nat->Bool}(h:SV H a f)(i:Nat):∃o,Ld H a (V.int (((i+1:Nat)):Int)) o/\o.isSome=f i:=by
 obtain⟨kvs,d,h1,h2,_,_,h3⟩:=h;cases e:BP d (i+1) with
 |none=>exact⟨none,.inl ⟨kvs,pS (((i+1:Nat)):Int),.inl h1,rfl,(h2.W2 e).symm⟩,by rw[<-h3 i,e];rfl⟩
 |some u=>obtain⟨v,v1,_⟩:=h2.PX e;exact⟨some v,.inl ⟨kvs,pS (((i+1:Nat)):Int),.inl h1,rfl,v1.symm⟩,by rw[<-h3 i,e];rfl⟩
structure aN(t:Ad)(K : ξ)(H:Hp)(l:e_)(F:FA)(lw MN Eu : Ξ)(e:Nat):Prop where
 g:Good l
 Fi:Cj t H l F
 law:MW t K H lw MN Eu l
 he:e<l.persons.length
 dd:∃d,(g_ l e).died=some d
theorem aN.same{H H':Hp}{l:e_}{F:FA}{lw MN Eu : Ξ}{e:Nat}(h:aN t K H l F lw MN Eu e)(s:AM H H'):aN t K H' l F lw MN Eu e:=⟨h.g,h.Fi.same s,h.law.same s,h.he,h.dd⟩
structure Yc(t:Ad)(H:Hp)(a dx : Ξ)(fs:List (qf×V))(f lw : Ξ)(e:Nat):Prop where
 obj:H a=some (.ins t.Ay dx fs)
 Fi:fs.lookup ("family" : qf)=some (.ref f)
 law:fs.lookup ("law" : qf)=some (.ref lw)
 o8:fs.lookup ("dead" : qf)=some (.int (((e+1:Nat)):Int))
 m1:fs.lookup ("stepping_in" : qf)=none
 m2:fs.lookup ("parents_among" : qf)=none
 m3:fs.lookup ("live_lines" : qf)=none
 m4:fs.lookup ("one_generation_on" : qf)=none
 m5:fs.lookup ("give_to_lines" : qf)=none
theorem Yc.same{H H':Hp}{a dx f lw : Ξ}{fs:List (qf×V)}{e:Nat}(h:Yc t H a dx fs f lw e)(s:AM H H'):Yc t H' a dx fs f lw e:=⟨s _ _ h.obj,h.Fi,h.law,h.o8,h.m1,h.m2,h.m3,h.m4,h.m5⟩
def Rj(l:e_)(e i:Nat)(f:Nat->Bool):List Nat:=if u6 l e i=true then(vq l i).filter f else[]
inductive AN3(t:Ad)(K : ξ)(vs:List V)(H:Hp)(Q:VK)(Xk:XK):Prop
 |mk:∀a dx fs F l lw MN Eu e i lv f,vs=[.ref a,.int (((i+1:Nat)):Int),.ref lv]->Yc t H a dx fs F.f lw e->aN t K H l F lw MN Eu e->SV H lv f->(∀r H',AM H H'->H r=none->H' r=some (.lst (Aq (ups (Rj l e i f))))->Q (.ref r) H')->AN3 t K vs H Q Xk
theorem AHC{l:List Nat}{f:Nat->Bool}{ys:List V}(s:Sel (λi o=>o=if f i=true then some (V.int (((i+1:Nat)):Int)) else none) l ys):ys=Aq (ups (l.filter f)):=by have e:=Sel.Zp s;rw[Kl] at e;rw[e];unfold Aq ups;rw[p6];rfl
theorem Hi(l:List Nat):(Aq (ups l)).length=l.length:=by unfold Aq ups;simp
theorem VZ{l:List Nat}{i:Nat}{x:V}{d:Nat}(hx:(Aq (ups l))[i]?=some x)(hd:l[i]?=some d):x=.int (((d+1:Nat)):Int):=by unfold Aq ups at hx;rw[p6,m_,hd] at hx;exact(j_ hx).symm
theorem AOU(T:Txt K mg t):A2 P w K mg AG FI 3 t.CH t.DE ["self","number","live"] (AN3 t K):=by
 have AAj:=@ALi P w K mg AG t T;refine T.FZ.ok Hu (λvs H Q E h=>?_) (λDM A AR s H vs Q E hr h=>?_)
 .obtain⟨_,_,_,_,_,_,_,_,_,_,_,_,rfl,_⟩:=h;rfl
 have hu:=IG hr;obtain⟨a,dx,fs,F,l,lw,MN,Eu,e,i,lv,f,rfl,ln,cx,j5,q⟩:=h;refine⟨_,(AE (Bv (PW.pt (AQz (Cy M0 (AW K rfl (AW K rfl (pv 0) rfl) rfl) Ac (Cn _)) (AOI (KI (MG hu (I0 (AA (pv 1) (AA (AW K rfl (pv 0) rfl) AF))) (AW K rfl (AW K rfl (pv 0) rfl) rfl)))))) (AI (AV (EV AF))) Ax)
  (AI (AV (So rfl Hu.nd (FO K rfl (Aj (AW K rfl (pv 0) rfl) T.AX T.HX AAj hr.m T.AAa .nil AS (AA (pv 1) AF))) (IW (own:=[("child",3)]) (by rfl)) (λ_ _ _ _ _=>(BU (i:=3) Hu.nd rfl (qh rfl))) (λ_ _ _ _ _=>(O7 (KI (MG hu (pv 3) (pv 2))))) (λ_ _ _ _ _=>(pv 3)))))),?_⟩
 clear AAj;obtain⟨kp,SY,k,ss,l1,_⟩:=cx.law;have g:=cx.g;have fin:∀H1,AM H H1->u6 l e i=true->QH t [.ref F.f,.int (((i+1:Nat)):Int)] H1 (λx H2=>∃a1,x=.ref a1/\(∃xs,Er K H2 a1 xs)/\∀D,H2 D=none->br (dZ K a1) (WN 3) (tB (gu (Sf 3) (Sf 2))) (Sf 3) [3] [some (.ref a),some (.int (((i+1:Nat)):Int)),some (.ref lv),none] H2 D (Q (.ref D))) E0:=λH1 s1 op=>by
  refine⟨F,l,i,rfl,g,cx.Fi.same s1,λb H2 s2 nb hb=>⟨b,rfl,⟨_,Er.of hb⟩,λD hD=>?_⟩⟩;have T7:=s1.trans s2;refine PR (Aq (ups (vq l i))) (vq l i) (λ_ i o=>o=if f i=true then some (V.int (((i+1:Nat)):Int)) else none) (Hi _) (λH' s'=>CV (Er.of (s' _ _ hb))) (by rw[Hi];exact a_ (Mh g i) (by lk)) hD (λ_ _ _ _ _ _ _ r=>r) (λj x d hx hd H' s' N hN=>?_) (λH' ys s' hy sel=>?_)
  .obtain rfl:=VZ hx hd;obtain⟨o,d1,d2⟩:=(j5.same (T7.trans s')).get d;clear q hx hd
   z_go
   refine⟨o,d1,?_⟩;rw[d2];split
   .rename_i z;exact hN _ _ (.refl _) (by rw[η z])
   .rename_i z;exact hN _ _ (.refl _) (by rw[ζ z])
  .have e1:=AHC sel;rw[e1] at hy;have:Rj l e i f=(vq l i).filter f:=by unfold Rj;rw[η op]
   rw[this] at q;exact q D H' (T7.trans s') (T7.free hD) hy
 have o1:=ln.obj;have o2:=ln.Fi;have o3:=ln.law;have o4:=ln.o8;have o5:=cx.Fi.obj
 z_go
 cases st:l.stepsIn with
 |true=>rw[ζ (by lk)];exact fin H (.refl H) (by unfold u6;rw[st];rfl)
 |false=>
  rw[η (by lk)];intro p hp;have s1:AM H (upd H p (HO.tup [V.int (((i+1:Nat)):Int),V.int (((e+1:Nat)):Int)])):=AM.new hp;have tp:upd H p (HO.tup [V.int (((i+1:Nat)):Int),V.int (((e+1:Nat)):Int)]) p=some (.tup ((S8 i e).map kV)):=AD;have AYJ:=fin _ s1;have kj:=cx.same s1;have nX:=ln.same s1;have dg:=Ld.t (k:=S8 i e) kj.Fi.Rm tp;rw[P9] at dg;have n1:=nX.obj;have n5:=kj.Fi.obj;have qq:∀r H',AM (upd H p (HO.tup [V.int (((i+1:Nat)):Int),V.int (((e+1:Nat)):Int)])) H'->H r=none->H' r=some (HO.lst (Aq (ups (Rj l e i f))))->Q (V.ref r) H':=λr H' s'=>q r H' (s1.trans s');clear q o1 o5 fin tp;generalize hg:upd H p (HO.tup [V.int (((i+1:Nat)):Int),V.int (((e+1:Nat)):Int)])=H1 at *
  z_go
  refine⟨_,dg,?_⟩;by_cases c:l.renounced.contains (i,e)=true
  .rw[η c,η (show(some (V.bl true)).isSome=true from rfl)];intro p2 W0;have e0:Rj l e i f=[]:=by unfold Rj u6;rw[st,c];rfl
   rw[e0] at qq;exact qq p2 _ (AM.new W0) (s1.free W0) AD
  .rw[ζ c,ζ (show¬ (none:Option V).isSome=true from Λ)];exact AYJ (by unfold u6;rw[st];simpa using c)
def fE(l:e_)(i:Nat)(f:Nat->Bool):List Nat:=(g_ l i).parents.filter f
inductive AN4(t:Ad)(K : ξ)(vs:List V)(H:Hp)(Q:VK)(Xk:XK):Prop
 |mk:∀a dx fs F l lw MN Eu e i lv f,vs=[.ref a,.int (((i+1:Nat)):Int),.ref lv]->Yc t H a dx fs F.f lw e->aN t K H l F lw MN Eu e->i<l.persons.length->SV H lv f->(∀r H',AM H H'->H r=none->H' r=some (.lst (Aq (ups (fE l i f))))->Q (.ref r) H')->AN4 t K vs H Q Xk
theorem AOV(T:Txt K mg t):A2 P w K mg AG FI 2 t.Bj t.CL ["self","number","live"] (AN4 t K):=by
 have AK:=@DI P w K mg AG t T;refine T.EF.ok Gb (λvs H Q E h=>?_) (λDM A AR s H vs Q E hr h=>?_)
 .obtain⟨_,_,_,_,_,_,_,_,_,_,_,_,rfl,_⟩:=h;rfl
 have hu:=IG hr;obtain⟨a,dx,fs,F,l,lw,MN,Eu,e,i,lv,f,rfl,ln,cx,hi,j5,q⟩:=h;refine⟨_,(AI (AV (So rfl Gb.nd (FO K rfl (AW K rfl (Aj (AW K rfl (pv 0) rfl) T.AX T.Ah AK hr.m T.Ai .nil AS (AA (pv 1) AF)) rfl)) (IW (own:=[("parent",3)]) (by rfl)) (λ_ _ _ _ _=>(BU (i:=3) Gb.nd rfl (qh rfl))) (λ_ _ _ _ _=>(O7 (KI (MG hu (pv 3) (pv 2))))) (λ_ _ _ _ _=>(pv 3))))),?_⟩;clear AK;have g:=cx.g;obtain⟨b,lJ,pa,hb,h1,h2⟩:=cx.Fi.get hi;rw[OQ] at h2;have o1:=ln.obj;have o2:=ln.Fi;have o5:=cx.Fi.obj;have o6:=cx.Fi.lst
 z_go
 refine⟨i,by push_cast;rfl,.ref b,by rw[m_,hb];rfl,?_⟩
 z_go
 refine⟨⟨_,Er.of h2⟩,λD hD=>?_⟩;refine PR (Aq (ups (g_ l i).parents)) (g_ l i).parents (λ_ i o=>o=if f i=true then some (V.int (((i+1:Nat)):Int)) else none) (Hi _) (λH' s'=>CV (Er.of (s' _ _ h2))) (by rw[Hi];exact a_ (g.two i).1 (by lk)) hD (λ_ _ _ _ _ _ _ r=>r) (λj x d hx hd H' s' N hN=>?_) (λH' ys s' hy sel=>?_)
 .obtain rfl:=VZ hx hd;obtain⟨o,d1,d2⟩:=(j5.same s').get d;clear q hx hd o1 o5 o6 h1 h2 hb
  z_go
  refine⟨o,d1,?_⟩;rw[d2];split
  .rename_i z;exact hN _ _ (.refl _) (by rw[η z])
  .rename_i z;exact hN _ _ (.refl _) (by rw[ζ z])
 .have e1:=AHC sel;rw[e1] at hy;exact q D H' s' hD hy
def W5(H:Hp)(a : Ξ)(n:Nat)(f:Nat->Bool):Prop:=∃kvs d,H a=some (.dK kvs)/\Dm RU kvs d/\(AJ d).Nodup/\d.length<=n/\∀i,(BP d (i+1)).isSome=f i
theorem W5.lv{H:Hp}{a : Ξ}{n:Nat}{f:Nat->Bool}(h:W5 H a n f)(hn:n<=1000):SV H a f:=let ⟨kvs,d,h1,h2,h3,h4,h5⟩:=h;⟨kvs,d,h1,h2,h3,a_ h4 hn,h5⟩
theorem W5.same{H H':Hp}{a : Ξ}{n:Nat}{f:Nat->Bool}(h:W5 H a n f)(s:AM H H'):W5 H' a n f:=let ⟨kvs,d,h1,r⟩:=h;⟨kvs,d,s _ _ h1,r⟩
theorem W5.congr{H:Hp}{a : Ξ}{n m:Nat}{f f':Nat->Bool}(h:W5 H a n f)(e:∀i,f i=f' i)(hm:n<=m):W5 H a m f':=let ⟨kvs,d,h1,h2,h3,h4,h5⟩:=h;⟨kvs,d,h1,h2,h3,a_ h4 hm,λi=>(h5 i).trans (e i)⟩
theorem W5.new{H:Hp}{a : Ξ}:W5 (upd H a (.dK [])) a 0 (λ_=>false):=⟨[],[],AD,.nil,by simp[AJ],b_ _,λ_=>rfl⟩
theorem W5.put{H:Hp}{r : Ξ}{n:Nat}{f f':Nat->Bool}{c:Nat}(h:W5 H r n f)(hn:n<=1000)(he:∀i,f' i=(f i||i==c)):∃H',P4 H r (V.int (((c+1:Nat)):Int)) (.bl true) H'/\(∃o,H'=upd H r o)/\W5 H' r (n+1) f':=by
 obtain⟨kvs,d,h1,h2,h3,h4,h5⟩:=h;refine⟨_,P4.k (k:=pS (((c+1:Nat)):Int)) h1 (by rw[h2.len];exact pN (a_ h4 hn) (by lk)),⟨_,rfl⟩,_,dput d (c+1) (),AD,Dm.put h2 h3 rfl,LF h3 _ _,?_,λi=>?_⟩
 .have:=NY d (c+1) ();omega
 .rw[Ql,he i,<-h5 i];by_cases e:c=i
  .subst e;rw[η rfl];simp
  .rw[ζ (by omega)];have:(i==c)=false:=by simp;omega
   rw[this,wo]
inductive AN8(t:Ad)(K : ξ)(vs:List V)(H:Hp)(Q:VK)(Xk:XK):Prop
 |mk:∀a dx fs F l lw MN Eu e,vs=[.ref a]->Yc t H a dx fs F.f lw e->aN t K H l F lw MN Eu e->(∀r H',AM H H'->H r=none->SV H' r (vK l e)->Q (.ref r) H')->AN8 t K vs H Q Xk
def au(l:e_)(e j i:Nat):Bool:=decide (j<=i)&&vK l e i
theorem APm{l:e_}(g:Good l){e c:Nat}:vK l e c=(t_ l e c||decide (0<(Rj l e c (au l e (c+1))).length)):=by
 rw[AJ4 g];congr 1;unfold Rj;cases u6 l e c with
 |false=>rfl
 |true=>
  rw[η rfl,sf,qV,uc,decide_eq_true_iff,List.length_pos_iff_exists_mem];constructor
  .rintro⟨x,hx,h⟩;refine⟨x,d_.mpr ⟨hx,?_⟩⟩;have:=(g.child hx).1;unfold au;rw[zqt (show c+1<=x by omega),h];rfl
  .rintro⟨x,hx⟩;obtain⟨h1,h2⟩:=d_.mp hx;unfold au at h2;rw[qm] at h2;exact⟨x,h1,h2.2⟩
theorem ARc{l:e_}(g:Good l){e i:Nat}(h:l.persons.length<=i):vK l e i=false:=by rw[AJ4 g,RG h,Mg g h];simp
theorem ATC(T:Txt K mg t):A2 P w K mg AG FI 4 t.CZ t.DX ["self"] (AN8 t K):=by
 have Ab:=@GD P w K mg AG t T;have BK:=@NX P w K mg AG t T;have EB:=@AOU P w K mg AG t T;refine T.F5.ok Iu (λvs H Q E h=>?_) (λDM A AR s H vs Q E hr h=>?_)
 .obtain⟨_,_,_,_,_,_,_,_,_,rfl,_⟩:=h;rfl
 have hu:=IG hr;obtain⟨a,dx,fs,F,l,lw,MN,Eu,e,rfl,ln,cx,q⟩:=h;refine⟨_,(AE (Al (i:=1) Iu.nd rfl (qh rfl) JL)
  (AE (Fo qA rfl (QT rfl T.Pg (AA (Cc (AW K rfl (pv 0) rfl) T.AX T.BQ Ab hr.m T.Bl .nil AS) AF)) (BU (i:=2) Iu.nd rfl (qh rfl)) (AI (Bv (PW.pt (Pq (CD (Aj (AW K rfl (pv 0) rfl) T.AX T.DN BK hr.m T.Eh .nil AS (AA (pv 2) (AA (AW K rfl (pv 0) rfl) AF)))) (O6 (Cy Yr (CO FH rfl T.Ks IV (AA (Aj (pv 0) T.D9 T.FT EB hr.m T.IX .nil AS (AA (pv 2) (AA (pv 1) AF))) AF)) Ac (Cn _))))) (AI (KL hu (pv 1) (pv 2) V0 rfl)) Ax)))
  (AI (AV (pv 1))))),?_⟩
 clear Ab BK EB;have g:=cx.g;have GV:=g.GV;have Zq:=cx.Fi.len
 z_go
 intro r UT;have s0:AM H (upd H r (HO.dK [])):=AM.new UT;have j6:W5 (upd H r (HO.dK [])) r 0 (λ_=>false):=W5.new;have kq:=cx.same s0;have j7:=ln.same s0;have o1:=j7.obj;have o2:=j7.Fi;have o5:=kq.Fi.obj;have o6:=kq.Fi.lst;generalize upd H r (HO.dK [])=H1 at *;unfold ET
 z_go
 rw[χ];refine⟨by omega,λb H2 s2 nb hb=>⟨_,Er.of hb,?_⟩⟩;rw[Zq] at hb ⊢;have jl:=s0.trans s2;refine CP (Aq (ups (pW l.persons.length))).reverse (λj σ H'=>AM H H'/\H' b=some (.lst (Aq (ups (pW l.persons.length))))/\∃o,σ=[some (.ref a),some (.ref r),o]/\W5 H' r j (au l e (l.persons.length-j)))
  ⟨jl,hb,none,rfl,(j6.same s2).congr (λi=>?_) (b_ _)⟩ (λj σ H' wj=>by have:=Tq (Er.of (K:=K) wj.2.1);exact this) (λj x σ H' hx ⟨s',Jg,o,es,lv'⟩=>?_) (λσ H' ⟨s',Jg,o,es,lv'⟩=>?_)
 .unfold au;by_cases c:l.persons.length<=i
  .rw[ARc g c,ue]
  .rw[zdf (by omega)];rfl
 .subst es;have hj:j<l.persons.length:=by have:=(l_.mp hx).1;rw[rH,Hi,qx] at this;exact this
  have hc:l.persons.length-1-j<l.persons.length:=by omega
  have Wl:x=.int (((l.persons.length-1-j+1:Nat)):Int):=by rw[uf (by rw[Hi,qx];exact hj),Hi,qx] at hx;exact VZ hx (rJ hc)
  have e1:l.persons.length-(j+1)=l.persons.length-1-j:=by omega
  have e2:l.persons.length-j=l.persons.length-1-j+1:=by omega
  rw[e1];rw[e2] at lv';generalize l.persons.length-1-j=c at *;subst Wl;have eZ:=cx.same s';have eE:=ln.same s';have n1:=eE.obj;have n2:=eE.Fi;have n3:=eE.o8;have n5:=eZ.Fi.obj;have n6:=eE.m1;obtain⟨dd,Wn⟩:=cx.dd;have he:=cx.he;have step:∀i,au l e c i=(au l e (c+1) i||(i==c&&vK l e c)):=λi=>by
   unfold au;by_cases z:i=c
   .subst z;rw[zqt (b_ _),zdf (by omega)];simp
   .have:(i==c)=false:=by simp[z]
    rw[this,sZ,wo];congr 1;rw[qV,decide_eq_true_iff,decide_eq_true_iff];omega
  have yes:∀H3,AM H' H3->vK l e c=true->∃H4,P4 H3 r (V.int (((c+1:Nat)):Int)) (.bl true) H4/\AM H H4/\H4 b=some (.lst (Aq (ups (pW l.persons.length))))/\W5 H4 r (j+1) (au l e c):=λH3 s3 hl=>by obtain⟨H4,p1,⟨o,p2⟩,p3⟩:=(lv'.same s3).put (f':=au l e c) (c:=c) (by omega) (λi=>by rw[step i,hl,yH]);obtain⟨kvs,d,k1,_⟩:=lv'.same s3;refine⟨H4,p1,by rw[p2];exact(s'.trans s3).Ow UT,?_,p3⟩;rw[p2,AH (D5 (s3 _ _ Jg) k1 (by intro z;cases z))];exact s3 _ _ Jg
  have no:∀H3,AM H' H3->vK l e c=false->W5 H3 r (j+1) (au l e c):=λH3 s3 hl=>(lv'.same s3).congr (λi=>by rw[step i,hl,ue,wo]) (wB _);have ls:=APm g (e:=e) (c:=c);clear q o1 o5 o6 hx step
  z_go
  refine⟨F,l,c+1,e,dd,rfl,g,eZ.Fi,hc,he,Wn,λH3 s3=>?_⟩;have mn:Sx l e (c+1)=t_ l e c:=by unfold Sx;rw[ζ (by omega),qH]
  rw[mn];refine⟨_,rfl,?_⟩;by_cases m:t_ l e c=true
  .rw[η m];exact yes H3 s3 (by rw[ls,m];rfl)
  .rw[ζ m];have m':t_ l e c=false:=by simpa using m
   rw[m',uE] at ls;refine⟨_,_,s3 _ _ n1,n6,a,dx,fs,F,l,lw,MN,Eu,e,c,r,_,rfl,eE.same s3,eZ.same s3,(lv'.same s3).lv (by omega),λr2 H5 s5 _ XA=>⟨r2,rfl,_,XA,?_⟩⟩;rw[Hi];have aV:=s3.trans s5;by_cases z:0<(Rj l e c (au l e (c+1))).length
   .rw[η (zqt (by omega))];exact yes H5 aV (by rw[ls,zqt z])
   .rw[ζ (λy=>z (by have:=zod y;omega))];exact⟨s'.trans aV,aV _ _ Jg,no H5 aV (by rw[ls,zdf z])⟩
 .subst es;rw[rH,Hi,qx,wU] at lv';refine q r H' s' UT ((lv'.congr (λi=>?_) (b_ _)).lv (by omega));unfold au;rw[zqt (qG _),sf]
inductive AN5(t:Ad)(K : ξ)(vs:List V)(H:Hp)(Q:VK)(Xk:XK):Prop
 |mk:∀a dx fs F l lw MN Eu e lv f,vs=[.ref a,.ref lv]->Yc t H a dx fs F.f lw e->aN t K H l F lw MN Eu e->SV H lv f->(∀r H',AM H H'->H r=none->SV H' r (λi=>(g_ l i).parents.any f)->Q (.ref r) H')->AN5 t K vs H Q Xk
def jG(l:e_)(f:Nat->Bool)(j i:Nat):Bool:=decide (i<j)&&(g_ l i).parents.any f
theorem ARE(l:e_)(i:Nat)(f:Nat->Bool):decide (0<(fE l i f).length)=(g_ l i).parents.any f:=by unfold fE;rw[qV,decide_eq_true_iff,uc,List.length_pos_iff_exists_mem];exact⟨λ⟨x,hx⟩=>⟨x,(d_.mp hx).1,(d_.mp hx).2⟩,λ⟨x,h1,h2⟩=>⟨x,d_.mpr ⟨h1,h2⟩⟩⟩
theorem ATA(T:Txt K mg t):A2 P w K mg AG FI 3 t.BB t.Ba ["self","live"] (AN5 t K):=by
 have Ab:=@GD P w K mg AG t T;have DL:=@AOV P w K mg AG t T;refine T.C1.ok EU (λvs H Q E h=>?_) (λDM A AR s H vs Q E hr h=>?_)
 .obtain⟨_,_,_,_,_,_,_,_,_,_,_,rfl,_⟩:=h;rfl
 have hu:=IG hr;obtain⟨a,dx,fs,F,l,lw,MN,Eu,e,lv,f,rfl,ln,cx,j5,q⟩:=h;refine⟨_,(AE (Al (i:=2) EU.nd rfl (qh rfl) JL)
  (AE (Fo qA rfl (FO K rfl (Cc (AW K rfl (pv 0) rfl) T.AX T.BQ Ab hr.m T.Bl .nil AS)) (BU (i:=3) EU.nd rfl (qh rfl)) (AI (Bv (Cy Yr (CO FH rfl T.Ks IV (AA (Aj (pv 0) T.D9 T.EE DL hr.m T.Gx .nil AS (AA (pv 3) (AA (pv 1) AF))) AF)) Ac (Cn _)) (AI (KL hu (pv 2) (pv 3) V0 rfl)) Ax)))
  (AI (AV (pv 2))))),?_⟩
 clear Ab DL;have g:=cx.g;have GV:=g.GV;have Zq:=cx.Fi.len
 z_go
 intro r UT;have s0:AM H (upd H r (HO.dK [])):=AM.new UT;have j6:W5 (upd H r (HO.dK [])) r 0 (λ_=>false):=W5.new;have kq:=cx.same s0;have j7:=ln.same s0;have o1:=j7.obj;have o2:=j7.Fi;have o5:=kq.Fi.obj;have o6:=kq.Fi.lst;generalize upd H r (HO.dK [])=H1 at *;unfold ET
 z_go
 rw[χ];refine⟨by omega,λb H2 s2 nb hb=>⟨⟨_,Er.of hb⟩,?_⟩⟩;rw[Zq] at hb;have jl:=s0.trans s2;refine CP (Aq (ups (pW l.persons.length))) (λj σ H'=>AM H H'/\H' b=some (.lst (Aq (ups (pW l.persons.length))))/\∃o,σ=[some (.ref a),some (.ref lv),some (.ref r),o]/\W5 H' r j (jG l f j))
  ⟨jl,hb,none,rfl,(j6.same s2).congr (λi=>rfl) (b_ _)⟩ (λj σ H' wj=>CV (Er.of wj.2.1)) (λj x σ H' hx ⟨s',Jg,o,es,lv'⟩=>?_) (λσ H' ⟨s',Jg,o,es,lv'⟩=>?_)
 .subst es;have hj:j<l.persons.length:=by have:=(l_.mp hx).1;rw[Hi,qx] at this;exact this
  obtain rfl:=VZ hx (rJ hj);have eZ:=cx.same s';have eE:=ln.same s';have n1:=eE.obj;have n6:=eE.m2;have step:∀i,jG l f (j+1) i=(jG l f j i||(i==j&&(g_ l j).parents.any f)):=λi=>by
   unfold jG;by_cases z:i=j
   .subst z;rw[zqt (tG _),zdf (r_ _)];simp
   .have:(i==j)=false:=by simp[z]
    rw[this,sZ,wo];congr 1;rw[qV,decide_eq_true_iff,decide_eq_true_iff];omega
  clear q o1 o5 o6 hx
  z_go
  refine⟨a,dx,fs,F,l,lw,MN,Eu,e,j,lv,f,rfl,eE,eZ,hj,j5.same s',λr2 H5 s5 _ XA=>⟨r2,rfl,_,XA,?_⟩⟩;rw[Hi];have pl:=ARE l j f;by_cases z:0<(fE l j f).length
  .rw[η (zqt (by omega))];rw[zqt z] at pl;obtain⟨H4,p1,⟨o,p2⟩,p3⟩:=(lv'.same s5).put (f':=jG l f (j+1)) (c:=j) (by omega) (λi=>by rw[step i,<-pl,yH]);obtain⟨kvs,d,k1,_⟩:=lv'.same s5;refine⟨H4,p1,by rw[p2];exact(s'.trans s5).Ow UT,?_,p3⟩;rw[p2,AH (D5 (s5 _ _ Jg) k1 (by intro z;cases z))];exact s5 _ _ Jg
  .rw[ζ (λy=>z (by have:=zod y;omega))];rw[zdf z] at pl;exact⟨s'.trans s5,s5 _ _ Jg,(lv'.same s5).congr (λi=>by rw[step i,<-pl,ue,wo]) (wB _)⟩
 .subst es;rw[Hi,qx] at lv';refine q r H' s' UT ((lv'.congr (λi=>?_) (b_ _)).lv (by omega));unfold jG;by_cases c:i<l.persons.length
  .rw[zqt c,sf]
  .rw[ALf (by omega)];simp
def XM(H H':Hp):Prop:=∀b o,H b=some o->(∀C dx,o≠.ins C dx [])->H' b=some o
theorem jE{C dx : Ξ}{fs:List (qf×V)}(h:0<fs.length):∀C' i6,HO.ins C dx fs≠.ins C' i6 []:=λC' i6 e=>by injection e with _ _ e;rw[e] at h;exact absurd h (by lk)
theorem Cj.S6{H H':Hp}{l:e_}{F:FA}(A:Cj t H l F)(k:XM H H'):Cj t H' l F:=⟨k _ _ A.obj (jE (by rw[AFc];decide)),k _ _ A.lst (λ_ _ e=>by cases e),A.nd,A.len,λj a h=>let ⟨dx,pa,m,h1,h2⟩:=A.ZX j a h;⟨dx,pa,m,k _ _ h1 (jE (by rw[Po];decide)),k _ _ h2 (λ_ _ e=>by cases e)⟩,k _ _ A.Rm (λ_ _ e=>by cases e),λb hb=>let ⟨xs,hx⟩:=A.Uv b hb;⟨xs,k _ _ hx (λ_ _ e=>by cases e)⟩,A.UB⟩
theorem BH.S6{H H':Hp}{v:V}{p:Nat×Nat}(h:BH K H v p)(k:XM H H'):BH K H' v p:=by
 obtain⟨a,e,h⟩:=h;refine⟨a,e,?_⟩;rcases h with(h|⟨o,h⟩)|h
 .exact .inl (.inl (k _ _ h (λ_ _ e=>by cases e)))
 .exact .inl (.inr ⟨o,k _ _ h (λ_ _ e=>by cases e)⟩)
 .exact .inr h
theorem MW.S6{H H':Hp}{a dx Eu : Ξ}{l:e_}(h:MW t K H a dx Eu l)(k:XM H H'):MW t K H' a dx Eu l:=by obtain⟨kp,SY,kk,ss,h1,h2,h3,h4,r⟩:=h;exact⟨kp,SY,kk,ss,k _ _ h1 (jE (by rw[AQM];decide)),h2.S6 k,k _ _ h3 (λ_ _ e=>by cases e),Paired.SA h4 λ_ _ q=>q.S6 k,r⟩
theorem aN.S6{H H':Hp}{l:e_}{F:FA}{lw MN Eu : Ξ}{e:Nat}(h:aN t K H l F lw MN Eu e)(k:XM H H'):aN t K H' l F lw MN Eu e:=⟨h.g,h.Fi.S6 k,h.law.S6 k,h.he,h.dd⟩
theorem AMC{H H':Hp}{a C dx : Ξ}(h0:H a=some (.ins C dx []))(k:∀b o,H b=some o->b≠a->H' b=some o):XM H H':=λb o h n=>k b o h λe=>by rw[e,h0] at h;exact n C dx (j_ h).symm
def fJ(f lw : Ξ)(e:Nat):List (qf×V):=CT "dead" (.int (((e+1:Nat)):Int)) (CT "law" (.ref lw) (CT "family" (.ref f) []))
theorem AVK{H:Hp}{a dx f lw : Ξ}{e:Nat}(h:H a=some (.ins t.Ay dx (fJ f lw e))):Yc t H a dx (fJ f lw e) f lw e:=⟨h,rfl,rfl,rfl,rfl,rfl,rfl,rfl,rfl⟩
theorem RI{H:Hp}{a dx f lw la : Ξ}{e:Nat}(h:H a=some (.ins t.Ay dx (Fg (.ref f) (.ref lw) (.int (((e+1:Nat)):Int)) (.ref la)))):Yc t H a dx (Fg (.ref f) (.ref lw) (.int (((e+1:Nat)):Int)) (.ref la)) f lw e:=⟨h,rfl,rfl,rfl,rfl,rfl,rfl,rfl,rfl⟩
structure Mi(t:Ad)(H:Hp)(a : Ξ)(l:e_)(f lw : Ξ)(e n:Nat)(dx la : Ξ)(Kc:List Ξ):Prop where
 obj:H a=some (.ins t.Ay dx (Fg (.ref f) (.ref lw) (.int (((e+1:Nat)):Int)) (.ref la)))
 lst:H la=some (.lst (Kc.map V.ref))
 len:Kc.length=n
 lv:∀k v,Kc[k]?=some v->SV H v (u9 l e k)
theorem Mi.same{H H':Hp}{a f lw dx la : Ξ}{l:e_}{e n:Nat}{Kc:List Ξ}(h:Mi t H a l f lw e n dx la Kc)(s:AM H H'):Mi t H' a l f lw e n dx la Kc:=⟨s _ _ h.obj,s _ _ h.lst,h.len,λk v q=>(h.lv k v q).same s⟩
inductive ALJ(t:Ad)(K : ξ)(vs:List V)(H:Hp)(Q:VK)(Xk:XK):Prop
 |mk:∀a dx F l lw MN Eu e,vs=[.ref a,.ref F.f,.ref lw,.int (((e+1:Nat)):Int)]->H a=some (.ins t.Ay dx [])->aN t K H l F lw MN Eu e->(∀H' la Kc,(∀b o,H b=some o->b≠a->H' b=some o)->Mi t H' a l F.f lw e 5 dx la Kc->Q .Es H')->ALJ t K vs H Q Xk
def ARa:Option HO->Nat
 |some (.lst xs)=>xs.length
 |_=>0
theorem ARN(T:Txt K mg t):A2 P w K mg AG FI 5 t.Gs t.Ik ["self","family","law","dead"] (ALJ t K):=by
 have ABO:=@ATC P w K mg AG t T;have AAJ:=@ATA P w K mg AG t T;refine T.Lm.ok AIT (λvs H Q E h=>?_) (λDM A AR s H vs Q E hr h=>?_)
 .obtain⟨_,_,_,_,_,_,_,_,rfl,_⟩:=h;rfl
 obtain⟨a,dx,F,l,lw,MN,Eu,e,rfl,ha,cx,q⟩:=h;refine⟨_,(AE (Dh (pv 0) (pv 1) rfl)
  (AE (Dh (pv 0) (pv 2) rfl)
  (AE (Dh (pv 0) (pv 3) rfl)
  (AE (Dh (pv 0) (EV (AA (Cc (pv 0) T.D9 T.JG ABO hr.m T.AA4 .nil AS) AF)) rfl)
  (AI (Vr qA (Cy AUM (CO FH rfl T.Ks IV (AA (AW K rfl (pv 0) rfl) AF)) (An rfl T.RZ) (Cn _)) (AI (FN (Vz rV tM tL OV (AW K rfl (pv 0) rfl) (AA (Aj (pv 0) T.D9 T.EW AAJ hr.m T.AAA .nil AS (AA (A9 A3 (AW K rfl (pv 0) rfl) (AWN AUc Ac) (λ_ _=>rfl)) AF)) AF)))))))))),?_⟩
 clear ABO AAJ
 z_go
 have kN:XM H (upd H a (HO.ins t.Ay dx (fJ F.f lw e))):=AMC ha (λb o h n=>by rw[AH n];exact h);have dF:upd H a (HO.ins t.Ay dx (fJ F.f lw e)) a=some (HO.ins t.Ay dx (fJ F.f lw e)):=AD;refine⟨rfl,a,dx,fJ F.f lw e,F,l,lw,MN,Eu,e,rfl,AVK dF,cx.S6 kN,λr H1 s1 nr nW p hp=>?_⟩;have s1:AM (upd H a (HO.ins t.Ay dx (fJ F.f lw e))) H1:=s1;have WL:=s1 _ _ dF;have af:a≠p:=AO WL hp;obtain⟨Ww,dr,oB,_⟩:=id nW;have aZ:r≠a:=D5 oB WL (by intro z;cases z);have nM:r≠p:=AO oB hp;refine⟨t.Ay,dx,fJ F.f lw e,by rw[AH af];exact WL,T.D9,T.D6,(show 3<1000 by lk),?_⟩;have ef:CT "live_above" (.ref p) (fJ F.f lw e)=Fg (.ref F.f) (.ref lw) (.int (((e+1:Nat)):Int)) (.ref p):=rfl;rw[ef];have lv1:SV (upd (upd H1 p (HO.lst [V.ref r])) a (HO.ins t.Ay dx (Fg (V.ref F.f) (V.ref lw) (V.int (((e+1:Nat)):Int)) (V.ref p)))) r (u9 l e 0):=by obtain⟨kvs,d,h1,rest⟩:=nW;exact⟨kvs,d,by rw[AH aZ,AH nM];exact h1,rest⟩
 have L0:Mi t (upd (upd H1 p (HO.lst [V.ref r])) a (HO.ins t.Ay dx (Fg (V.ref F.f) (V.ref lw) (V.int (((e+1:Nat)):Int)) (V.ref p)))) a l F.f lw e 1 dx p [r]:=⟨AD,by rw[AH (qk af),AD];rfl,rfl,λk v h=>by
  cases k with
  |zero=>simp at h;subst h;exact lv1
  |succ k=>simp at h⟩
 have kp0:∀b o,H b=some o->b≠a->(upd (upd H1 p (HO.lst [V.ref r])) a (HO.ins t.Ay dx (Fg (V.ref F.f) (V.ref lw) (V.int (((e+1:Nat)):Int)) (V.ref p)))) b=some o:=λb o h n=>by have h1:=s1 b o (by rw[AH n];exact h);rw[AH n,AH (AO h1 hp)];exact h1
 generalize upd (upd H1 p (HO.lst [V.ref r])) a (HO.ins t.Ay dx (Fg (V.ref F.f) (V.ref lw) (V.int (((e+1:Nat)):Int)) (V.ref p)))=H2 at L0 kp0 ⊢;have iN:H p=none:=by have:=s1.free hp;rw[AH (qk af)] at this;exact this
 clear lv1 ef WL s1 dF kN nW hp oB;refine VY (λσ H'=>σ=[some (V.ref a),some (V.ref F.f),some (V.ref lw),some (V.int (((e+1:Nat)):Int))]/\(∀b o,H b=some o->b≠a->H' b=some o)/\∃n Kc,1<=n/\n<=5/\Mi t H' a l F.f lw e n dx p Kc)
  (λ_ H'=>5-ARa (H' p)) ⟨rfl,kp0,1,[r],b_ _,by lk,L0⟩ ?_ ?_
 .rintro σ H3 ⟨rfl,kp,n,Kc,n1,n5,L⟩;have o1:=L.obj;have o2:=L.lst;have ol:=L.len;have pA:=cx.S6 (AMC ha kp);have lst0:ARa (H3 p)=n:=by rw[o2];show(Kc.map V.ref).length=n;rw[χ,ol]
  z_go
  rw[χ,ol];by_cases c:n<5
  .rw[η (zqt (by omega))];obtain⟨ini,z,ez⟩:∃ini z,Kc=ini++[z]:=by
    rcases List.eq_nil_or_concat Kc with h|⟨ini,z,h⟩
    .rw[h] at ol;simp at ol;omega
    .exact⟨ini,z,by rw[h];simp⟩
   have li:ini.length=n-1:=by rw[ez,pP] at ol;simp at ol;omega
   have hz:Kc[n-1]?=some z:=by rw[ez,<-li];simp
   obtain⟨k,rfl⟩:∃k,n=k+1:=⟨n-1,by omega⟩
   refine⟨.inl ⟨rfl,_,Er.of o2⟩,.ref z,by rw[ez,se];exact AST _ _,a,dx,_,F,l,lw,MN,Eu,e,z,u9 l e k,rfl,RI o1,pA,L.lv k z hz,λr2 H4 s4 lN lv2=>?_⟩;have o24:=s4 _ _ o2;refine⟨_,o24,by rw[χ,ol];exact pN (show k+1<=5 by omega) (by lk),λb o h nb=>?_,⟨k+2,by omega,by omega,Kc++[r2],⟨?_,?_,by rw[pP,ol];rfl,λj v hv=>?_⟩⟩,?_⟩
   .have h3:=kp b o h nb;rw[AH (AO h iN)];exact s4 _ _ h3
   .rw[AH af];exact s4 _ _ o1
   .rw[AD,se];rfl
   .have up:∀v f,SV H4 v f->SV (upd H4 p (HO.lst (Kc.map V.ref++[V.ref r2]))) v f:=λv f ⟨kvs,d,h1,rest⟩=>⟨kvs,d,by rw[AH (D5 h1 o24 (by intro z;cases z))];exact h1,rest⟩
    by_cases hj:j<Kc.length
    .rw[sF hj] at hv;exact up _ _ ((L.lv j v hv).same s4)
    .rw[sY (by omega)] at hv;have ej:j=k+1:=by have:=(l_.mp hv).1;simp at this;omega
     rw[ej,ol,wU] at hv;have:r2=v:=by simpa using hv
     rw[<-this,ej];exact up _ _ lv2
   .show 5-(Kc.map V.ref++[V.ref r2]).length<5-(Kc.map V.ref).length;rw[pP,χ,ol,tD];omega
  .rw[ζ (λy=>c (by have:=zod y;omega))];have:n=5:=by omega
   subst this;exact q H3 p Kc kp L
 .intro σ H3 Q1 Q2 hq h;obtain⟨v,e1,p1,C,dx1,fs,v1,e2,e3,e4,e5,e6,p2,e7,x,e8,i,j,e9,e10,k,e11,q1⟩:=Tz h;exact Tw e1 ⟨p1,C,dx1,fs,v1,e2,e3,e4,e5,e6,p2,e7,x,e8,i,j,e9,e10,k,e11,hq _ _ q1⟩
def XR:Option Nat->V
 |none=>.Es
 |some k=>.int ((k:Nat):Int)
inductive ALL(t:Ad)(K : ξ)(vs:List V)(H:Hp)(Q:VK)(Xk:XK):Prop
 |mk:∀a l f lw e dx la Kc,vs=[.ref a]->Mi t H a l f lw e 5 dx la Kc->Q (XR (rS l e)) H->ALL t K vs H Q Xk
theorem AP7{p:Nat->Bool}:∀(k n:Nat),(∀i,i<k->p i=false)->k<n->p k=true->(pW n).find? p=some k:=by intro k n h hn hp;rw[List.find?_eq_some_iff_getElem];refine⟨hp,k,by rw[qx];exact hn,by rw[List.getElem_range],λj hj=>by rw[List.getElem_range,h j hj];rfl⟩
theorem ARQ(T:Txt K mg t):A2 P w K mg AG FI 1 t.BL t.Bf ["self"] (ALL t K):=by
 refine T.DJ.ok AAB (λvs H Q E h=>?_) (λDM A AR s H vs Q E hr h=>?_)
 .obtain⟨_,_,_,_,_,_,_,_,rfl,_⟩:=h;rfl
 have hu:=IG hr;obtain⟨a,l,f,lw,e,dx,la,Kc,rfl,L,q⟩:=h;refine⟨_,(AE (Fo qA rfl (APT rfl T.VT (AA (An rfl T.RZ) AF)) (BU (i:=1) AAB.nd rfl (qh rfl)) (AI (Bv (KI (MG hu (AW K rfl (pv 0) rfl) (A9 A3 (AW K rfl (pv 0) rfl) (pv 1) (λ_ _=>rfl)))) (AI (AV (pv 1))) Ax)))
  (AI (AV ZY))),?_⟩
 have o1:=L.obj;have o2:=L.lst;have ol:=L.len
 z_go
 refine⟨by lk,by lk,?_⟩;refine CP (steps 0 1 5) (λj σ H'=>H'=H/\(∃o,σ=[some (.ref a),o])/\∀i,i<j->u9 l e i e=false) ⟨rfl,⟨_,rfl⟩,λi hi=>absurd hi (Nat.not_lt_zero _)⟩ (λj σ H' _=>AK1) (λj x σ H' hx ⟨eH,⟨o,es⟩,hno⟩=>?_) (λσ H' ⟨eH,⟨o,es⟩,hno⟩=>?_)
 .subst es eH;have hj:j<5:=by have:=(l_.mp hx).1;rw[G7] at this;exact this
  rw[QE hj] at hx;obtain rfl:=j_ hx;have iW:j<Kc.length:=by omega
  have hz:Kc[j]?=some Kc[j]:=n_ iW;have ez:(0:Int)+(j:Nat)*1=((j:Nat):Int):=by omega
  have at0:WY (Kc.map V.ref) ((j:Nat):Int)=some (.ref Kc[j]):=Nh (by rw[m_,hz];rfl);obtain⟨oo,d1,d2⟩:=(L.lv j _ hz).get e;generalize Kc[j]=z at *;clear hx hz;rw[ez]
  z_go
  refine⟨oo,d1,?_⟩;rw[d2];by_cases c:u9 l e j e=true
  .rw[η c];have:rS l e=some j:=AP7 j 5 hno hj c;rw[this] at q;exact q
  .rw[ζ c];refine λi hi=>?_;by_cases z:i<j
   .exact hno i z
   .have:i=j:=by omega
    rw[this];simpa using c
 .subst es eH;have:rS l e=none:=by unfold rS;rw[List.find?_eq_none];intro i hi;have hi':i<5:=sQ.mp hi;rw[hno i (by rw[G7];exact hi')];exact Λ
  rw[this] at q;exact q
set_option exponentiation.threshold 2000
theorem AVr:Oq<2^20:=by decide
theorem AO4(k:Nat):Oq^k<=2^(20*k):=by rw[Nat.pow_mul];exact Nat.pow_le_pow_left (tN AVr) k
theorem ARF(k:Nat):17^k<=2^(5*k):=by rw[Nat.pow_mul];exact Nat.pow_le_pow_left (by lk) k
theorem FP{a b x y:Nat}(h:a<2^x)(k:b<=2^y):a*b<2^(x+y):=by rw[xq];exact p8 (Nat.mul_lt_mul_of_pos_right h (uq y)|>λz=>pN (uG a k) z) (b_ _)
theorem VL{x:pO}{E C j B:Nat}(hE:E<2^200)(hC:C<2^30)(hj:j<=17)(hB:B<=17^17*C)(h:Sz (E*Oq^j) B x):Sm x:=by
 have h1:E*Oq^j<2^(200+20*17):=by refine FP hE (a_ (AO4 j) (qj (by lk) (by omega)))
 have h2:B<2^(30+5*17):=by refine pN hB ?_;rw[vg];exact FP hC (ARF 17)
 exact h.sm h1 h2 (by lk)
def OZ(l:e_)(e:Nat)(d:D pO)(j:Nat):D pO×D pO:=(pW j).foldl (JN l e) (d,[])
theorem AH0(l:e_)(e:Nat)(d:D pO)(j:Nat):OZ l e d (j+1)=JN l e (OZ l e d j) j:=by unfold OZ;rw[List.range_succ,rj];rfl
structure Tg(l:e_)(E C:Nat)(d:D pO):Prop where
 nd:(AJ d).Nodup
 k:∀n∈AJ d,1<=n/\n<=l.persons.length
 sz:K3 E C d
 pE:0<E
theorem Tg.ok{l:e_}{E C:Nat}{d:D pO}(h:Tg l E C d):Lc d:=λx hx=>(h.sz x hx).ok
theorem AMJ{l:e_}(g:Good l){e E C:Nat}{d:D pO}(h:Tg l E C d)(j:Nat):Tg l (E*Oq^j) (17^j*C) (OZ l e d j).1/\Tg l (E*Oq^j) (17^j*C) (OZ l e d j).2:=by
 have z:=AMK g (e:=e) j 0 h.pE h.sz (show K3 E C (d,([]:D pO)).2 from λx hx=>by cases hx);rw[<-vc] at z;have pE:0<E*Oq^j:=p7 h.pE (Wh j);have keys:∀j,(AJ (OZ l e d j).1).Nodup/\(AJ (OZ l e d j).2).Nodup/\(∀n∈AJ (OZ l e d j).1,1<=n/\n<=l.persons.length)/\∀n∈AJ (OZ l e d j).2,1<=n/\n<=l.persons.length:=by
  intro j
  induction j with
  |zero=>exact⟨h.nd,by simp[OZ,AJ],h.k,λn hn=>by cases hn⟩
  |succ j ih=>
   rw[AH0];obtain⟨i1,i2,i3,i4⟩:=ih;unfold JN;split
   .exact⟨i1,i2,i3,i4⟩
   .rename_i a ha;split
    .refine⟨i1,LF i2 _ _,i3,λn hn=>?_⟩;rcases D7.mp hn with q|q
     .rw[q];exact i3 _ (by have:=GO ha;exact Θ.mpr ⟨_,this,rfl⟩)
     .exact i4 n q
    .refine⟨QV i1 _ _,i2,λn hn=>?_,i4⟩;rcases SE.mp hn with q|q
     .obtain⟨c,hc,rfl⟩:=VI.mp q;have:=Zj g hc;omega
     .exact i3 n q
 obtain⟨k1,k2,k3,k4⟩:=keys j;exact⟨⟨k1,k3,z.1,pE⟩,⟨k2,k4,z.2,pE⟩⟩
inductive AN9(t:Ad)(K : ξ)(vs:List V)(H:Hp)(Q:VK)(Xk:XK):Prop
 |mk:∀a am F l lw MN Eu e dx la Kc kvs d E C,vs=[.ref a,.ref am]->Mi t H a l F.f lw e 5 dx la Kc->aN t K H l F lw MN Eu e->H am=some (.dK kvs)->DQ K H kvs d->Tg l E C d->E<2^200->C<2^30->(∀r H' kvs',AM H H'->H r=none->H' r=some (.dK kvs')->DQ K H' kvs' (Oa l e d)->Q (.ref r) H')->AN9 t K vs H Q Xk
theorem ASV{l:e_}(g:Good l){j E C:Nat}{d:D pO}{x:pO}(hE:E<2^200)(hC:C<2^30)(hj:j<=16)(am:Tg l (E*Oq^j) (17^j*C) d)(hx:Sz (E*Oq^j) (17^j*C) x)(ks:List Nat)(hk:ks.length<=16):
  Sm x/\(ks≠[]->Sm (x.div ⟨ks.length,1⟩))/\∀i n,Sm (Ak ((ks.take i).foldl (λd k=>Am d k (x.div ⟨ks.length,1⟩)) d) n):=by
 have pp:17^j*C<=17^17*C:=pR _ (qj (by lk) (by omega));have pE:0<E*Oq^(j+1):=by have:=am.pE;rw[rN,<-sW];exact p7 this TZ
 have dvj:E*Oq^j∣E*Oq^(j+1):=⟨Oq,by rw[rN];ac_rfl⟩
 have dvk:ks≠[]->E*Oq^j*ks.length∣E*Oq^(j+1):=λz=>by rw[rN,<-sW];exact uv _ (YM _ (rA.mpr z) hk)
 refine⟨VL hE hC (by omega) pp hx,λz=>?_,λi n=>?_⟩
 .exact VL (j:=j+1) hE hC (by omega) pp ((hx.Zs (rA.mpr z)).mono (dvk z) pE (b_ _))
 .have h0:K3 (E*Oq^(j+1)) (17^j*C) d:=am.sz.mono dvj pE (b_ _);by_cases z:ks=[]
  .subst z;have:(([]:List Nat).take i).foldl (λd k=>Am d k (x.div ⟨([]:List Nat).length,1⟩)) d=d:=by simp
   rw[this];exact VL (j:=j+1) hE hC (by omega) pp (h0.val pE n)
  .have h1:=K3.fold pE ((hx.Zs (rA.mpr z)).mono (dvk z) pE (b_ _)) (ks.take i) h0;refine VL (j:=j+1) hE hC (by omega) ?_ (h1.val pE n);have l1:(ks.take i).length<=16:=a_ (qD _ _) hk;have l2:=pR (17^j*C) l1;have l3:17^(j+1)*C<=17^17*C:=pR _ (qj (by lk) (by omega));rw[rN] at l3;have l4:17^j*17*C=17*(17^j*C):=by ac_rfl
   rw[l4] at l3;omega
theorem APG(l:e_)(e i:Nat):Rj l e i (u9 l e 0)=kids l e i:=rfl
theorem ATD(hP:P.given.tree=none)(T:Txt K mg t):A2 P w K mg AG FI 38 t.Bk t.CM ["self","amounts"] (AN9 t K):=by
 have Ab:=@GD P w K mg AG t T;have BK:=@NX P w K mg AG t T;have EB:=@AOU P w K mg AG t T;have Dk:=@AJp P w K mg AG t hP T;refine T.EG.ok ED (λvs H Q E h=>?_) (λDM A AR s H vs Q E hr h=>?_)
 .obtain⟨_,_,_,_,_,_,_,_,_,_,_,_,_,_,_,rfl,_⟩:=h;rfl
 have hu:=IG hr;obtain⟨a,am,F,l,lw,MN,Eu,e,dx,la,Kc,kvs,d,E0,C0,rfl,L,cx,bS,hd,amo,hE,hC,q⟩:=h;refine⟨_,(AE (Al (i:=2) ED.nd rfl (qh rfl) (Ju AH7 rfl T.Zv AO1 (AA (pv 1) AF)))
  (AE (Al (i:=3) ED.nd rfl (qh rfl) JL)
  (AE (Fo qA rfl (FO K rfl (Cc (AW K rfl (pv 0) rfl) T.AX T.BQ Ab hr.m T.Bl .nil AS)) (BU (i:=4) ED.nd rfl (qh rfl)) (AI (Bv (PW.pt (AQz (KI (MG hu (pv 4) (pv 2))) (AOI (CD (Aj (AW K rfl (pv 0) rfl) T.AX T.DN BK hr.m T.Eh .nil AS (AA (pv 4) (AA (AW K rfl (pv 0) rfl) AF))))))) (AI (KL hu (pv 3) (pv 4) (Dc hu (pv 2) (pv 4) (λ_ _=>rfl)) rfl)) (AI (Bv (KI (MG hu (pv 4) (pv 2))) (AI (FN (Af Dk hr.m rfl T.HY T.CK.kp T.HZ .nil AS (AA (pv 2) (AA (Aj (pv 0) T.D9 T.FT EB hr.m T.IX .nil AS (AA (pv 4) (AA (A9 A3 (AW K rfl (pv 0) rfl) Ac (λ_ _=>rfl)) AF))) (AA (Dc hu (pv 2) (pv 4) (λ_ _=>rfl)) AF)))))) Ax)))))
  (AI (AV (pv 3)))))),?_⟩
 clear Ab BK EB Dk;have g:=cx.g;have GV:=g.GV;have Zq:=cx.Fi.len
 z_go
 refine⟨kvs,rfl,λwa hwa ta l0=>?_⟩;have s1:AM H (upd H wa (HO.dK kvs)):=AM.new hwa;have s2:AM (upd H wa (HO.dK kvs)) (upd (upd H wa (HO.dK kvs)) ta (HO.dK [])):=AM.new l0;have nL:wa≠ta:=λe=>by rw[<-e,AD] at l0;cases l0
 have AWe:H ta=none:=s1.free l0;have kC:upd (upd H wa (HO.dK kvs)) ta (HO.dK []) wa=some (.dK kvs):=by rw[AH nL,AD]
 have ht2:upd (upd H wa (HO.dK kvs)) ta (HO.dK []) ta=some (.dK []):=AD;have T7:=s1.trans s2;generalize upd (upd H wa (HO.dK kvs)) ta (HO.dK [])=H1 at *;have Ym:=DQ.same hd T7;have kj:=cx.same T7;have L1:=L.same T7;have o1:=L1.obj;have o5:=kj.Fi.obj;have o6:=kj.Fi.lst;unfold ET
 z_go
 rw[χ];refine⟨by omega,λb H2 s3 nb hb=>⟨⟨_,Er.of hb⟩,?_⟩⟩;rw[Zq] at hb;refine CP (Aq (ups (pW l.persons.length))) (λj σ H'=>AM H H'/\H' b=some (.lst (Aq (ups (pW l.persons.length))))/\∃o kw kt,σ=[some (.ref a),some (.ref am),some (.ref wa),some (.ref ta),o]/\H' wa=some (.dK kw)/\DQ K H' kw (OZ l e d j).1/\H' ta=some (.dK kt)/\DQ K H' kt (OZ l e d j).2)
  ⟨T7.trans s3,hb,none,kvs,[],rfl,s3 _ _ kC,DQ.same Ym s3,s3 _ _ ht2,.nil⟩ (λj σ H' wj=>CV (Er.of wj.2.1)) (λj x σ H' hx ⟨s',Jg,o,kw,kt,es,gH,fV,ht',TH⟩=>?_) (λσ H' ⟨s',Jg,o,kw,kt,es,gH,fV,ht',TH⟩=>?_)
 .subst es;have hj:j<l.persons.length:=by have:=(l_.mp hx).1;rw[Hi,qx] at this;exact this
  obtain rfl:=VZ hx (rJ hj);have eZ:=cx.same s';have L':=L.same s';have n1:=L'.obj;have n2:=L'.lst;have n5:=eZ.Fi.obj;have he:=cx.he;obtain⟨dd,Wn⟩:=cx.dd;obtain⟨fj,pC⟩:=AMJ g (e:=e) amo j;have l5:=L.len;have nY:Kc[0]?=some Kc[0]:=n_ (by omega);have at0:WY (Kc.map V.ref) 0=some (.ref Kc[0]):=Nh (j:=0) (by rw[m_,nY];rfl);have j6:=L'.lv 0 _ nY;generalize Kc[0]=z0 at *;rw[AH0];generalize hgp:OZ l e d j=pr at *;have AXf:pr.1.length<=16:=a_ (Dn fj.nd fj.k) GV;have AXe:pr.2.length<=16:=a_ (Dn pC.nd pC.k) GV;clear q o1 o5 o6 hx hb nY
  z_go
  have AXX:wa≠b:=D5 gH Jg (by intro z;cases z);have ntb:ta≠b:=D5 ht' Jg (by intro z;cases z);cases ek:BP pr.1 (j+1) with
  |none=>
   have dg:Ld H' wa (V.int (((j+1:Nat)):Int)) none:=.inl ⟨kw,pS (((j+1:Nat)):Int),.inl gH,rfl,(fV.W2 ek).symm⟩;have gs:JN l e pr j=pr:=by unfold JN;rw[ek]
   rw[gs];refine⟨none,dg,?_⟩;rw[ζ (show¬ (none:Option V).isSome=true from Λ)];refine⟨none,dg,?_⟩;rw[ζ (show¬ (none:Option V).isSome=true from Λ)];exact⟨kw,rfl,fV,kt,rfl,TH⟩
  |some x=>
   obtain⟨u,cR,bC⟩:=fV.PX ek;have dg:∀H3,AM H' H3->Ld H3 wa (V.int (((j+1:Nat)):Int)) (some u):=λH3 s3=>.inl ⟨kw,pS (((j+1:Nat)):Int),.inl (s3 _ _ gH),rfl,cR.symm⟩;have ox:Bm x:=fj.ok _ (GO ek);have hsx:=fj.sz _ (GO ek);refine⟨some u,dg H' (.refl _),?_⟩;rw[η (show(some u).isSome=true from rfl)];refine⟨F,l,j+1,e,dd,rfl,g,eZ.Fi,hj,he,Wn,λH3 s3=>⟨_,rfl,?_⟩⟩;have mn:Sx l e (j+1)=t_ l e j:=by unfold Sx;rw[ζ (by omega),qH]
   rw[mn];by_cases m:t_ l e j=true
   .rw[η m];have gs:JN l e pr j=(pr.1,dput pr.2 (j+1) x):=by unfold JN;rw[ek];exact η m
    rw[gs];have nj:=s3 _ _ ht';have jT:=s3 _ _ gH;refine⟨u,dg H3 s3,_,P4.k (k:=pS (((j+1:Nat)):Int)) nj (by rw[TH.len];exact pN AXe (by lk)),(s'.trans s3).Ow AWe,by rw[AH (qk ntb)];exact s3 _ _ Jg,kw,by rw[AH nL];exact jT,DQ.A6 (DQ.same fV s3) Ae.upd nj trivial,_,AD,?_⟩;exact DQ.A6 (Dm.put (DQ.same TH s3) pC.nd (BH.same bC s3)) Ae.upd nj trivial
   .rw[ζ m];have gs:JN l e pr j=(addEq pr.1 (ups (kids l e j)) x,pr.2):=by unfold JN;rw[ek];exact ζ m
    rw[gs];refine⟨some u,dg H3 s3,?_⟩;rw[η (show(some u).isSome=true from rfl)];have nU:=s3 _ _ n1;refine⟨_,_,nU,AAW _ _ _ _,_,_,_,nU,T.D9,T.D6,_,Jq _ _ _ _,la,rfl,_,s3 _ _ n2,_,at0,a,dx,_,F,l,lw,MN,Eu,e,j,z0,_,rfl,RI nU,eZ.same s3,j6.same s3,λr5 H5 s5 nr5 XA=>?_⟩;have aV:=s3.trans s5;have iI:=aV _ _ gH;have ht5:=aV _ _ ht';rw[APG] at XA;have kl:(ups (kids l e j)).length<=16:=by rw[Mc];exact WG g e j
    obtain⟨z1,z2,z3⟩:=ASV g hE hC (by omega) fj hsx (ups (kids l e j)) kl;have qe:qo (qp x)=x:=Vo ox;refine⟨u,dg H5 aV,wa,r5,u,kw,pr.1,ups (kids l e j),qp x,rfl,iI,DQ.same fV aV,fj.nd,fj.ok,by omega,Er.of XA,(by rw[XA,iI];intro z;cases z),BH.same bC aV,ox.1,z1,by rw[qe];exact z2,by rw[qe];exact z3,λH6 AXh b8 oR kO=>?_⟩;rw[qe] at kO;have s6:AM H H6:=λb o h=>b8 b o (AO h hwa) (s'.trans aV b o h);exact⟨s6,b8 _ _ (qk AXX) (aV _ _ Jg),AXh,oR,kO,kt,b8 _ _ (qk nL) ht5,DQ.A6 (DQ.same TH aV) b8 iI trivial⟩
 .subst es;rw[Hi,qx] at TH;exact q ta H' kt s' AWe ht' TH
def ao(l:e_)(e k:Nat)(d:D pO)(i:Nat):D pO:=(d.take i).foldl (λh x=>addEq h (ups (KO l e k (x.1-1))) x.2) []
theorem ARZ{l:e_}{e k:Nat}{d:D pO}{i:Nat}{x:Nat×pO}(h:d[i]?=some x):ao l e k d (i+1)=addEq (ao l e k d i) (ups (KO l e k (x.1-1))) x.2:=by unfold ao;rw[CW h,rj];rfl
theorem AOd(l:e_)(e k:Nat)(d:D pO):ao l e k d d.length=lvl l e k d:=by unfold ao;rw[qL];rfl
theorem Ze{l:e_}(g:Good l){e k E C:Nat}{d:D pO}(h:Tg l E C d)(i:Nat):Tg l (E*2) (32*C) (ao l e k d i):=by
 have GV:=g.GV;have hl:=a_ (Dn h.nd h.k) GV;have q:=Sy g (e:=e) (k:=k) (d.take i) [] (by simp[AJ]) (λn hn=>by cases hn);have z:K3 (E*2) (0+(d.take i).length*(2*C)) (ao l e k d i):=Zd g h.pE (d.take i) (λx hx=>h.sz x (qY hx)) (λx hx=>by cases hx);have pE:0<E*2:=by have:=h.pE;omega
 refine⟨q.1,q.2,z.mono (qi _) pE ?_,pE⟩;have l1:(d.take i).length<=16:=a_ (qD _ _) hl;have:=pR (2*C) l1;omega
theorem APj{l:e_}(g:Good l){e k E C:Nat}{d:D pO}(hE:E<2^190)(hC:C<2^25)(h:Tg l E C d){x:Nat×pO}(hx:x∈d)(i:Nat):
  Sm x.2/\(ups (KO l e k (x.1-1))≠[]->Sm (x.2.div ⟨(ups (KO l e k (x.1-1))).length,1⟩))/\∀j n,Sm (Ak (((ups (KO l e k (x.1-1))).take j).foldl (λd k'=>Am d k' (x.2.div ⟨(ups (KO l e k (x.1-1))).length,1⟩)) (ao l e k d i)) n):=by
 have hm:=Ze g (e:=e) (k:=k) h i;have hz:=h.sz x hx;have pE:=hm.pE;have big:∀{B:Nat}{y:pO},B<=64*C->Sz (E*2) B y->Sm y:=λ{B y} hB hy=>by refine hy.sm (d:=190+1) (b:=25+6) (FP hE (show 2<=2^1 by lk)) ?_ (by lk);refine pN hB ?_;rw[vg];exact FP hC (show 64<=2^6 by lk)
 generalize hk:ups (KO l e k (x.1-1))=ks;have kl:ks.length<=2:=by rw[<-hk,Mc];exact V1 g e k _
 refine⟨big (by omega) (hz.mono (rM _ _) pE (b_ _)),λz=>?_,λj n=>?_⟩
 .exact big (by omega) ((hz.Zs (rA.mpr z)).mono (i7 kl (rA.mpr z)) pE (b_ _))
 .by_cases z:ks=[]
  .subst z;have:(([]:List Nat).take j).foldl (λd k'=>Am d k' (x.2.div ⟨([]:List Nat).length,1⟩)) (ao l e k d i)=ao l e k d i:=by simp
   rw[this];exact big (by omega) (hm.sz.val pE n)
  .have h1:=K3.fold pE ((hz.Zs (rA.mpr z)).mono (i7 kl (rA.mpr z)) pE (b_ _)) (ks.take j) hm.sz;refine big ?_ (h1.val pE n);have l1:(ks.take j).length<=2:=a_ (qD _ _) kl;have:=pR C l1;omega
theorem ASI{xs:List V}{k:Nat}(h:k<=xs.length):WT xs none (some ((k:Nat):Int))=xs.take k:=by unfold WT;rw[HT.ALR,HT.U6,wI h,List.drop_zero,Nat.sub_zero]
inductive ALN(t:Ad)(K : ξ)(vs:List V)(H:Hp)(Q:VK)(Xk:XK):Prop
 |mk:∀a v F l lw MN Eu e dx la Kc k x,vs=[.ref a,.int ((k:Nat):Int),v]->Mi t H a l F.f lw e 5 dx la Kc->aN t K H l F lw MN Eu e->k<=4->FQ K H v x->Sz Cr 1 x->(∀r H' kvs',AM H H'->H r=none->H' r=some (.dK kvs')->DQ K H' kvs' (Ob l e k x)->Q (.ref r) H')->ALN t K vs H Q Xk
theorem ARR(hP:P.given.tree=none)(T:Txt K mg t):A2 P w K mg AG FI 39 t.Ca t.DY ["self","generations","amount"] (ALN t K):=by
 have AAb:=@ATD P w K mg AG t hP T;have DL:=@AOV P w K mg AG t T;have Dk:=@AJp P w K mg AG t hP T;refine T.F6.ok DB (λvs H Q E h=>?_) (λDM A AR s H vs Q E hr h=>?_)
 .obtain⟨_,_,_,_,_,_,_,_,_,_,_,_,_,rfl,_⟩:=h;rfl
 have hu:=IG hr;obtain⟨a,v,F,l,lw,MN,Eu,e,dx,la,Kc,k,x,rfl,L,cx,hk,fv,hx,q⟩:=h;refine⟨_,(AE (Al (i:=3) DB.nd rfl (qh rfl) (Xr (Vs (AW K rfl (pv 0) rfl) (pv 2) Xm) rfl rfl (by simp) (by lk)))
  (AE (Fo qA rfl (QT rfl T.Pg (AA (Vv (Vg K rfl) (AW K rfl (pv 0) rfl) AOL (VB (pv 1))) AF)) (BU (i:=4) DB.nd rfl (qh rfl)) (AE (Al (i:=5) DB.nd rfl (qh rfl) JL)
   (AE (MZ (Fo qA rfl (Ma (pv 3)) (BU (i:=6) DB.nd rfl (qh rfl)) (AI (FN (Af Dk hr.m rfl T.HY T.CK.kp T.HZ .nil AS (AA (pv 5) (AA (Aj (pv 0) T.D9 T.EE DL hr.m T.Gx .nil AS (AA (pv 6) (AA (pv 4) AF))) (AA (Dc hu (pv 3) (pv 6) (λ_ _=>rfl)) AF))))))))
   (AI (Al (i:=3) DB.nd rfl (qh rfl) (pv 5))))))
  (AI (AV (Aj (pv 0) T.D9 T.Gi AAb hr.m T.AAV .nil AS (AA (pv 3) AF)))))),?_⟩
 clear AAb DL Dk;have g:=cx.g;have GV:=g.GV;have o1:=L.obj;have l5:=L.len
 z_go
 intro am bS;have s0:AM H (upd H am (HO.dK [])):=AM.new bS;refine⟨_,_,_,s0 _ _ o1,T.D9,T.N5,_,AFX _ _ _ _,[(pS (((e+1:Nat)):Int),v)],rfl,(show 1<=15 by lk),?_⟩;have mk:N8 [] [((pS (((e+1:Nat)):Int):Key),v)]=[(pS (((e+1:Nat)):Int),v)]:=rfl;rw[mk];have s1:AM H (upd H am (HO.dK [(pS (((e+1:Nat)):Int),v)])):=AM.new bS;have AYG:upd H am (HO.dK [(pS (((e+1:Nat)):Int),v)]) am=some (.dK [(pS (((e+1:Nat)):Int),v)]):=AD;generalize upd H am (HO.dK [(pS (((e+1:Nat)):Int),v)])=H1 at *;have L1:=L.same s1
 z_go
 refine⟨_,_,_,L1.obj,T.D9,T.D6,_,Jq _ _ _ _,la,rfl,_,Er.of L1.lst,λls kL=>⟨_,Er.of AD,?_⟩⟩;have lk:k<=(Kc.map V.ref).length:=by rw[χ];omega
 rw[ASI lk,<-yE];have s2:AM H1 (upd H1 ls (HO.lst ((Kc.take k).map V.ref))):=AM.new kL;have AXs:upd H1 ls (HO.lst ((Kc.take k).map V.ref)) ls=some (.lst ((Kc.take k).map V.ref)):=AD;have hls0:H ls=none:=s1.free kL;generalize upd H1 ls (HO.lst ((Kc.take k).map V.ref))=H2 at *;have T7:=s1.trans s2;have d0:DQ K H2 [((pS (((e+1:Nat)):Int):Key),v)] [(e+1,x)]:=.cons ⟨rfl,BH.same fv T7⟩ .nil;have gZ:Tg l Cr 1 [(e+1,x)]:=⟨by simp[AJ],λn hn=>by have:n=e+1:=i_.mp hn;have:=cx.he;omega,λy hy=>by rw[i_.mp hy];exact hx,Az⟩
 have fK:(Kc.take k).length=k:=by rw[sD];omega
 have AXG:=JU;refine CP ((Kc.take k).map V.ref).reverse (λj σ H'=>AM H H'/\H' ls=some (.lst ((Kc.take k).map V.ref))/\∃am' o4 o5 o6 kw dj,σ=[some (.ref a),some (.int ((k:Nat):Int)),some v,some (.ref am'),o4,o5,o6]/\H am'=none/\H' am'=some (.dK kw)/\DQ K H' kw dj/\Tg l (Cr*2^j) (32^j) dj/\Ku l e (k-j) dj=Ku l e k [(e+1,x)])
  ⟨T7,AXs,am,none,none,none,_,[(e+1,x)],rfl,bS,s2 _ _ AYG,d0,(by rw[yN,tT];exact gZ),by rw[Nat.sub_zero]⟩ (λj σ H' wj=>by have:=Tq (Er.of (K:=K) wj.2.1);exact this) (λj y σ H' hy ⟨s',hls',am',o4,o5,o6,kw,dj,es,aA,ham',hdj,amj,ee⟩=>?_) (λσ H' ⟨s',hls',am',o4,o5,o6,kw,dj,es,aA,ham',hdj,amj,ee⟩=>?_)
 .subst es;have hj:j<k:=by have:=(l_.mp hy).1;rw[rH,χ,fK] at this;exact this
  have hz:Kc[k-1-j]?=some Kc[k-1-j]:=n_ (by omega);have eG:y=.ref Kc[k-1-j]:=by rw[uf (by rw[χ,fK];exact hj),χ,fK,m_,uD (by omega),hz] at hy;exact(j_ hy).symm
  have lvz:=L.lv _ _ hz;have ekj:k-j=(k-1-j)+1:=by omega
  rw[ekj] at ee;have AYL:k-(j+1)=k-1-j:=by omega
  rw[AYL];generalize Kc[k-1-j]=z at *;generalize hkk:k-1-j=kk at *;subst eG;have ee:Ku l e kk (lvl l e kk dj)=Ku l e k [(e+1,x)]:=ee;have eZ:=cx.same s';have eE:=RI (L.same s').obj;have hEj:Cr*2^j<2^190:=p8 (FP AXG (qj (by lk) (show j<=4 by omega))) (qj (by lk) (by lk));have hCj:32^j<2^25:=by have:(32:Nat)^j<=32^3:=qj (by lk) (by omega);omega
  clear q o1 hy hz
  z_go
  intro hg hhg;have nP:H hg=none:=s'.free hhg;have lS:am'≠hg:=AO ham' hhg;have nlh:ls≠hg:=AO hls' hhg;have AWv:upd H' hg (HO.dK []) am'=some (.dK kw):=by rw[AH lS];exact ham'
  refine⟨am',_,AWv,trivial,λod=>?_⟩
  z_go
  refine⟨am',od,rfl,.inl ⟨kw,AD,?_⟩⟩;have jv:ls≠am':=D5 hls' ham' (by intro z;cases z);have sA:AM H (upd (upd H' hg (HO.dK [])) am' (HO.DK od (HO.dK kw))):=(s'.Ow nP).Ow aA;have hgA:upd (upd H' hg (HO.dK [])) am' (HO.DK od (HO.dK kw)) hg=some (.dK []):=by rw[AH (qk lS),AD]
  have lsA:upd (upd H' hg (HO.dK [])) am' (HO.DK od (HO.dK kw)) ls=some (.lst ((Kc.take k).map V.ref)):=by rw[AH jv,AH nlh];exact hls'
  have dA:DQ K (upd (upd H' hg (HO.dK [])) am' (HO.DK od (HO.dK kw))) kw dj:=DQ.A6 (DQ.same hdj (AM.new hhg)) Ae.upd AWv trivial;have amA:upd (upd H' hg (HO.dK [])) am' (HO.DK od (HO.dK kw)) am'=some (.DK od (.dK kw)):=AD;generalize upd (upd H' hg (HO.dK [])) am' (HO.DK od (HO.dK kw))=HA at *;have oM:=hdj.keys;refine CP (kw.map λkv=>kV kv.1) (λi σ H3=>AM H H3/\H3 ls=some (.lst ((Kc.take k).map V.ref))/\H3 am'=some (.DK od (.dK kw))/\DQ K H3 kw dj/\∃o kh,σ=[some (.ref a),some (.int ((k:Nat):Int)),some v,some (.ref am'),some (.ref z),some (.ref hg),o]/\H3 hg=some (.dK kh)/\DQ K H3 kh (ao l e kk dj i))
   ⟨sA,lsA,amA,dA,_,[],rfl,hgA,.nil⟩ (λi σ H3 wi=>GY wi.2.2.1) (λi y σ H3 hy ⟨s3,ls3,am3,d3,o,kh,es,hg3,dh⟩=>?_) (λσ H3 ⟨s3,ls3,am3,d3,o,kh,es,hg3,dh⟩=>?_)
  .subst es;have hi:i<dj.length:=by have:=(l_.mp hy).1;rw[χ,hdj.len] at this;exact this
   have ZF:dj[i]?=some dj[i]:=n_ hi;obtain⟨v0,fP,gJ⟩:=d3.at ZF;rw[m_,fP] at hy;obtain rfl:=j_ hy;have hm:dj[i]∈dj:=qI hi;have kr:=amj.k dj[i].1 (Θ.mpr ⟨_,hm,rfl⟩);have gt:=Kn amj.nd (show(dj[i].1,dj[i].2)∈dj from hm);obtain⟨u,cR,bC⟩:=d3.PX gt;have ox:=amj.ok _ hm;rw[ARZ ZF];have lo:=Ze g (e:=e) (k:=kk) amj i;obtain⟨z1,z2,z3⟩:=APj g (e:=e) (k:=kk) hEj hCj amj hm i;have ln3:=RI (L.same s3).obj;have o13:=(L.same s3).obj;have pA:=cx.same s3;have lenl:(ao l e kk dj i).length<=16:=a_ (Dn lo.nd lo.k) GV;generalize dj[i]=xx at *;obtain⟨n,ex⟩:∃n,xx.1=n+1:=⟨xx.1-1,by omega⟩
   have ek0:kV (pS ((xx.1:Nat):Int))=V.int (((n+1:Nat)):Int):=by rw[ex];rfl
   show WN 6 (kV (pS ((xx.1:Nat):Int))) _ H3 _;rw[ek0];rw[ex] at cR z2 z3 ⊢;rw[qH] at z2 z3 ⊢;clear hy ZF fP gJ gt oM ek0
   z_go
   refine⟨a,dx,_,F,l,lw,MN,Eu,e,n,z,_,rfl,ln3,pA,by omega,lvz.same s3,λr5 H5 s5 nr5 XA=>?_⟩;have oG:=s5 _ _ hg3;have XA:H5 r5=some (.lst (Aq (ups (KO l e kk n)))):=XA;have qe:qo (qp xx.2)=xx.2:=Vo ox;refine⟨u,.inl ⟨kw,pS (((n+1:Nat)):Int),.inr ⟨od,s5 _ _ am3⟩,rfl,cR.symm⟩,hg,r5,u,kh,ao l e kk dj i,ups (KO l e kk n),qp xx.2,rfl,oG,DQ.same dh s5,lo.nd,lo.ok,(by have:=V1 g e kk n;rw[Mc];omega),Er.of XA,(by rw[XA,oG];intro z;cases z),BH.same bC s5,ox.1,z1,by rw[qe];exact z2,by rw[qe];exact z3,λH6 kh6 b8 hg6 dh6=>?_⟩
   rw[qe] at dh6;refine⟨λb o h=>b8 b o (AO h nP) (s5 _ _ (s3 b o h)),b8 _ _ nlh (s5 _ _ ls3),b8 _ _ lS (s5 _ _ am3),DQ.A6 (DQ.same d3 s5) b8 oG trivial,kh6,hg6,dh6⟩
  .subst es;rw[χ,hdj.len,AOd] at dh;have lo:=Ze g (e:=e) (k:=kk) amj dj.length;rw[AOd] at lo;have e1:Cr*2^j*2=Cr*2^(j+1):=by rw[rN];ac_rfl
   have e2:32*32^j=32^(j+1):=by rw[rN];ac_rfl
   rw[e1,e2] at lo;refine⟨am3,_,rfl,s3.Ow aA,by rw[AH jv];exact ls3,hg,_,_,_,rfl,nP,kh,by rw[AH (qk lS)];exact hg3,_,DQ.A6 dh Ae.upd am3 trivial,lo,ee⟩
 .subst es;rw[rH,χ,fK] at amj ee;rw[wU] at ee;have ee:dj=Ku l e k [(e+1,x)]:=ee;have L':=L.same s';refine⟨a,_,_,rfl,L'.obj,ABz _ _ _ _,a,am',F,l,lw,MN,Eu,e,dx,la,Kc,kw,dj,Cr*2^k,32^k,rfl,L',cx.same s',ham',hdj,amj,?_,?_,λr H4 iF s4 nr cS eV=>?_⟩
  .exact p8 (FP AXG (qj (by lk) hk)) (qj (by lk) (by lk))
  .have:(32:Nat)^k<=32^4:=qj (by lk) hk;omega
  .rw[ee] at eV;exact q r H4 iF (s'.trans s4) (s'.free nr) cS eV
theorem AOi{l:e_}(g:Good l){e:Nat}(he:e<l.persons.length):∃E C,0<E/\Cr∣E/\E<2^540/\C<2^115/\K3 E C (E6 l e):=by
 unfold E6;cases q:rS l e with
 |none=>exact⟨Cr,0,Az,qi _,p8 JU (qj (by lk) (by lk)),uq _,λx hx=>by cases hx⟩
 |some k=>
  have hk:=Gw q;have p:=Sq g e;rw[q] at p;have px:Sz Cr 1 (Si49.one.sub (A8 l e (some k))):=by
   have:Sz Cr 1 (A8 l e (some k)):=by
    unfold A8;split
    .exact(Sz.zero Az).mono (qi _) Az (qG _)
    .exact(WE g hk).X8
   exact(Sz.one Az).sub this
  have gZ:Tg l Cr 1 [(e+1,Si49.one.sub (A8 l e (some k)))]:=⟨by simp[AJ],λn hn=>by have:n=e+1:=i_.mp hn;omega,λy hy=>by rw[i_.mp hy];exact px,Az⟩
  have a1:=AKK g (e:=e) k gZ.pE gZ.sz gZ.nd gZ.k;have a2:=Qx g (e:=e) k gZ.nd gZ.k;have fj:Tg l (Cr*2^k) (32^k*1) (Ku l e k [(e+1,Si49.one.sub (A8 l e (some k)))]):=⟨a2.1,a2.2,a1,p7 Az (uq _)⟩
  have z:=(AMJ g (e:=e) fj l.persons.length).2;have GV:=g.GV;refine⟨_,_,z.pE,⟨2^k*Oq^l.persons.length,by rw[sW]⟩,?_,?_,z.sz⟩
  .have h1:Cr*2^k<2^(136+4):=FP JU (qj (by lk) (by omega));have h2:Oq^l.persons.length<=2^320:=a_ (AO4 _) (qj (by lk) (by omega));exact p8 (FP h1 h2) (qj (by lk) (by lk))
  .have h1:32^k*1<2^25:=by have:(32:Nat)^k<=32^4:=qj (by lk) (by omega);omega
   have h2:17^l.persons.length<=2^80:=a_ (ARF _) (qj (by lk) (by omega));rw[vg];exact p8 (FP h1 h2) (qj (by lk) (by lk))
theorem Jh{p:Nat×Nat}(h:qO p=true):0<p.2/\p.2<=100/\p.1<=p.2:=by unfold qO at h;rw[qm,qm,decide_eq_true_iff,decide_eq_true_iff,decide_eq_true_iff] at h;exact⟨by omega,h.2.1,h.2.2⟩
theorem Oc{p:Nat×Nat}(h:qO p=true):aK p:=by have:=Jh h;exact⟨Nj (by omega),Nj (by omega)⟩
def Gz(t:Ad)(K : ξ)(H:Hp)(a : Ξ)(g:sM):Prop:=∃dx v p,H a=some (.ins t.CS dx (Hh (.int (((g.of_+1:Nat)):Int)) (.int (((g.to_+1:Nat)):Int)) (aO g.else_) v))/\BH K H v p/\g.part=qo p/\qO p=true
theorem Gz.same{H H':Hp}{a : Ξ}{g:sM}(h:Gz t K H a g)(s:AM H H'):Gz t K H' a g:=let ⟨dx,v,p,h1,h2,r⟩:=h;⟨dx,v,p,s _ _ h1,h2.same s,r⟩
structure LA where
 land : Ξ
 dx : Ξ
 lw : Ξ
 MN : Ξ
 Eu : Ξ
 F:FA
 wi : Ξ
 di : Ξ
 gl : Ξ
 gs:List Ξ
structure Te(t:Ad)(K : ξ)(H:Hp)(l:e_)(L:LA):Prop where
 obj:H L.land=some (.ins t.CJ L.dx (C9 (.ref L.lw) (.ref L.F.f) (.ref L.wi)))
 law:MW t K H L.lw L.MN L.Eu l
 Fi:Cj t H l L.F
 bM:H L.wi=some (.ins t.EH L.di (Pn (.ref L.gl)))
 lst:H L.gl=some (.lst (L.gs.map V.ref))
 Ux:sG (Gz t K H) L.gs l.gifts
theorem Te.same{H H':Hp}{l:e_}{L:LA}(h:Te t K H l L)(s:AM H H'):Te t K H' l L:=⟨s _ _ h.obj,h.law.same s,h.Fi.same s,s _ _ h.bM,s _ _ h.lst,Paired.SA h.Ux λ_ _ q=>q.same s⟩
structure jF(t:Ad)(K : ξ)(H:Hp)(l:e_)(L:LA)(e:Nat):Prop where
 g:Good l
 at_:Te t K H l L
 he:e<l.persons.length
 dd:∃d,(g_ l e).died=some d
theorem jF.same{H H':Hp}{l:e_}{L:LA}{e:Nat}(h:jF t K H l L e)(s:AM H H'):jF t K H' l L e:=⟨h.g,h.at_.same s,h.he,h.dd⟩
theorem jF.cxt{H:Hp}{l:e_}{L:LA}{e:Nat}(h:jF t K H l L e):aN t K H l L.F L.lw L.MN L.Eu e:=⟨h.g,h.at_.Fi,h.at_.law,h.he,h.dd⟩
theorem AV8{l:e_}(g:Good l){e:Nat}:EJ l e<=l.persons.length:=by
 unfold EJ;cases q:(g_ l e).spouse with
 |none=>exact qG _
 |some s=>exact(g.aR e s q).2.1
theorem AIQ(l:e_)(e:Nat):(yC l e).isSome=Sx l e (EJ l e):=by
 unfold yC Sx EJ;cases q:(g_ l e).spouse with
 |none=>rfl
 |some s=>show(if t_ l e s=true then some s else none:Option Nat).isSome=if s+1=0 then false else t_ l e (s+1-1);rw[ζ (show¬ s+1=0 by omega),qH];cases t_ l e s<;>rfl
inductive ALH(t:Ad)(K : ξ)(vs:List V)(H:Hp)(Q:VK)(Xk:XK):Prop
 |mk:∀L l e k,vs=[.ref L.land,.int (((e+1:Nat)):Int),XR k]->jF t K H l L e->((∀j,k=some j->j<5))->(∀v H' p,AM H H'->BH K H' v p->qO p=true->qo p=A8 l e k->Q v H')->ALH t K vs H Q Xk
theorem ARJ(T:Txt K mg t):A2 P w K mg AG FI 4 t.Ft t.HB ["land","dead","generations"] (ALH t K):=by
 have BK:=@NX P w K mg AG t T;have AK:=@DI P w K mg AG t T;refine T.II.ok AHD (λvs H Q E h=>?_) (λDM A AR s H vs Q E hr h=>?_)
 .obtain⟨_,_,_,_,rfl,_⟩:=h;rfl
 obtain⟨L,l,e,k,rfl,es,hk,q⟩:=h;refine⟨_,(AE (Bv (Gf (CD (Aj (AW K rfl (pv 0) rfl) T.AX T.DN BK hr.m T.Eh .nil AS (AA (AW K rfl (Aj (AW K rfl (pv 0) rfl) T.AX T.Ah AK hr.m T.Ai .nil AS (AA (pv 1) AF)) rfl) (AA (pv 1) AF))))) (AI (AV (El rfl T.Jy))) Ax)
  (AE (Bv (KI (ARD (pv 2))) (AI (AV (El rfl T.XI))) Ax)
  (AI (AV (A9 A3 (AW K rfl (AW K rfl (pv 0) rfl) rfl) (pv 2) (λ_ _=>rfl)))))),?_⟩
 clear BK AK;obtain⟨b,lJ,pa,hb,h1,h2⟩:=es.at_.Fi.get es.he;rw[VF] at h1;obtain⟨dd,Wn⟩:=es.dd;have o1:=es.at_.obj;have o2:=es.at_.Fi.obj;have o3:=es.at_.Fi.lst;have g:=es.g
 z_go
 refine⟨e,by push_cast;rfl,.ref b,by rw[m_,hb];rfl,?_⟩
 z_go
 refine⟨L.F,l,EJ l e,e,dd,rfl,g,es.at_.Fi,AV8 g,es.he,Wn,λH1 s1=>⟨_,rfl,?_⟩⟩;rw[<-AIQ];cases sq:yC l e with
 |none=>rw[η (show(!(none:Option Nat).isSome)=true from rfl)];exact q _ H1 (0,1) s1 (Jd T H1) (by lk) (by unfold A8;rw[sq];exact(by lk:sO 0 1=rT))
 |some sN=>
  rw[ζ (show¬ (!(some sN).isSome)=true from Λ)];cases k with
  |none=>
   z_go
   rw[η (by lk)];exact q _ H1 (1,1) s1 (Wa T H1) (by lk) (by unfold A8;rw[sq];exact(by lk:sO 1 1=vO))
  |some k=>
   z_go
   rw[ζ (by rw[zdf (show¬ XR (some k)=V.Es by intro z;cases z)];exact Λ)];obtain⟨kp,SY,kk,ss,a1,a2,a3,a4,_,_,a7,a8,a9⟩:=(es.at_.law).same s1;have iV:k<ss.length:=by rw[a9];exact hk k rfl
   have hs:ss[k]?=some ss[k]:=n_ iV;have lp:SY.length=ss.length:=rq a4;have Yu:SY[k]?=some SY[k]:=n_ (by omega);have fr:=Paired.at a4 Yu hs;refine⟨_,_,_,s1 _ _ o1,T.Im,T.Lv,_,SW _ _ _,L.lw,rfl,_,_,_,a1,T.WU,T.JD,_,AEg _ _ _,L.Eu,rfl,_,k,rfl,a3,_,Nh Yu,?_⟩;refine q _ H1 ss[k] s1 fr (tK.mp a8 _ (qI iV)) ?_;unfold A8;rw[sq];show _=l.spouse.getD k rT;rw[a7,rK,m_,hs];rfl
inductive QI(t:Ad)(K : ξ)(f:e_->Nat->D pO)(vs:List V)(H:Hp)(Q:VK)(Xk:XK):Prop
 |mk:∀L l e,vs=[.ref L.land,.int (((e+1:Nat)):Int)]->jF t K H l L e->(∀r H' kvs,AM H H'->H r=none->H' r=some (.dK kvs)->DQ K H' kvs (f l e)->Q (.ref r) H')->QI t K f vs H Q Xk
theorem WZ{f:e_->Nat->D pO}{vs:List V}{H:Hp}{Q:VK}{E:XK}(h:QI t K f vs H Q E):vs.length=2:=by obtain⟨_,_,_,rfl,_⟩:=h;rfl
theorem APa{p:Nat×Nat}(h:qO p=true):Zr (1,1) p=Si49.one.sub (qo p):=by have hp:=(Jh h).1;have h1:Is vO 1 1:=Is.self Bh;exact(h1.sub (Is.q hp)).eq.symm
theorem ARf{l:e_}(g:Good l){e:Nat}(he:e<l.persons.length):(AJ (E6 l e)).Nodup/\Lc (E6 l e)/\(E6 l e).length<=16:=by have h:=YC g he;have GV:=g.GV;refine⟨h.nd,h.ok,a_ (Dn h.nd λn hn=>?_) GV⟩;have:=h.k n hn;exact⟨this.1,this.2.1⟩
theorem AOj{l:e_}(g:Good l){e:Nat}(he:e<l.persons.length):(∀n,Sm (Ak (E6 l e) n))/\∀x∈Am (E6 l e) (EJ l e) (A8 l e (rS l e)),Sm x.2:=by
 obtain⟨E,C,pE,dv,hE,hC,z⟩:=AOi g he;have ps:Sz E 1 (A8 l e (rS l e)):=by
  have:Sz Cr 1 (A8 l e (rS l e)):=by
   unfold A8;split
   .exact(Sz.zero Az).mono (qi _) Az (qG _)
   .cases q:rS l e with
    |none=>exact Sz.one Az
    |some k=>exact(WE g (Gw q)).X8
  exact this.mono dv pE (b_ _)
 refine⟨λn=>(z.val pE n).sm hE hC (by lk),λx hx=>?_⟩;have:=(z.Am pE (EJ l e) ps) x hx;refine this.sm hE (b:=116) ?_ (by lk);have e1:(2:Nat)^116=2^115+2^115:=by rw[show 116=115+1 from rfl,rN,Nat.mul_two]
 have:=uq 115;omega
theorem UD(hP:P.given.tree=none)(T:Txt K mg t):A2 P w K mg AG FI 40 t.CU t.E7 ["land","dead"] (QI t K Av):=by
 have AFV:=@ARN P w K mg AG t T;have AAN:=@ARQ P w K mg AG t T;have AEB:=@ARJ P w K mg AG t T;have ABP:=@ARR P w K mg AG t hP T;have Lp:=@V3 P w K mg AG t hP T;have Ej:=@OU P w K mg AG t hP T;have AK:=@DI P w K mg AG t T;have Ff:=@AHS P w K mg AG t T;refine T.DP.ok EK (λvs H Q E h=>WZ h) (λDM A AR s H vs Q E hr h=>?_);obtain⟨L,l,e,rfl,es,q⟩:=h;refine⟨_,(AE (Al (i:=2) EK.nd rfl (qh rfl) (Sn T.V9 AFV hr.m rfl T.ALz T.AEA .nil AS (AA (AW K rfl (pv 0) rfl) (AA (AW K rfl (pv 0) rfl) (AA (pv 1) AF)))))
  (AE (Al (i:=3) EK.nd rfl (qh rfl) (Cc (pv 2) T.D9 T.Ex AAN hr.m T.AAI .nil AS))
  (AE (Al (i:=4) EK.nd rfl (qh rfl) (Af AEB hr.m rfl T.AC5 T.II.kp T.ADN .nil AS (AA (pv 0) (AA (pv 1) (AA (pv 3) AF)))))
  (AE (Al (i:=5) EK.nd rfl (qh rfl) JL)
  (AE (Bv (KI (AOP (pv 3))) (AI (Al (i:=5) EK.nd rfl (qh rfl) (Aj (pv 2) T.D9 T.JH ABP hr.m T.AA5 .nil AS (AA (pv 3) (AA (Af Lp hr.m rfl T.OW T.Kd.kp T.Oj .nil AS (AA (El rfl T.XI) (AA (pv 4) AF))) AF))))) Ax)
  (AE (FN (Af Ej hr.m rfl T.LM T.G9.kp T.LY .nil AS (AA (pv 5) (AA (AW K rfl (Aj (AW K rfl (pv 0) rfl) T.AX T.Ah AK hr.m T.Ai .nil AS (AA (pv 1) AF)) rfl) (AA (pv 4) AF)))))
  (AI (AV (Af Ff hr.m rfl T.Jf T.DO.kp T.Jm .nil AS (AA (pv 5) AF)))))))))),?_⟩
 clear AFV AAN AEB ABP Lp Ej AK Ff;have g:=es.g;have o1:=es.at_.obj
 z_go
 intro x dx hx ZE ndx;have sN:AM H (upd (upd H dx (.own x)) x (.ins t.Ay dx [])):=AM.make hx ZE ndx;refine⟨x,dx,L.F,l,L.lw,L.MN,L.Eu,e,rfl,AD,(es.same sN).cxt,λH1 la Kc kp L1=>?_⟩;have s1:AM H H1:=λb o h=>kp b o (sN b o h) (AO h hx);have o2:=L1.obj;have ja:=es.same s1;clear kp sN
 z_go
 refine⟨x,l,L.F.f,L.lw,e,dx,la,Kc,rfl,L1,?_⟩
 z_go
 refine⟨L,l,e,rS l e,rfl,ja,λj hj=>Gw hj,λv H2 p s2 fv fo ep am bS=>?_⟩;have T7:=s1.trans s2;have s3:AM H2 (upd H2 am (HO.dK [])):=AM.new bS;have jL:=T7.trans s3;have AYH:H am=none:=T7.free bS;obtain⟨f1,f2,f3⟩:=Jh fo;obtain⟨z1,z2⟩:=AOj g es.he;obtain⟨y1,y2,y3⟩:=ARf g es.he;have GV:=g.GV;have fin:∀H5 am kv,AM H H5->H am=none->H5 am=some (.dK kv)->DQ K H5 kv (E6 l e)->BH K H5 v p->Tv K [V.ref am,V.int ((EJ l e:Nat):Int),v] H5 (λx H1=>Rr K [V.ref am] H1 Q E0) E0:=λH5 am kv s5 aA Zn gQ oZ=>by refine⟨am,EJ l e,v,kv,E6 l e,p,rfl,Zn,gQ,y1,y2,by omega,z1 _,oZ,f1,Oc fo,λH6 kv6 b8 hm6 kO=>?_⟩;rw[ep] at kO;have s6:AM H H6:=λb o h=>b8 b o (AO h aA) (s5 b o h);have po:=(Sq g e).1;have ln:=NY (E6 l e) (EJ l e) ((Ak (E6 l e) (EJ l e)).add (A8 l e (rS l e)));refine⟨am,kv6,_,rfl,hm6,kO,G8 y1 _ _,NW y2 _ po,by unfold Am;omega,z2,λr H7 iG s7 nr hr7 eU=>q r H7 iG (s6.trans s7) (s6.free nr) hr7 eU⟩
 cases qc:rS l e with
 |none=>
  have e0:E6 l e=[]:=by unfold E6;rw[qc]
  z_go
  rw[ζ (by lk)];have fY:=es.same jL;have o1:=fY.at_.obj;have o2:=fY.at_.Fi.obj;have o3:=fY.at_.Fi.lst;obtain⟨b,lJ,pa,hb,h1,h2⟩:=fY.at_.Fi.get es.he;rw[VF] at h1
  z_go
  refine⟨e,by push_cast;rfl,.ref b,by rw[m_,hb];rfl,?_⟩
  z_go
  exact fin _ am [] jL AYH AD (by rw[e0];exact .nil) (fv.same s3)
 |some k=>
  have hk:=Gw qc
  z_go
  rw[η (by rw[zdf (show¬ XR (some k)=V.Es by intro z;cases z)];rfl)];rw[qc] at ep;have e0:E6 l e=Ob l e k (Si49.one.sub (qo p)):=by unfold E6;rw[qc,ep]
  have px:Sz Cr 1 (Si49.one.sub (qo p)):=by have:Sz Cr 1 (qo p):=(XE fo).X8;exact(Sz.one Az).sub this
  refine⟨_,_,(s2.trans s3) _ _ o2,ACw _ _ _ _,_,_,(1,1),p,rfl,Wa T _,fv.same s3,s_,f1,ZO,Oc fo,by show p.1*1<=1*p.2;omega,λb hb=>?_⟩;rw[APa fo];have s4:AM (upd H2 am (HO.dK [])) (upd (upd H2 am (HO.dK [])) b (tupQ (Si49.one.sub (qo p)))):=AM.new hb;have aW:=jL.trans s4;refine⟨x,.ref b,L.F,l,L.lw,L.MN,L.Eu,e,dx,la,Kc,k,_,rfl,L1.same ((s2.trans s3).trans s4),(es.same aW).cxt,by omega,BH.tup AD,px,λr H5 kv s5 nr XA gQ=>?_⟩;rw[<-e0] at gQ;have f9:=aW.trans s5;have fY:=es.same f9;have o1:=fY.at_.obj;have o2:=fY.at_.Fi.obj;have o3:=fY.at_.Fi.lst;obtain⟨b,lJ,pa,hb,h1,h2⟩:=fY.at_.Fi.get es.he;rw[VF] at h1
  z_go
  refine⟨e,by push_cast;rfl,.ref b,by rw[m_,hb];rfl,?_⟩
  z_go
  exact fin H5 r kv f9 (aW.free nr) XA gQ ((fv.same (s3.trans s4)).same s5)
theorem YA{l:e_}(g:Good l){e:Nat}(he:e<l.persons.length):∀x∈Av l e,Bm x.2/\Sm x.2/\1<=x.1/\x.1<=l.persons.length:=λx hx=>by have h:=(PU g he).1;have m:=Rb g he x hx;refine⟨h.ok x hx,(AOj g he).2 x ?_,m.1,m.2.1⟩;exact(d_.mp hx).1
theorem YB{l:e_}(g:Good l){e:Nat}(he:e<l.persons.length):(Av l e).length<=16:=by have h:=(PU g he).1;have GV:=g.GV;refine a_ (Dn h.nd (m:=l.persons.length) λn hn=>?_) GV;obtain⟨x,hx,rfl⟩:=Θ.mp hn;exact(YA g he x hx).2.2
theorem W7{H:Hp}{kvs:List (Key×V)}{d:D pO}(hd:DQ K H kvs d)(nd:(AJ d).Nodup){i:Nat}{x:V}(hx:(kvs.map λkv=>kV kv.1)[i]?=some x):
  ∃(hi:i<d.length) (u:V),x=.int ((d[i].1:Nat):Int)/\FQ K H u d[i].2/\(∀(H':Hp) (a : Ξ) (o:sR),H' a=some (.DK o (.dK kvs))->Ld H' a (.int ((d[i].1:Nat):Int)) (some u))/\d[i].1∉AJ (d.take i):=by
 have hi:i<d.length:=by have:=(l_.mp hx).1;rw[χ,hd.len] at this;exact this
 have ZF:d[i]?=some d[i]:=n_ hi;obtain⟨v,fP,gJ⟩:=hd.at ZF;rw[m_,fP] at hx;obtain rfl:=j_ hx;have hm:d[i]∈d:=qI hi;have gt:=Kn nd (show(d[i].1,d[i].2)∈d from hm);obtain⟨u,cR,bC⟩:=hd.PX gt;refine⟨hi,u,rfl,bC,λH' a o h=>.inl ⟨kvs,pS ((d[i].1:Nat):Int),.inr ⟨o,h⟩,rfl,cR.symm⟩,λz=>?_⟩;obtain⟨y,hy,ey⟩:=Θ.mp z;obtain⟨j,hj⟩:=uW.mp hy;have oE:j<i:=by have:=(l_.mp hj).1;rw[sD] at this;omega
 rw[uD oE] at hj;have a1:(AJ d)[j]?=some d[i].1:=by unfold AJ;rw[m_,hj,<-ey];rfl
 have a2:(AJ d)[i]?=some d[i].1:=by unfold AJ;rw[m_,ZF];rfl
 have:=Ys nd a1 a2;omega
def Pw(l:e_)(e:Nat)(d:D pO):D pO:=(d.filter λx=>close l e (x.1-1)).map λx=>(x.1,x.2.mul l.kept)
theorem ANV(l:e_)(e:Nat)(d:D pO)(x:Nat×pO):Pw l e (d++[x])=Pw l e d++if close l e (x.1-1)=true then[(x.1,x.2.mul l.kept)] else[]:=by unfold Pw;rw[uQ,se,qB,vB];split<;>rfl
theorem AHt(l:e_)(e:Nat)(d:D pO):(AJ (Pw l e d)).Sublist (AJ d):=by unfold Pw AJ;rw[p6];exact List.filter_sublist.map _
theorem AOW(hP:P.given.tree=none)(T:Txt K mg t):A2 P w K mg AG FI 41 t.Pd t.UX ["land","dead"] (QI t K AZ):=by
 have AII:=@ARP P w K mg AG t T;have G5:=@UD P w K mg AG t hP T;have K0:=@Sv P w K mg AG t hP T;refine T.RQ.ok U5 (λvs H Q E h=>WZ h) (λDM A AR s H vs Q E hr h=>?_);obtain⟨L,l,e,rfl,es,q⟩:=h;have hu:=IG hr;refine⟨_,(AE (Al (i:=2) U5.nd rfl (qh rfl) (Af G5 hr.m rfl T.Ie T.DP.kp T.Io .nil AS (AA (pv 0) (AA (pv 1) AF))))
  (AE (Al (i:=3) U5.nd rfl (qh rfl) JL)
  (AE (MZ (Fo qA rfl (Ma (pv 2)) (BU (i:=4) U5.nd rfl (qh rfl)) (AI (Bv (CD (Af AII hr.m rfl T.AGM T.Lz.kp T.AGQ .nil AS (AA (AW K rfl (pv 0) rfl) (AA (pv 4) (AA (pv 1) AF))))) (AI (KL hu (pv 3) (pv 4) (Af K0 hr.m rfl T.QY T.Ly.kp T.Qu .nil AS (AA (Dc hu (pv 2) (pv 4) (λ_ _=>rfl)) (AA (AW K rfl (AW K rfl (pv 0) rfl) rfl) AF))) rfl)) Ax))))
  (AI (AV (pv 3)))))),?_⟩
 clear AII G5 K0;have g:=es.g;have he:=es.he
 z_go
 refine⟨L,l,e,rfl,es,λr H1 kvs s1 UT TF Ym m hm=>?_⟩;have Wk:r≠m:=AO TF hm;have WL:upd H1 m (HO.dK []) r=some (.dK kvs):=by rw[AH Wk];exact TF
 refine⟨r,_,WL,trivial,λod=>?_⟩
 z_go
 refine⟨r,od,rfl,.inl ⟨kvs,AD,?_⟩⟩;have ZC:H m=none:=s1.free hm;have dz:AM H (upd (upd H1 m (HO.dK [])) r (HO.DK od (HO.dK kvs))):=AM.Ow (AM.Ow s1 ZC) UT;have f0:∀v p,BH K H1 v p->BH K (upd (upd H1 m (HO.dK [])) r (HO.DK od (HO.dK kvs))) v p:=λv p h=>(h.same (AM.new hm)).A6 Ae.upd WL trivial;have XC:upd (upd H1 m (HO.dK [])) r (HO.DK od (HO.dK kvs)) m=some (.dK []):=by rw[AH (qk Wk),AD]
 have Yv:upd (upd H1 m (HO.dK [])) r (HO.DK od (HO.dK kvs)) r=some (HO.DK od (HO.dK kvs)):=AD;have nd:=(PU g he).1.nd;generalize upd (upd H1 m (HO.dK [])) r (HO.DK od (HO.dK kvs))=H2 at *;refine CP (kvs.map λkv=>kV kv.1) (λi σ H'=>Ae m H2 H'/\∃o kvs',σ=[some (.ref L.land),some (.int (((e+1:Nat)):Int)),some (.ref r),some (.ref m),o]/\H' m=some (.dK kvs')/\DQ K H' kvs' (Pw l e ((Av l e).take i)))
  ⟨λb o _ h=>h,_,[],rfl,XC,.nil⟩ (λi σ H' ⟨sx,_⟩=>GY (sx r _ Wk Yv)) (λi x σ H' hx ⟨sx,o,kvs',e1,NZ,Et⟩=>?_) (λσ H' ⟨sx,o,kvs',e1,NZ,Et⟩=>?_)
 .subst e1;obtain⟨hi,u,rfl,fu,dg,nk⟩:=W7 Ym nd hx;have ZF:(Av l e)[i]?=some (Av l e)[i]:=n_ hi;have N9:(Av l e)[i]∈Av l e:=qI hi;obtain⟨ox,aS,k1,k2⟩:=YA g he _ N9;have Q9:AM H H':=λb o h=>sx b o (AO h ZC) (dz b o h);have Y0:=es.same Q9;have bH:FQ K H' u (Av l e)[i].2:=(f0 _ _ fu).A6 sx XC trivial;have i8:=dg H' r od (sx r _ Wk Yv);have o1:=Y0.at_.obj;have ln:(Pw l e ((Av l e).take i)).length<=16:=by unfold Pw;rw[χ];exact a_ (pU _ _) (a_ (qD _ _) (YB g he))
  have jw:(Av l e)[i].1∉AJ (Pw l e ((Av l e).take i)):=λz=>nk ((AHt l e _).subset z);have ZA:(AJ (Pw l e ((Av l e).take i))).Nodup:=(nd.sublist ((ux i _).map _)).sublist (AHt l e _);have sn:=ANV l e ((Av l e).take i) (Av l e)[i];rw[<-CW ZF] at sn;clear q Ym f0 hx nk i8;generalize Pw l e ((Av l e).take (i+1))=Z at *;generalize Pw l e ((Av l e).take i)=Z0 at *;generalize (Av l e)[i]=y at *
  z_go
  refine⟨L.F,l,y.1-1,e,by rw[show y.1-1+1=y.1 by omega],g,Y0.at_.Fi,by omega,he,λH3 s3=>⟨_,rfl,?_⟩⟩;cases cl:close l e (y.1-1) with
  |false=>rw[ζ Λ];rw[ζ Λ,rC];exact⟨sx.trans (s3.x m),kvs',s3 _ _ NZ,Et.same s3⟩
  |true=>rw[η rfl];rw[η rfl];obtain⟨kp,SY,kk,ss,a1,a2,a3,a4,a5,a6,a7,a8,a9⟩:=(Y0.at_.law).same s3;refine⟨u,dg H3 r od (s3 _ _ (sx r _ Wk Yv)),_,_,_,s3 _ _ o1,T.Im,T.Lv,_,SW _ _ _,L.lw,rfl,_,_,_,a1,T.WU,T.LI,_,AGy _ _ _,u,kp,qp y.2,kk,rfl,BH.same bH s3,a2,ox.1,(Jh a6).1,aS,Oc a6,trivial,λb hb=>?_⟩;rw[U0 ox (Jh a6).1,show qo kk=l.kept from a5.symm];have s4:AM H3 (upd H3 b (tupQ (y.2.mul l.kept))):=AM.new hb;have lI:=s3.trans s4;refine⟨_,P4.k (k:=pS ((y.1:Nat):Int)) (lI _ _ NZ) (by rw[Dm.len Et];exact pN ln (by lk)),(sx.trans (lI.x m)).trans Ae.upd,_,AD,?_⟩;rw[<-TV jw];exact DQ.A6 (Dm.put (DQ.same Et lI) ZA (BH.tup AD)) Ae.upd (lI _ _ NZ) trivial
 .subst e1;rw[χ,Ym.len,qL] at Et;have Ti:H' r=some (HO.DK od (HO.dK kvs)):=sx r _ Wk Yv;have Q9:AM H H':=λb o h=>sx b o (AO h ZC) (dz b o h);exact⟨Ti,_,rfl,q m _ kvs' (AM.Ow Q9 UT) ZC (by rw[AH (qk Wk)];exact NZ) (DQ.A6 Et Ae.upd Ti trivial)⟩
theorem Paired.AG0{α β:Type}{F:α->β->Prop}(p:β->Bool):∀{l:List α}{m:List β},sG F l m->sG F (((l.zip m).filter λx=>p x.2).map λx=>x.1) (m.filter p)
 |_,_,.nil=>.nil
 |_,_,.cons (a:=a) (b:=b) (l₁:=l) (l₂:=m) h r=>by
  have ih:=Paired.AG0 p r;rw[vI,qB,qB];cases p b with
  |true=>exact .cons h ih
  |false=>exact ih
theorem Paired.AQN{α β:Type}{F:α->β->Prop}:∀{l:List α}{m:List β},sG F l m->∀x∈l.zip m,F x.1 x.2
 |_,_,.nil,x,hx=>by cases hx
 |_,_,.cons h r,x,hx=>by
  rcases pM.mp hx with rfl|hx
  .exact h
  .exact Paired.AQN r x hx
inductive AG5(t:Ad)(K : ξ)(vs:List V)(H:Hp)(Q:VK)(Xk:XK):Prop
 |mk:∀wi di gl gs gifts e,vs=[.ref wi,.int (((e+1:Nat)):Int)]->H wi=some (.ins t.EH di (Pn (.ref gl)))->H gl=some (.lst (gs.map V.ref))->sG (Gz t K H) gs gifts->gifts.length<=10->(∀r H' as,AM H H'->H r=none->H' r=some (.lst (as.map V.ref))->sG (Gz t K H') as (gifts.filter λg=>g.of_==e)->Q (.ref r) H')->AG5 t K vs H Q Xk
theorem AHT(T:Txt K mg t):A2 P w K mg AG FI 1 t.D3 t.FG ["self","giver"] (AG5 t K):=by
 refine T.Ig.ok K4 (λvs H Q E h=>?_) (λDM A AR s H vs Q E hr h=>?_)
 .obtain⟨_,_,_,_,_,_,rfl,_⟩:=h;rfl
 obtain⟨wi,di,gl,gs,gifts,e,rfl,h1,h2,h3,h4,q⟩:=h;refine⟨_,(AI (AV (So rfl K4.nd (FO K rfl (AW K rfl (pv 0) rfl)) (IW (own:=[("gift",2)]) (by rfl)) (λ_ _ _ _ _=>(BU (i:=2) K4.nd rfl (qh rfl))) (λ_ _ _ _ _=>(O7 (Cy M0 (AW K rfl (pv 2) rfl) (pv 1) (Cn _)))) (λ_ _ _ _ _=>(pv 2))))),?_⟩;have ln:=rq h3
 z_go
 refine⟨⟨_,Er.of h2⟩,λD hD=>?_⟩;refine PR (gs.map V.ref) (gs.zip gifts) (λ_ x o=>o=if (x.2.of_==e)=true then some (.ref x.1) else none) (by rw[χ,x_];omega) (λH' s'=>CV (Er.of (s' _ _ h2))) (by rw[χ];omega) hD (λ_ _ _ _ _ _ _ r=>r) (λi x d hx hd H' s' N hN=>?_) (λH' ys s' hy sel=>?_)
 .have hz:=Paired.AQN h3 d (qQ hd);have Wl:x=.ref d.1:=by rw[List.getElem?_zip_eq_some] at hd;rw[m_,hd.1] at hx;exact(j_ hx).symm
  subst Wl;obtain⟨dx,v,p,o1,o2,o3,o4⟩:=hz.same s';clear q h1 h2 h3 hx hd o2 o3
  z_go
  by_cases c:d.2.of_=e
  .rw[η (zqt (by rw[c]))];exact hN _ _ (.refl _) (by rw[η (by simp[c])])
  .rw[ζ (λz=>c (by have:=zod z;omega))];exact hN _ _ (.refl _) (by rw[ζ (by simp[c])])
 .have e1:=Sel.Zp (f:=λ(x : Ξ × sM)=>if (x.2.of_==e)=true then some (V.ref x.1) else none) sel;rw[Kl (λ(x : Ξ × sM)=>x.2.of_==e) (λx=>V.ref x.1)] at e1;have e2:ys=(((gs.zip gifts).filter λx=>x.2.of_==e).map λx=>x.1).map V.ref:=by rw[e1,p6];rfl
  rw[e2] at hy;exact q D H' _ s' hD hy (Paired.SA (Paired.AG0 (λ(g:sM)=>g.of_==e) h3) λ_ _ z=>z.same s')
def ah(l:e_)(gi:sM):Nat:=match vF l gi with
 |none=>0
 |some i=>i+1
def gF(gi:sM):Nat:=match gi.else_ with
 |none=>0
 |some j=>j+1
theorem ASi(gi:sM):aO gi.else_=.int ((gF gi:Nat):Int):=by unfold gF;cases gi.else_<;>rfl
theorem AVE(l:e_)(gi:sM):ah l gi=if Sx l gi.of_ (gi.to_+1)=true then gi.to_+1 else if Sx l gi.of_ (gF gi)=true then gF gi else 0:=by
 have e0:Sx l gi.of_ (gi.to_+1)=t_ l gi.of_ gi.to_:=rfl;unfold ah vF;rw[e0];cases t_ l gi.of_ gi.to_ with
 |true=>rfl
 |false=>
  rw[ζ Λ,ζ Λ];unfold gF;cases gi.else_ with
  |none=>rfl
  |some j=>show(match (if t_ l gi.of_ j=true then some j else none:Option Nat) with|none=>0|some i=>i+1)=if t_ l gi.of_ j=true then j+1 else 0;cases t_ l gi.of_ j<;>rfl
inductive AQg(t:Ad)(K : ξ)(vs:List V)(H:Hp)(Q:VK)(Xk:XK):Prop
 |mk:∀a F l gi d,vs=[.ref a,.ref F.f]->Gz t K H a gi->Good l->Cj t H l F->gi∈l.gifts->(g_ l gi.of_).died=some d->(∀H',AM H H'->Q (.int ((ah l gi:Nat):Int)) H')->AQg t K vs H Q Xk
theorem AU9(T:Txt K mg t):A2 P w K mg AG FI 4 t.DT t.EO ["self","family"] (AQg t K):=by
 have BK:=@NX P w K mg AG t T;refine T.Hq.ok ABe (λvs H Q E h=>?_) (λDM A AR s H vs Q E hr h=>?_)
 .obtain⟨_,_,_,_,_,rfl,_⟩:=h;rfl
 obtain⟨a,F,l,gi,dd,rfl,ga,g,fa,hg,Wn,q⟩:=h;refine⟨_,(AE (Fo qA rfl (AS1 K rfl (I0 (AA (AW K rfl (pv 0) rfl) (AA (AW K rfl (pv 0) rfl) AF)))) (BU (i:=2) ABe.nd rfl (qh rfl)) (AI (Bv (CD (Aj (pv 1) T.AX T.DN BK hr.m T.Eh .nil AS (AA (pv 2) (AA (AW K rfl (pv 0) rfl) AF)))) (AI (AV (pv 2))) Ax)))
  (AI (AV (An rfl T.Fc)))),?_⟩
 clear BK;obtain⟨g1,g2,g3,g4,g5⟩:=g.Ux gi hg;obtain⟨dx,v,p,o1,o2,o3,o4⟩:=ga;rw[ASi] at o1;have nt:=AVE l gi;have le:gF gi<=l.persons.length:=by
  unfold gF;cases q:gi.else_ with
  |none=>exact qG _
  |some j=>exact g3 j q
 generalize gF gi=n2 at *;clear o2 o3 o4
 z_go
 intro b hb;have s1:AM H (upd H b (HO.tup [V.int (((gi.to_+1:Nat)):Int),V.int ((n2:Nat):Int)])):=AM.new hb;have ie:upd H b (HO.tup [V.int (((gi.to_+1:Nat)):Int),V.int ((n2:Nat):Int)]) b=some (.tup [V.int (((gi.to_+1:Nat)):Int),V.int ((n2:Nat):Int)]):=AD;generalize upd H b (HO.tup [V.int (((gi.to_+1:Nat)):Int),V.int ((n2:Nat):Int)])=H1 at *;refine⟨⟨_,J1.of ie⟩,?_⟩;refine CP [V.int (((gi.to_+1:Nat)):Int),V.int ((n2:Nat):Int)] (λi σ H'=>AM H1 H'/\(∃o,σ=[some (.ref a),some (.ref F.f),o])/\(1<=i->Sx l gi.of_ (gi.to_+1)=false)/\(2<=i->Sx l gi.of_ n2=false)) ⟨.refl _,⟨_,rfl⟩,λz=>absurd z (by lk),λz=>absurd z (by lk)⟩ (λi σ H' ⟨sx,_⟩=>AO6 (J1.of (sx _ _ ie))) (λi x σ H' hx ⟨sx,⟨o,e1⟩,m1,m2⟩=>?_) (λσ H' ⟨sx,⟨o,e1⟩,m1,m2⟩=>?_)
 .subst e1;have s2:=s1.trans sx;have kc:=fa.same s2;have o2:=s2 _ _ o1;have o3:=kc.obj;have key:∃n,x=.int ((n:Nat):Int)/\n<=l.persons.length/\((i=0/\n=gi.to_+1)\/(i=1/\n=n2)):=by
   match i,hx with
   |0,hx=>exact⟨_,(j_ hx).symm,by omega,.inl ⟨rfl,rfl⟩⟩
   |1,hx=>exact⟨_,(j_ hx).symm,by omega,.inr ⟨rfl,rfl⟩⟩
  obtain⟨n,rfl,hn,ci⟩:=key;clear o1 hx
  z_go
  refine⟨F,l,n,gi.of_,dd,rfl,g,kc,hn,g1,Wn,λH3 s3=>⟨_,rfl,?_⟩⟩;cases cm:Sx l gi.of_ n with
  |true=>
   rw[η rfl];have e2:ah l gi=n:=by
    rw[nt];rcases ci with⟨rfl,rfl⟩|⟨rfl,rfl⟩
    .rw[η cm]
    .rw[ζ (by rw[m1 (b_ _)];exact Λ),η cm]
   rw[<-e2];exact q H3 (s2.trans s3)
  |false=>
   rw[ζ Λ];refine⟨sx.trans s3,λz=>?_,λz=>?_⟩
   .rcases ci with⟨rfl,rfl⟩|⟨rfl,rfl⟩
    .exact cm
    .exact m1 (b_ _)
   .rcases ci with⟨rfl,rfl⟩|⟨rfl,rfl⟩
    .omega
    .exact cm
 .subst e1;have e2:ah l gi=0:=by rw[nt,ζ (by rw[m1 (by show 1<=2;omega)];exact Λ),ζ (by rw[m2 (by show 2<=2;omega)];exact Λ)]
  have q':=q H' (s1.trans sx);rw[e2] at q';exact q'
def MU(l:e_)(d:D pO)(gs:List sM):D pO:=gs.foldl (λd g=>match vF l g with
 |none=>d
 |some i=>Am d (i+1) g.part) d
theorem VX(l:e_)(e:Nat):Cq l e=MU l [] (l.gifts.filter λg=>g.of_==e):=rfl
theorem AMk(l:e_)(d:D pO)(gs:List sM)(g:sM):MU l d (gs++[g])=if ah l g=0 then MU l d gs else Am (MU l d gs) (ah l g) g.part:=by
 unfold MU;rw[rj];show(match vF l g with|none=>_|some i=>_)=_;unfold ah;cases vF l g with
 |none=>rfl
 |some i=>rw[ζ (show¬ i+1=0 by omega)]
theorem Sa{l:e_}:∀(gs:List sM) {d:D pO}{B:Nat},(∀x∈gs,ZG x.part)->K3 Cr B d->(AJ d).Nodup->K3 Cr (B+gs.length) (MU l d gs)/\(AJ (MU l d gs)).Nodup/\(MU l d gs).length<=d.length+gs.length
 |[],d,B,_,h,n=>⟨h,n,b_ _⟩
 |g::gs,d,B,hf,h,n=>by
  have fg:=hf g (υ ..);have ZD:∀x∈gs,ZG x.part:=λx hx=>hf x (θ _ hx);unfold MU;rw[q_,o_];cases vF l g with
  |none=>have ih:=Sa (l:=l) gs ZD (h.mono (qi _) Az (wB B)) n;refine⟨ih.1.mono (qi _) Az (by omega),ih.2.1,?_⟩;have:=ih.2.2;unfold MU at this;show(zA _ d gs).length<=_;omega
  |some i=>have ih:=Sa (l:=l) gs ZD (h.Am Az (i+1) fg.X8) (G8 n (i+1) g.part);refine⟨ih.1.mono (qi _) Az (by omega),ih.2.1,?_⟩;have h1:=ih.2.2;have h2:=NY d (i+1) ((Ak d (i+1)).add g.part);unfold MU Am at h1;show(zA _ (Am d (i+1) g.part) gs).length<=_;unfold Am;omega
theorem QJ{x:pO}{B:Nat}(h:Sz Cr B x)(hb:B<2^1000):Sm x:=Sz.sm h JU hb (by lk)
theorem S0{n:Nat}(h:n<4294967296):n<2^1000:=p8 h (show 2^32<=2^1000 from qj (by lk) (by lk))
theorem ARO(hP:P.given.tree=none)(T:Txt K mg t):A2 P w K mg AG FI 37 t.Dz t.E8 ["land","dead"] (QI t K Cq):=by
 have ACP:=@AU9 P w K mg AG t T;have G6:=@AHT P w K mg AG t T;have Ej:=@OU P w K mg AG t hP T;refine T.GI.ok Ib (λvs H Q E h=>WZ h) (λDM A AR s H vs Q E hr h=>?_);obtain⟨L,l,e,rfl,es,q⟩:=h;refine⟨_,(AE (Al (i:=2) Ib.nd rfl (qh rfl) JL)
  (AE (Fo qA rfl (FO K rfl (Aj (AW K rfl (pv 0) rfl) T.NG T.Ic G6 hr.m T.LZ .nil AS (AA (pv 1) AF))) (BU (i:=3) Ib.nd rfl (qh rfl)) (AE (Al (i:=4) Ib.nd rfl (qh rfl) (Aj (pv 3) T.Ng T.KW ACP hr.m T.ABn .nil AS (AA (AW K rfl (pv 0) rfl) AF)))
   (AI (Bv (Cy W8 (pv 4) (An rfl T.Fc) (Cn _)) (AI (FN (Af Ej hr.m rfl T.LM T.G9.kp T.LY .nil AS (AA (pv 2) (AA (pv 4) (AA (AW K rfl (pv 3) rfl) AF)))))) Ax))))
  (AI (AV (pv 2))))),?_⟩
 clear ACP G6 Ej;have g:=es.g;have he:=es.he;have o1:=es.at_.obj;have o2:=es.at_.bM;obtain⟨dd,Wn⟩:=es.dd
 z_go
 intro m hm;have s0:AM H (upd H m (HO.dK [])):=AM.new hm;have kK:upd H m (HO.dK []) m=some (.dK []):=AD;have ja:=es.same s0;generalize upd H m (HO.dK [])=H0 at *;have d9:=ja.at_.obj;have d8:=ja.at_.bM
 z_go
 have fo:∀x∈l.gifts.filter (λg=>g.of_==e),x∈l.gifts/\x.of_=e/\ZG x.part:=λx hx=>by have Wl:=d_.mp hx;exact⟨Wl.1,by simpa using Wl.2,(g.Ux x Wl.1).2.2.2.1⟩
 have lg:(l.gifts.filter (λg=>g.of_==e)).length<=10:=a_ (pU _ _) g.Z6;refine⟨L.wi,L.di,L.gl,L.gs,l.gifts,e,rfl,d8,ja.at_.lst,ja.at_.Ux,g.Z6,λr H1 as s1 UT TF hp=>?_⟩;have XC:=s1 _ _ kK;have lp:=rq hp;have Wk:r≠m:=(AO kK UT).symm;rw[VX] at q;generalize l.gifts.filter (λg=>g.of_==e)=gf at *;clear o1 o2 d9 d8;refine⟨r,rfl,⟨_,Er.of TF⟩,?_⟩;refine CP (as.map V.ref) (λi σ H'=>Ae m H1 H'/\∃o o2 kvs',σ=[some (.ref L.land),some (.int (((e+1:Nat)):Int)),some (.ref m),o,o2]/\H' m=some (.dK kvs')/\DQ K H' kvs' (MU l [] (gf.take i)))
  ⟨λb o _ h=>h,_,_,[],rfl,XC,.nil⟩ (λi σ H' ⟨sx,_⟩=>CV (Er.of (sx r _ Wk TF))) (λi x σ H' hx ⟨sx,oo,oo2,kvs',e1,NZ,Et⟩=>?_) (λσ H' ⟨sx,oo,oo2,kvs',e1,NZ,Et⟩=>?_)
 .subst e1;have hi:i<gf.length:=by have:=(l_.mp hx).1;rw[χ] at this;omega
  have oF:gf[i]?=some gf[i]:=n_ hi;have hia:i<as.length:=by omega
  have oQ:as[i]?=some as[i]:=n_ hia;rw[m_,oQ] at hx;obtain rfl:=j_ hx;obtain⟨f1,f2,f3⟩:=fo _ (qI hi);have ga:Gz t K H1 as[i] gf[i]:=Paired.at hp oQ oF;have Q9:AM H H':=λb o h=>sx b o (AO h hm) (s1 b o (s0 b o h));have Y0:=es.same Q9;have ga':Gz t K H' as[i] gf[i]:=by obtain⟨dx,v,p,b1,b2,b3⟩:=ga;exact⟨dx,v,p,sx _ _ (λz=>by rw[z,XC] at b1;cases b1) b1,b2.A6 sx XC trivial,b3⟩
  have sz:=Sa (l:=l) (gf.take i) (d:=[]) (B:=0) (λx hx=>(fo x (qY hx)).2.2) (λx hx=>by cases hx) (by exact uJ);have lt:(gf.take i).length<=10:=a_ (qD _ _) lg;have sn:=AMk l [] (gf.take i) gf[i];rw[<-CW oF] at sn;clear q hx hp ga;have nt:ah l gf[i]<=l.persons.length:=by
   unfold ah;cases q:vF l gf[i] with
   |none=>exact qG _
   |some j=>exact Vb g q
  generalize MU l [] (gf.take (i+1))=Z at *;generalize MU l [] (gf.take i)=Z0 at *;generalize gf[i]=gi at *;generalize as[i]=ai at *;have o1:=Y0.at_.obj;have gac:=ga';obtain⟨dx,v,p,b1,b2,b3,b4⟩:=ga';clear b3 oQ oF
  z_go
  refine⟨ai,L.F,l,gi,dd,rfl,gac,g,Y0.at_.Fi,f1,by rw[f2];exact Wn,λH3 s3=>⟨rfl,?_⟩⟩;by_cases c:ah l gi=0
  .rw[ζ (by rw[c];decide),η c];exact⟨sx.trans (s3.x m),kvs',s3 _ _ NZ,Et.same s3⟩
  .rw[η (by rw[zdf (show¬ V.int ((ah l gi:Nat):Int)=V.int 0 from λz=>c (by injection z;omega))];rfl),ζ c];obtain⟨dx,v,p,b1,b2,b3,b4⟩:=gac.same s3;have z1:K3 Cr 10 Z0:=sz.1.mono (qi _) Az (by omega);have zl:=sz.2.2;refine⟨_,_,_,b1,T.Ng,T.G0,_,K1 _ _ _ _,m,ah l gi,v,kvs',Z0,p,rfl,s3 _ _ NZ,Et.same s3,sz.2.1,λx hx=>(z1 x hx).ok,a_ zl (by show 0+_<=_;omega),QJ (z1.val Az _) (S0 (by lk)),b2,(Jh b4).1,Oc b4,λH4 iF lB Yx eV=>⟨(sx.trans (s3.x m)).trans lB,iF,Yx,?_⟩⟩;rw[b3];exact eV
 .subst e1;rw[χ,lp,qL] at Et;have Q9:AM H H':=λb o h=>sx b o (AO h hm) (s1 b o (s0 b o h));exact q m H' kvs' Q9 hm NZ Et
def Z4(d:D pO):List (Nat×Nat):=d.map λx=>qp x.2
theorem AJR{H:Hp}:∀{kvs:List (Key×V)}{d:D pO},DQ K H kvs d->Td K H (kvs.map (·.2)) (Z4 d)
 |_,_,.nil=>.nil
 |_,_,.cons h r=>.cons h.2 (AJR r)
theorem OT{x:pO}(h:Bm x):qo (qp x)=x:=Vo h
theorem ALE:∀{d:D pO}{a:pO},Lc d->Mq a (Z4 d)=(d.map λx=>x.2).foldl yI a
 |[],_,_=>rfl
 |x::d,a,h=>by show Mq (a.add (qo (qp x.2))) (Z4 d)=_;rw[OT (h x (υ ..)),ALE λy hy=>h y (θ _ hy)];rfl
theorem XT{d:D pO}(h:Lc d):Mq rT (Z4 d)=Js d:=ALE h
theorem U3{E B:Nat}:∀{d:D pO}{a:pO}{C:Nat},K3 E B d->Sz E C a->Sz E (C+d.length*B) (Mq a (Z4 d))
 |[],a,C,_,h=>by simpa[Z4,Mq] using h
 |x::d,a,C,hd,h=>by have hx:=hd x (υ ..);have:=U3 (d:=d) (λy hy=>hd y (θ _ hy)) (h.add hx);show Sz _ _ (Mq (a.add (qo (qp x.2))) (Z4 d));rw[OT hx.ok];rw[o_,xQ];rw[show C+(d.length*B+B)=C+B+d.length*B by omega];exact this
theorem AQP(d:D pO)(i:Nat):(Z4 d).take i=Z4 (d.take i):=(yE ..).symm
theorem Tr{E B:Nat}{d:D pO}(pE:0<E)(h:K3 E B d)(hE:E<2^60000)(hB:d.length*B<2^60000)(mG:B<2^60000):(∀p∈Z4 d,0<p.2/\aK p)/\(∀i,Sm (Mq rT ((Z4 d).take i)))/\Sz E (d.length*B) (Js d):=by
 have ok:Lc d:=λx hx=>(h x hx).ok;refine⟨λp hp=>?_,λi=>?_,?_⟩
 .obtain⟨x,hx,rfl⟩:=Θ.mp hp;exact⟨(ok x hx).1,(h x hx).sm hE mG (by lk)⟩
 .rw[AQP];have:=U3 (d:=d.take i) (λy hy=>h y (qY hy)) (Sz.zero pE);refine this.sm hE (b:=60000) (pN ?_ hB) (by lk);rw[uu];exact pR _ (qD _ _)
 .have:=U3 h (Sz.zero pE);rw[uu,XT ok] at this;exact this
theorem dO{d:D pO}{i:Nat}(hi:i<d.length):d.take i++[d[i]]=d.take (i+1):=(CW (n_ hi)).symm
theorem ZK{H:Hp}{a : Ξ}{kvs:List (Key×V)}{d:D pO}{E B:Nat}(ha:H a=some (.dK kvs))(hd:DQ K H kvs d)(ok:Lc d)(r1:∀p∈Z4 d,0<p.2/\aK p)(r2:∀i,Sm (Mq rT ((Z4 d).take i))){v l : Ξ}(hv:H v=none)(hl:upd H v (HO.ext (UR v a)) l=none)
  {Z:V->Hp->Prop}(z:∀x H',AM H H'->FQ K H' x (Js d)->Z x H'):Vd K [V.ref l] (upd (upd H v (HO.ext (UR v a))) l (HO.lst (List.map (λx=>x.snd) kvs))) Z E0:=by
 have s1:AM H (upd H v (HO.ext (UR v a))):=AM.new hv;have s2:=s1.trans (AM.new hl (o:=HO.lst (List.map (λx=>x.snd) kvs)));refine⟨l,_,Z4 d,rfl,AD,AJR (hd.same s2),r1,r2,λx H' s' fx=>z x H' (s2.trans s') ?_⟩;rw[XT ok] at fx;exact fx
inductive AG7(K : ξ)(vs:List V)(H:Hp)(Q:VK)(Xk:XK):Prop
 |mk:∀a kvs d E B,vs=[.ref a]->H a=some (.dK kvs)->DQ K H kvs d->(AJ d).Nodup->d.length<=1000->0<E->K3 E B d->E<2^60000->d.length*B<2^60000->B<2^60000->(∀x∈d,0<x.2.n)->(∀r H' kvs',AM H H'->H r=none->H' r=some (.dK kvs')->DQ K H' kvs' (d.map λx=>(x.1,x.2.div (Js d)))->Q (.ref r) H')->AG7 K vs H Q Xk
theorem ASj{d:D pO}(ok:Lc d)(hp:∀x∈d,0<x.2.n){x:Nat×pO}(hx:x∈d):0<(Js d).n:=by
 have h1:=Xe ok;rw[<-LC (QC ok),h1];clear h1
 induction d with
 |nil=>cases hx
 |cons y d ih=>
  rw[KN];have py:0<rv y.2:=(LC (ok y (υ ..))).mpr (hp y (υ ..));have nn:0<=Oo (λ_=>1) d:=by unfold Oo;exact Tt λz _=>by have:=Pp z.2;grind
  grind
theorem ANH(hP:P.given.tree=none)(T:Txt K mg t):A2 P w K mg AG FI 37 t.Ea t.GP ["amounts"] (AG7 K):=by
 have Jz:=@R4 P w K mg AG t hP T;have Kz:=@Su P w K mg AG t hP T;refine T.G1.ok JQ (λvs H Q E h=>?_) (λDM A AR s H vs Q E hr h=>?_)
 .obtain⟨_,_,_,_,_,rfl,_⟩:=h;rfl
 obtain⟨a,kvs,d,E,B,rfl,ha,hd,nd,ln,pE,sz,hE,hB,mG,hp,q⟩:=h;have hu:=IG hr;refine⟨_,(AE (Al (i:=1) JQ.nd rfl (qh rfl) (Af Kz hr.m rfl T.QX T.Lw.kp T.Qt .nil AS (AA (Ju NH rfl T.SO Rc (AA (Xq (pv 0)) AF)) AF)))
  (AE (Al (i:=2) JQ.nd rfl (qh rfl) JL)
  (AE (MZ (Fo qA rfl (Ma (pv 0)) (BU (i:=3) JQ.nd rfl (qh rfl)) (AI (KL hu (pv 2) (pv 3) (Af Jz hr.m rfl T.PL T.Ji.kp T.Pf .nil AS (AA (Dc hu (pv 0) (pv 3) (λ_ _=>rfl)) (AA (pv 1) AF))) rfl))))
  (AI (AV (pv 2)))))),?_⟩
 clear Jz Kz;have ok:Lc d:=λx hx=>(sz x hx).ok;obtain⟨r1,r2,r3⟩:=Tr pE sz hE hB mG
 z_go
 refine⟨kvs,rfl,λv hv=>⟨rfl,a,rfl,kvs,AM.new hv _ _ ha,λl hl=>ZK (E:=E) (B:=B) ha hd ok r1 r2 hv hl λtv H1 s1 ft m hm=>?_⟩⟩;have dF:=s1 _ _ ha;have aA:a≠m:=AO dF hm;have WL:upd H1 m (HO.dK []) a=some (.dK kvs):=by rw[AH aA];exact dF
 refine⟨a,_,WL,trivial,λod=>?_⟩
 z_go
 refine⟨a,od,rfl,.inl ⟨kvs,AD,?_⟩⟩;have ZC:H m=none:=s1.free hm;have f0:∀v p,BH K H1 v p->BH K (upd (upd H1 m (HO.dK [])) a (HO.DK od (HO.dK kvs))) v p:=λv p h=>(h.same (AM.new hm)).A6 Ae.upd WL trivial;have XC:upd (upd H1 m (HO.dK [])) a (HO.DK od (HO.dK kvs)) m=some (.dK []):=by rw[AH (qk aA),AD]
 have bG:upd (upd H1 m (HO.dK [])) a (HO.DK od (HO.dK kvs)) a=some (HO.DK od (HO.dK kvs)):=AD;have sa:∀b o,H b=some o->b≠a->upd (upd H1 m (HO.dK [])) a (HO.DK od (HO.dK kvs)) b=some o:=λb o h n=>by rw[AH n,AH (AO h ZC)];exact s1 b o h
 have Ym:=hd.same s1;have ft2:=f0 _ _ ft;clear WL;generalize upd (upd H1 m (HO.dK [])) a (HO.DK od (HO.dK kvs))=H2 at *;have tp:=λx hx=>ASj ok hp (x:=x) hx;have tok:=QC ok;have jd:Sm (Js d):=r3.sm hE hB (by lk);refine CP (kvs.map λkv=>kV kv.1) (λi σ H'=>Ae m H2 H'/\∃o kvs',σ=[some (.ref a),some tv,some (.ref m),o]/\H' m=some (.dK kvs')/\DQ K H' kvs' ((d.take i).map λx=>(x.1,x.2.div (Js d))))
  ⟨λb o _ h=>h,_,[],rfl,XC,.nil⟩ (λi σ H' ⟨sx,_⟩=>GY (sx a _ aA bG)) (λi x σ H' hx ⟨sx,o,kvs',e1,NZ,Et⟩=>?_) (λσ H' ⟨sx,o,kvs',e1,NZ,Et⟩=>?_)
 .subst e1;obtain⟨hi,u,rfl,fu,dg,nk⟩:=W7 Ym nd hx;have N9:d[i]∈d:=qI hi;have ox:=ok _ N9;have aS:Sm d[i].2:=(sz _ N9).sm hE mG (by lk);have bH:FQ K H' u d[i].2:=(f0 _ _ fu).A6 sx XC trivial;have om:=ft2.A6 sx XC trivial;have i8:=dg H' a od (sx a _ aA bG);have tp':=tp _ N9;have kk:AJ ((d.take i).map λx=>(x.1,x.2.div (Js d)))=AJ (d.take i):=by unfold AJ;rw[p6];rfl
  have jw:d[i].1∉AJ ((d.take i).map λx=>(x.1,x.2.div (Js d))):=by rw[kk];exact nk
  have ZA:(AJ ((d.take i).map λx=>(x.1,x.2.div (Js d)))).Nodup:=by rw[kk];exact nd.sublist ((ux i _).map _)
  have ll:kvs'.length<pY:=by rw[Dm.len Et,χ];exact pN (a_ (qD _ _) ln) (by lk)
  rw[<-dO hi,se];clear q hd Ym f0 hx nk dg kk tp r1 r2 fu ft ft2 ha dF bG;generalize ((d.take i).map λx=>(x.1,x.2.div (Js d)))=Z0 at *
  z_go
  refine⟨u,i8,u,tv,qp d[i].2,qp (Js d),rfl,bH,om,ox.1,tok.1,aS,jd,tp',λb hb=>?_⟩;rw[dN ox.1 tok.1 tp',OT ox,OT tok];have s4:AM H' (upd H' b (tupQ (d[i].2.div (Js d)))):=AM.new hb;refine⟨_,P4.k (k:=pS ((d[i].1:Nat):Int)) (s4 _ _ NZ) ll,(sx.trans (s4.x m)).trans Ae.upd,_,AD,?_⟩;rw[<-TV jw];exact DQ.A6 (Dm.put (DQ.same Et s4) ZA (BH.tup AD)) Ae.upd (s4 _ _ NZ) trivial
 .subst e1;rw[χ,Ym.len,qL] at Et;have Ti:H' a=some (HO.DK od (HO.dK kvs)):=sx a _ aA bG;refine⟨Ti,_,rfl,q m _ kvs' (λb o hb=>?_) ZC (by rw[AH (qk aA)];exact NZ) (DQ.A6 Et Ae.upd Ti trivial)⟩;by_cases e:b=a
  .rw[e,ha] at hb;cases hb;rw[e,AD]
  .rw[AH e];exact sx b o (AO hb ZC) (sa b o hb e)
theorem ATW{l:e_}(g:Good l){e:Nat}(he:e<l.persons.length):∃E C,0<E/\Cr∣E/\E<2^540/\C<2^116/\K3 E C (Av l e):=by
 obtain⟨E,C,pE,dv,hE,hC,z⟩:=AOi g he;have ps:Sz E 1 (A8 l e (rS l e)):=by
  have:Sz Cr 1 (A8 l e (rS l e)):=by
   unfold A8;split
   .exact(Sz.zero Az).mono (qi _) Az (qG _)
   .cases q:rS l e with
    |none=>exact Sz.one Az
    |some k=>exact(WE g (Gw q)).X8
  exact this.mono dv pE (b_ _)
 refine⟨E,C+1,pE,dv,hE,?_,λx hx=>z.Am pE (EJ l e) ps x (d_.mp hx).1⟩;have e1:(2:Nat)^116=2^115+2^115:=by rw[show 116=115+1 from rfl,rN,Nat.mul_two]
 have:=uq 115;omega
theorem ASh{l:e_}(g:Good l)(e:Nat):K3 Cr 10 (Cq l e)/\(AJ (Cq l e)).Nodup/\(Cq l e).length<=10:=by have h:=Sa (l:=l) (l.gifts.filter λg=>g.of_==e) (d:=[]) (B:=0) (λx hx=>(g.Ux x (d_.mp hx).1).2.2.2.1) (λx hx=>by cases hx) (by exact uJ);have lg:(l.gifts.filter (λg=>g.of_==e)).length<=10:=a_ (pU _ _) g.Z6;rw[<-VX] at h;refine⟨h.1.mono (qi _) Az (by omega),h.2.1,?_⟩;have:=h.2.2;have e0:([]:D pO).length=0:=rfl;omega
theorem AQO{l:e_}(g:Good l)(e:Nat):∀x∈Cq l e,0<x.2.n:=by
 rw[VX];have key:∀(gs:List sM) (d:D pO),(∀x∈gs,ZG x.part/\0<x.part.n)->Pos d->Pos (MU l d gs):=by
  intro gs
  induction gs with
  |nil=>intro d _ h;exact h
  |cons x gs ih=>
   intro d hf h;have hx:=hf x (υ ..);have ZD:∀y∈gs,ZG y.part/\0<y.part.n:=λy hy=>hf y (θ _ hy);unfold MU;rw[q_];cases vF l x with
   |none=>exact ih d ZD h
   |some i=>exact ih _ ZD (VA h (i+1) hx.1.1 hx.2)
 exact(key _ [] (λx hx=>(g.Ux x (d_.mp hx).1).2.2.2) ⟨λx hx=>(by cases hx),(by exact uJ),λx hx=>(by cases hx)⟩).pos
def P7(c:pO)(d u:D pO):D pO:=u.foldl (λd x=>Am d x.1 (x.2.mul c)) d
theorem AMl(c:pO)(d u:D pO)(x:Nat×pO):P7 c d (u++[x])=Am (P7 c d u) x.1 (x.2.mul c):=by unfold P7;rw[rj];rfl
theorem AKz{c:pO}{E C:Nat}(pE:0<E):∀(u:D pO) {d:D pO}{B:Nat},(∀x∈u,Sz E C (x.2.mul c))->K3 E B d->(AJ d).Nodup->K3 E (B+u.length*C) (P7 c d u)/\(AJ (P7 c d u)).Nodup/\(P7 c d u).length<=d.length+u.length
 |[],d,B,_,h,n=>⟨by simpa[P7] using h,n,b_ _⟩
 |x::u,d,B,hu,h,n=>by
  have ih:=AKz (c:=c) pE u (λy hy=>hu y (θ _ hy)) (h.Am pE x.1 (hu x (υ ..))) (G8 n x.1 (x.2.mul c));refine⟨?_,ih.2.1,?_⟩
  .rw[o_,xQ,show B+(u.length*C+C)=B+C+u.length*C by omega];exact ih.1
  .have h1:=ih.2.2;have h2:=NY d x.1 ((Ak d x.1).add (x.2.mul c));rw[o_];show(P7 c (Am d x.1 (x.2.mul c)) u).length<=_;unfold Am at h1 ⊢;omega
theorem AL5{x y:pO}(hx:Bm x)(hy:Bm y)(h:rv x<=rv y):x.n*y.d<=y.n*x.d:=by have:=(Rk hx hy).mpr h;unfold yt at this;simpa using this
theorem VG{x y:pO}(hx:Bm x)(hy:Bm y):Zr (qp x) (qp y)=x.sub y:=((Is.self hx).sub (Is.self hy)).eq.symm
theorem AQR{l:e_}(g:Good l)(e:Nat):Lc (Cq l e)/\Bm (Js (Cq l e))/\rv (Js (Cq l e))<=1:=by have h:=AKy g e;refine⟨h.ok,QC h.ok,?_⟩;rw[Xe h.ok,h.all];exact Z5 g e
theorem APb(hP:P.given.tree=none)(T:Txt K mg t):A2 P w K mg AG FI 41 t.NC t.Oe ["land","dead"] (QI t K AL):=by
 have Ej:=@OU P w K mg AG t hP T;have ACj:=@ARO P w K mg AG t hP T;have ADa:=@ANH P w K mg AG t hP T;have Lp:=@V3 P w K mg AG t hP T;have G5:=@UD P w K mg AG t hP T;have K0:=@Sv P w K mg AG t hP T;have Kz:=@Su P w K mg AG t hP T;refine T.Od.ok OS (λvs H Q E h=>WZ h) (λDM A AR s H vs Q E hr h=>?_);obtain⟨L,l,e,rfl,es,q⟩:=h;have hu:=IG hr;refine⟨_,(AE (Al (i:=2) OS.nd rfl (qh rfl) (Af G5 hr.m rfl T.Ie T.DP.kp T.Io .nil AS (AA (pv 0) (AA (pv 1) AF))))
  (AE (Al (i:=3) OS.nd rfl (qh rfl) (Af ACj hr.m rfl T.AB3 T.GI.kp T.ACG .nil AS (AA (pv 0) (AA (pv 1) AF))))
  (AE (Bv (Cy M0 (CO Ub rfl T.Ks IV (AA (pv 2) AF)) Ac (Cn _)) (AI (AV (Af ADa hr.m rfl T.ACb T.G1.kp T.ACf .nil AS (AA (pv 3) AF)))) Ax)
  (AE (Al (i:=4) OS.nd rfl (qh rfl) (Af Lp hr.m rfl T.OW T.Kd.kp T.Oj .nil AS (AA (El rfl T.XI) (AA (Af Kz hr.m rfl T.QX T.Lw.kp T.Qt .nil AS (AA (Ju NH rfl T.SO Rc (AA (Xq (pv 3)) AF)) AF)) AF))))
  (AE (MZ (Fo qA rfl (Ma (pv 2)) (BU (i:=5) OS.nd rfl (qh rfl)) (AI (FN (Af Ej hr.m rfl T.LM T.G9.kp T.LY .nil AS (AA (pv 3) (AA (pv 5) (AA (Af K0 hr.m rfl T.QY T.Ly.kp T.Qu .nil AS (AA (Dc hu (pv 2) (pv 5) (λ_ _=>rfl)) (AA (pv 4) AF))) AF))))))))
  (AI (AV (pv 3)))))))),?_⟩
 clear Ej ACj ADa Lp G5 K0 Kz;have g:=es.g;have he:=es.he;obtain⟨w1,w2,w3⟩:=ASh g e;obtain⟨v1,v2,v3⟩:=AQR g e;have wp:=AQO g e;obtain⟨r1,r2,r3⟩:=Tr Az w1 (AQ JU (by lk)) (AQ (y:=60000) (x:=32) (show(Cq l e).length*10<2^32 by omega) (by lk)) (AQ (y:=60000) (x:=32) (show 10<2^32 by omega) (by lk));unfold AL at q
 z_go
 refine⟨L,l,e,rfl,es,λr H1 kvs s1 UT TF Ym=>?_⟩
 z_go
 refine⟨L,l,e,rfl,es.same s1,λm H2 SD s2 ZC XC l8=>?_⟩;have Yv:=s2 _ _ TF;have hd2:=Ym.same s2;have T7:=s1.trans s2;have Zo:H m=none:=s1.free ZC;have Wk:r≠m:=AO TF ZC
 z_go
 refine⟨kvs,rfl,?_⟩;have nX:=Ym.len;by_cases c:Av l e=[]
 .rw[η (by rw[nX,c];decide)];rw[η c] at q;refine⟨m,SD,Cq l e,Cr,10,rfl,XC,l8,w2,by omega,Az,w1,AQ JU (by lk),AQ (y:=60000) (x:=32) (show(Cq l e).length*10<2^32 by omega) (by lk),AQ (y:=60000) (x:=32) (show 10<2^32 by omega) (by lk),wp,λr3 H3 cM s3 AXp eK ic=>q r3 H3 cM (T7.trans s3) (T7.free AXp) eK ic⟩
 rw[ζ (λz=>c (rm (by have:=zod z;omega)))];rw[ζ c] at q
 z_go
 refine⟨SD,rfl,λv hv=>⟨rfl,m,rfl,SD,AM.new hv _ _ XC,λli n9=>ZK (E:=Cr) (B:=10) XC l8 v1 r1 r2 hv n9 λtv H3 s3 ft=>?_⟩⟩;have jd:Sm (Js (Cq l e)):=QJ r3 (S0 (by omega));have o1k:Bm vO:=Bh;refine⟨_,tv,qp vO,qp (Js (Cq l e)),rfl,Wa T H3,ft,s_,v2.1,ZO,jd,AL5 v2 o1k (by rw[Ge];exact v3),λlf hlf=>?_⟩;rw[VG o1k v2];have s4:AM H3 (upd H3 lf (tupQ (Si49.one.sub (Js (Cq l e))))):=AM.new hlf;have f7:=s3.trans s4;have flf:FQ K (upd H3 lf (tupQ (Si49.one.sub (Js (Cq l e))))) (.ref lf) (Si49.one.sub (Js (Cq l e))):=BH.tup AD;have jh:Sz Cr 1 (Si49.one.sub (Js (Cq l e))):=(Sz.one Az).sub r3;generalize upd H3 lf (tupQ (Si49.one.sub (Js (Cq l e))))=H4 at *;generalize Si49.one.sub (Js (Cq l e))=lq at *;have cS:=f7 _ _ Yv;have Yx:=f7 _ _ XC;have eV:=hd2.same f7;have AWq:=l8.same f7;have lH:=T7.trans f7;refine⟨r,_,cS,trivial,λod=>?_⟩
 z_go
 refine⟨r,od,rfl,.inl ⟨kvs,AD,?_⟩⟩;have lG:AM H (upd H4 r (HO.DK od (HO.dK kvs))):=AM.Ow lH UT;have f0:∀v p,BH K H4 v p->BH K (upd H4 r (HO.DK od (HO.dK kvs))) v p:=λv p h=>h.A6 Ae.upd cS trivial;have Zn:upd H4 r (HO.DK od (HO.dK kvs)) m=some (.dK SD):=by rw[AH (qk Wk)];exact Yx
 have XA:upd H4 r (HO.DK od (HO.dK kvs)) r=some (HO.DK od (HO.dK kvs)):=AD;have bF:DQ K (upd H4 r (HO.DK od (HO.dK kvs))) SD (Cq l e):=AWq.A6 Ae.upd cS trivial;have AWz:=f0 _ _ flf;generalize upd H4 r (HO.DK od (HO.dK kvs))=H5 at *;have nd:=(PU g he).1.nd;obtain⟨E2,C2,pE,dvE,hE,hC,zl⟩:=ATW g he;have ll:=YB g he;have szm:∀x∈Av l e,Sz (E2*Cr) C2 (x.2.mul lq):=λx hx=>by have:=(zl x hx).mul jh;rw[tT] at this;exact this
 have nF:0<E2*Cr:=p7 pE Az;have hEM:E2*Cr<2^(540+136):=A5 hE JU;have w1':K3 (E2*Cr) 10 (Cq l e):=w1.mono (uI _ _) nF (b_ _);change ∀(r : Ξ) (H':Hp) (kvs:List (Key×V)),AM H H'->H r=none->H' r=some (HO.dK kvs)->DQ K H' kvs (P7 lq (Cq l e) (Av l e))->Q (V.ref r) H' at q;refine CP (kvs.map λkv=>kV kv.1) (λi σ H'=>Ae m H5 H'/\∃o kvs',σ=[some (.ref L.land),some (.int (((e+1:Nat)):Int)),some (.ref r),some (.ref m),some (.ref lf),o]/\H' m=some (.dK kvs')/\DQ K H' kvs' (P7 lq (Cq l e) ((Av l e).take i)))
  ⟨λb o _ h=>h,_,SD,rfl,Zn,bF⟩ (λi σ H' ⟨sx,_⟩=>GY (sx r _ Wk XA)) (λi x σ H' hx ⟨sx,o,kvs',e1,NZ,Et⟩=>?_) (λσ H' ⟨sx,o,kvs',e1,NZ,Et⟩=>?_)
 .subst e1;obtain⟨hi,u,rfl,fu,dg,nk⟩:=W7 eV nd hx;have N9:(Av l e)[i]∈Av l e:=qI hi;obtain⟨ox,aS,k1,k2⟩:=YA g he _ N9;have bH:FQ K H' u (Av l e)[i].2:=(f0 _ _ fu).A6 sx Zn trivial;have fl':=AWz.A6 sx Zn trivial;have i8:=dg H' r od (sx r _ Wk XA);have jJ:=szm _ N9;obtain⟨y1,y2,y3⟩:=AKz (c:=lq) nF ((Av l e).take i) (λx hx=>szm x (qY hx)) w1' w2;have tl:((Av l e).take i).length<=16:=a_ (qD _ _) ll;have big:10+((Av l e).take i).length*C2<2^200:=by
   have h1:((Av l e).take i).length*C2<=16*C2:=pR _ tl;have h2:(2:Nat)^200=2^84*2^116:=by rw[<-xq]
   have h3:(2:Nat)^84=19342813113834066795298816:=by decide
   have h4:0<(2:Nat)^116:=uq _;omega
  have sml:Sm lq:=QJ jh (S0 (by lk));have mz:Sm ((Av l e)[i].2.mul lq):=jJ.sm hEM hC (by lk);rw[<-dO hi,AMl];clear q hx dg f0 fu flf AWz Ym hd2 eV XC Yx Zn l8 AWq bF TF Yv cS XA ft r1 r2;generalize P7 lq (Cq l e) ((Av l e).take i)=Z0 at *
  z_go
  refine⟨u,i8,u,.ref lf,qp (Av l e)[i].2,qp lq,rfl,bH,fl',ox.1,jh.ok.1,aS,sml,trivial,λb hb=>?_⟩;rw[U0 ox jh.ok.1,OT jh.ok];have s6:AM H' (upd H' b (tupQ ((Av l e)[i].2.mul lq))):=AM.new hb;refine⟨m,(Av l e)[i].1,.ref b,kvs',Z0,qp ((Av l e)[i].2.mul lq),rfl,s6 _ _ NZ,Et.same s6,y2,λx hx=>(y1 x hx).ok,by omega,(y1.val nF _).sm hEM big (by lk),BH.tup AD,jJ.ok.1,mz,λH7 iG ji cU eU=>⟨(sx.trans (s6.x m)).trans ji,iG,cU,?_⟩⟩;rw[OT jJ.ok] at eU;exact eU
 .subst e1;rw[χ,Ym.len,qL] at Et;have Ti:H' r=some (HO.DK od (HO.dK kvs)):=sx r _ Wk XA;have Q9:AM H H':=λb o h=>sx b o (AO h Zo) (lG b o h);exact⟨Ti,_,rfl,q m _ kvs' (AM.Ow Q9 UT) Zo (by rw[AH (qk Wk)];exact NZ) (DQ.A6 Et Ae.upd Ti trivial)⟩
structure Sh3(l:e_)(e E B:Nat):Prop where
 pE:0<E
 hE:E<2^1200
 hB:B<2^154
 w:∀x∈AL l e,Sz E B x.2
 k:∀n,Sz E B (Ak (AZ l e) n)
theorem ALC{l:e_}{d:D pO}{f:Nat->Rat}(h:Tells l d f){E B:Nat}{y:Nat->pO}(hy:∀i,Sz E B (y i))(e:∀i,rv (y i)=f i):∀n,n∈AJ d->Ak d n=y (n-1):=λn hn=>by have k:=h.k n hn;have v:=h.val (n-1);rw[show n-1+1=n by omega] at v;exact QO (F8 h.ok n) (hy _).ok (by rw[e];exact v)
theorem sh3{l:e_}(g:Good l){e:Nat}(he:e<l.persons.length):∃E B,Sh3 l e E B:=by
 obtain⟨E,B,p⟩:=ALe g e;have h:=Yp g he;refine⟨E,B,p.pos,p.kg,p.blt,λx hx=>?_,λn=>?_⟩
 .have:=ALC h.w p.w (λi=>U7 g e i) x.1 (Θ.mpr ⟨x,hx,rfl⟩);rw[NF h.w.nd hx] at this;rw[this];exact p.w _
 .by_cases hn:n∈AJ (AZ l e)
  .rw[ALC h.k p.k (λi=>U8 g e i) n hn];exact p.k _
  .have:Ak (AZ l e) n=rT:=by unfold Ak;rw[BO.mpr hn];rfl
   rw[this];exact(Sz.zero p.pos).mono (qi _) p.pos (qG _)
theorem ANM(w k:D pO)(x:Nat×pO):Ar (w++[x]) k=Ar w k++if x.2.le (Ak k x.1)=true then[] else[(x.1,x.2.sub (Ak k x.1))]:=by unfold Ar;rw[uQ,se,qB,vB];cases x.2.le (Ak k x.1)<;>rfl
theorem ANO(w k:D pO)(x:Nat×pO):GG (w++[x]) k=if x.2.le (Ak k x.1)=true then(GG w k).add ((Ak k x.1).sub x.2) else GG w k:=by unfold GG;rw[uQ,rj,qB,vB];cases x.2.le (Ak k x.1)<;>rfl
theorem AHa(w k:D pO):(AJ (Ar w k)).Sublist (AJ w):=by unfold Ar AJ;rw[p6];exact List.filter_sublist.map _
theorem UI(w k:D pO):(Ar w k).length<=w.length:=by unfold Ar;rw[χ];exact pU _ _
theorem WA{E B:Nat}(pE:0<E){w k:D pO}(hw:∀x∈w,Sz E B x.2)(hk:∀n,Sz E B (Ak k n)):Sz E (w.length*B) (GG w k):=by
 have key:∀(u:D pO) (a:pO) (C:Nat),(∀x∈u,x∈w)->Sz E C a->Sz E (C+u.length*B) (u.foldl (λa x=>a.add ((Ak k x.1).sub x.2)) a):=by
  intro u
  induction u with
  |nil=>intro a C _ h;simpa using h
  |cons x u ih=>intro a C hu h;have hx:=hu x (υ ..);have:=ih _ _ (λy hy=>hu y (θ _ hy)) (h.add ((hk x.1).sub (hw x hx)));rw[q_,o_,xQ,show C+(u.length*B+B)=C+B+u.length*B by omega];exact this
 have:=key (w.filter λx=>x.2.le (Ak k x.1)) rT 0 (λx hx=>(d_.mp hx).1) (Sz.zero pE);refine this.mono (qi _) pE ?_;rw[uu];exact pR _ (pU _ _)
theorem V7{E B:Nat}{w k:D pO}(hw:∀x∈w,Sz E B x.2)(hk:∀n,Sz E B (Ak k n)):K3 E B (Ar w k):=λx hx=>by obtain⟨y,hy,rfl⟩:=Θ.mp hx;exact(hw y (d_.mp hy).1).sub (hk y.1)
def bN(w k:D pO)(x:Nat×pO):pO:=(Ak w x.1).sub ((GG w k).mul (x.2.div (Js (Ar w k))))
def Nk(F:Nat×pO->pO)(d u:D pO):D pO:=u.foldl (λd x=>dput d x.1 (F x)) d
theorem ALP(F:Nat×pO->pO)(d u:D pO)(x:Nat×pO):Nk F d (u++[x])=dput (Nk F d u) x.1 (F x):=by unfold Nk;rw[rj];rfl
theorem Rt(F:Nat×pO->pO):∀(u d:D pO),(Nk F d u).length<=d.length+u.length
 |[],d=>b_ _
 |x::u,d=>by have:=Rt F u (dput d x.1 (F x));have h2:=NY d x.1 (F x);rw[o_];show(Nk F (dput d x.1 (F x)) u).length<=_;omega
theorem AHB{F:Nat×pO->pO}{p:pO->Prop}:∀(u d:D pO),(∀x∈d,p x.2)->(∀x∈u,p (F x))->∀x∈Nk F d u,p x.2
 |[],d,h,_=>h
 |y::u,d,h,hu=>AHB u (dput d y.1 (F y)) (λx hx=>by
   rcases VJ hx with rfl|z
   .exact hu y (υ ..)
   .exact h x z) λx hx=>hu x (θ _ hx)
theorem L6{x:pO}{E B:Nat}(h:Sz E B x)(hE:E<2^5000)(hB:B<2^5000):Sm x:=h.sm hE hB (by lk)
theorem AVu{l:e_}(g:Good l){e:Nat}(he:e<l.persons.length){E B:Nat}(s:Sh3 l e E B){x:Nat×pO}(hx:x∈Ar (AL l e) (AZ l e)):
  0<(Js (Ar (AL l e) (AZ l e))).n/\Sm (x.2.div (Js (Ar (AL l e) (AZ l e))))/\Bm ((GG (AL l e) (AZ l e)).mul (x.2.div (Js (Ar (AL l e) (AZ l e))))) /\
   Sm ((GG (AL l e) (AZ l e)).mul (x.2.div (Js (Ar (AL l e) (AZ l e)))))/\rv ((GG (AL l e) (AZ l e)).mul (x.2.div (Js (Ar (AL l e) (AZ l e)))))<=rv (Ak (AL l e) x.1)/\Sm (bN (AL l e) (AZ l e) x) /\
   x.1∈AJ (AL l e):=by
 have h:=Yp g he;obtain⟨mo,mv⟩:=h.miss;obtain⟨a1,a2,a3,a4,a5⟩:=h.mo;have to:=QC a1;obtain⟨b1,b2,b3⟩:=a3 x hx;have k1:=h.w.k _ b1;obtain⟨p1,p2⟩:=YK (e:=e) g b3 (by omega);have tp:0<(Js (Ar (AL l e) (AZ l e))).n:=(LC to).mp (by rw[a5];exact p1);have GV:(AL l e).length<=16:=a_ (Dn h.w.nd h.w.k) g.GV;have sm:=WA s.pE s.w s.k;have sx:=V7 s.w s.k x hx;have st:=U3 (V7 s.w s.k) (Sz.zero s.pE);rw[uu,XT a1] at st;have lm:=UI (AL l e) (AZ l e);have n1:(Js (Ar (AL l e) (AZ l e))).n<2^1400:=by refine pN st.fG ?_;have h1:(Ar (AL l e) (AZ l e)).length*B<2^158:=pN (pR _ (show _<=16 by omega)) (O0 s.hB);exact AQ (A5 h1 s.hE) (by lk)
 have d1:(Js (Ar (AL l e) (AZ l e))).d<2^1200:=pN st.dP s.hE;have sd:=sx.div to tp;have hD:E*(Js (Ar (AL l e) (AZ l e))).n<2^(1200+1400):=A5 s.hE n1;have hC:B*(Js (Ar (AL l e) (AZ l e))).d<2^(154+1200):=A5 s.hB d1;have sp:=sm.mul sd;have hmB:(AL l e).length*B<2^158:=pN (pR _ GV) (O0 s.hB);have sw:Sz E B (Ak (AL l e) x.1):=by obtain⟨y,hy,ey⟩:=Θ.mp b1;rw[<-ey,NF h.w.nd hy];exact s.w y hy
 have f1:Bm ((GG (AL l e) (AZ l e)).mul (x.2.div (Js (Ar (AL l e) (AZ l e))))):=N7 mo (D4 (a1 x hx));have v1:=h.w.val (x.1-1);rw[show x.1-1+1=x.1 by omega] at v1;have key:rv ((GG (AL l e) (AZ l e)).mul (x.2.div (Js (Ar (AL l e) (AZ l e)))))=(Bd l e (x.1-1)-Bo l e (x.1-1))*(S l e/M l e):=by
  rw[O5 mo (D4 (a1 x hx)),KG (a1 x hx) to,mv,b2,a5]
  grind
 have hDD:E*(E*(Js (Ar (AL l e) (AZ l e))).n)<2^(1200+(1200+1400)):=A5 s.hE hD;have hCC:(AL l e).length*B*(B*(Js (Ar (AL l e) (AZ l e))).d)<2^(158+(154+1200)):=A5 hmB hC;have pDD:0<E*(E*(Js (Ar (AL l e) (AZ l e))).n):=sp.pos;refine⟨tp,L6 sd (AQ hD (by lk)) (AQ hC (by lk)),f1,L6 sp (AQ hDD (by lk)) (AQ hCC (by lk)),?_,?_,b1⟩
 .rw[key];show _<=dv (AL l e) x.1;rw[v1];exact p2
 .have:Sz (E*(E*(Js (Ar (AL l e) (AZ l e))).n)) B (Ak (AL l e) x.1):=sw.mono (rM _ _) pDD (b_ _);exact L6 (this.sub sp) (AQ hDD (by lk)) (AQ s.hB (by lk))
theorem AR0(T:Txt K mg t){H:Hp}{a : Ξ}{kvs:List (Key×V)}{d:D pO}(ha:H a=some (.dK kvs))(hd:DQ K H kvs d)(n:Nat):∃o,Ld H a (.int ((n:Nat):Int)) o/\FQ K H (o.getD (.ref t.Ip)) (Ak d n):=by
 cases q:BP d n with
 |none=>refine⟨none,.inl ⟨kvs,pS ((n:Nat):Int),.inl ha,rfl,(hd.W2 q).symm⟩,?_⟩;unfold Ak;rw[q];exact Jd T H
 |some x=>obtain⟨u,u1,u2⟩:=hd.PX q;refine⟨some u,.inl ⟨kvs,pS ((n:Nat):Int),.inl ha,rfl,u1.symm⟩,?_⟩;unfold Ak;rw[q];exact u2
theorem AJo(hP:P.given.tree=none)(T:Txt K mg t):A2 P w K mg AG FI 42 t.Km t.Of ["land","dead"] (QI t K As):=by
 have Jz:=@R4 P w K mg AG t hP T;have Iq:=@Xx P w K mg AG t T;have ASd:=@AOW P w K mg AG t hP T;have Lp:=@V3 P w K mg AG t hP T;have Qy:=@Xw P w K mg AG t hP T;have K0:=@Sv P w K mg AG t hP T;have Kz:=@Su P w K mg AG t hP T;have AMg:=@APb P w K mg AG t hP T;have Ff:=@AHS P w K mg AG t T;refine T.Mm.ok GA (λvs H Q E h=>WZ h) (λDM A AR s H vs Q E hr h=>?_);obtain⟨L,l,e,rfl,es,q⟩:=h;have hu:=IG hr;refine⟨_,(AE (Al (i:=2) GA.nd rfl (qh rfl) (Af AMg hr.m rfl T.AJs T.Od.kp T.AKG .nil AS (AA (pv 0) (AA (pv 1) AF))))
  (AE (Al (i:=3) GA.nd rfl (qh rfl) (Af ASd hr.m rfl T.X7 T.RQ.kp T.YS .nil AS (AA (pv 0) (AA (pv 1) AF))))
  (AE (Al (i:=4) GA.nd rfl (qh rfl) JL)
  (AE (Al (i:=5) GA.nd rfl (qh rfl) (El rfl T.Jy))
  (AE (MZ (Fo qA rfl (Ma (pv 2)) (BU (i:=6) GA.nd rfl (qh rfl)) (AE (Al (i:=7) GA.nd rfl (qh rfl) (Vy hu (pv 3) (pv 6) (El rfl T.Jy) ⟨by rfl,by rfl,by rfl,by rfl⟩))
   (AI (Bv (CD (Af Iq hr.m rfl T.M8 T.IK.kp T.NJ .nil AS (AA (Dc hu (pv 2) (pv 6) (λ_ _=>rfl)) (AA (pv 7) AF)))) (AI (KL hu (pv 4) (pv 6) (Af Lp hr.m rfl T.OW T.Kd.kp T.Oj .nil AS (AA (Dc hu (pv 2) (pv 6) (λ_ _=>rfl)) (AA (pv 7) AF))) rfl)) (AI (Al (i:=5) GA.nd rfl (qh rfl) (Af Qy hr.m rfl T.VH T.PY.kp T.VR .nil AS (AA (pv 5) (AA (Af Lp hr.m rfl T.OW T.Kd.kp T.Oj .nil AS (AA (pv 7) (AA (Dc hu (pv 2) (pv 6) (λ_ _=>rfl)) AF))) AF))))))))))
  (AE (Al (i:=8) GA.nd rfl (qh rfl) (Af Kz hr.m rfl T.QX T.Lw.kp T.Qt .nil AS (AA (Ju NH rfl T.SO Rc (AA (Xq (pv 4)) AF)) AF)))
  (AE (Al (i:=9) GA.nd rfl (qh rfl) (Ju AH7 rfl T.Zv AO1 (AA (pv 3) AF)))
  (AE (MZ (Fo qA rfl (Ma (pv 4)) (BU (i:=6) GA.nd rfl (qh rfl)) (AI (KL hu (pv 9) (pv 6) (Af Lp hr.m rfl T.OW T.Kd.kp T.Oj .nil AS (AA (Dc hu (pv 2) (pv 6) (λ_ _=>rfl)) (AA (Af K0 hr.m rfl T.QY T.Ly.kp T.Qu .nil AS (AA (pv 5) (AA (Af Jz hr.m rfl T.PL T.Ji.kp T.Pf .nil AS (AA (Dc hu (pv 4) (pv 6) (λ_ _=>rfl)) (AA (pv 8) AF))) AF))) AF))) rfl))))
  (AI (AV (Af Ff hr.m rfl T.Jf T.DO.kp T.Jm .nil AS (AA (pv 9) AF)))))))))))),?_⟩
 clear Jz Iq ASd Lp Qy K0 Kz AMg Ff;have g:=es.g;have he:=es.he;obtain⟨E0',B,z3⟩:=sh3 g he;have sh:=Yp g he;have GV:(AL l e).length<=16:=a_ (Dn sh.w.nd sh.w.k) g.GV;have AYK:(AZ l e).length<=16:=a_ (Dn sh.k.nd sh.k.k) g.GV;walk_at "rf";refine⟨L,l,e,rfl,es,λwi H1 UO s1 hw0 ni fV=>?_⟩;refine⟨L,l,e,rfl,es.same s1,λlr H2 aD s2 oA cX hdl m hm=>?_⟩;have kC:=s2 _ _ ni;have AWn:=fV.same s2;have dz:=s1.trans s2;have hl00:H lr=none:=s1.free oA;have Zo:H m=none:=dz.free hm;have nwl:wi≠lr:=AO ni oA;have jN:wi≠m:=AO kC hm;have nO:lr≠m:=AO cX hm;have s3:AM H2 (upd H2 m (HO.dK [])):=AM.new hm;have jT:=s3 _ _ kC;have hl3:=s3 _ _ cX;have kJ:upd H2 m (HO.dK []) m=some (.dK []):=AD;have AWm:=AWn.same s3;have AWs:=hdl.same s3;have sH3:=dz.trans s3;generalize upd H2 m (HO.dK [])=H3 at *;refine⟨wi,_,jT,trivial,λod=>?_⟩;walk_at "rf";refine⟨wi,od,rfl,.inl ⟨UO,AD,?_⟩⟩;have lH:AM H (upd H3 wi (HO.DK od (HO.dK UO))):=AM.Ow sH3 hw0;have lu:upd H3 wi (HO.DK od (HO.dK UO)) wi=some (HO.DK od (HO.dK UO)):=AD;have l7:upd H3 wi (HO.DK od (HO.dK UO)) lr=some (.dK aD):=by rw[AH (qk nwl)];exact hl3
 have Yx:upd H3 wi (HO.DK od (HO.dK UO)) m=some (.dK []):=by rw[AH (qk jN)];exact kJ
 have fU:DQ K (upd H3 wi (HO.DK od (HO.dK UO))) UO (AL l e):=AWm.A6 Ae.upd jT trivial;have iZ:DQ K (upd H3 wi (HO.DK od (HO.dK UO))) aD (AZ l e):=AWs.A6 Ae.upd jT trivial;generalize upd H3 wi (HO.DK od (HO.dK UO))=H4 at *;clear ni fV cX hdl hm kC AWn s3 jT hl3 kJ AWm AWs sH3 dz s1 s2 oA;refine CP (UO.map λkv=>kV kv.1) (λi σ H'=>Ae m H4 H'/\∃o6 o7 SD mv,σ=[some (.ref L.land),some (.int (((e+1:Nat)):Int)),some (.ref wi),some (.ref lr),some (.ref m),some mv,o6,o7,none,none]/\H' m=some (.dK SD)/\DQ K H' SD (Ar ((AL l e).take i) (AZ l e))/\FQ K H' mv (GG ((AL l e).take i) (AZ l e)))
  ⟨λb o _ h=>h,_,_,[],_,rfl,Yx,.nil,Jd T _⟩ (λi σ H' ⟨sx,_⟩=>GY (sx wi _ jN lu)) (λi x σ H' hx ⟨sx,o6,o7,SD,mv,e1,NZ,Et,gW⟩=>?_) (λσ H' ⟨sx,o6,o7,SD,mv,e1,NZ,Et,gW⟩=>?_)
 .subst e1;obtain⟨hi,u,rfl,fu,dg,nk⟩:=W7 fU sh.w.nd hx;have N9:(AL l e)[i]∈AL l e:=qI hi;have zx:=z3.w _ N9;have zk:=z3.k (AL l e)[i].1;have aS:Sm (AL l e)[i].2:=L6 zx (AQ z3.hE (by lk)) (AQ z3.hB (by lk));have m6:Sm (Ak (AZ l e) (AL l e)[i].1):=L6 zk (AQ z3.hE (by lk)) (AQ z3.hB (by lk));have bH:FQ K H' u (AL l e)[i].2:=fu.A6 sx Yx trivial;have AX6:DQ K H' aD (AZ l e):=iZ.A6 sx Yx trivial;obtain⟨og,dgl,fg⟩:=AR0 T (sx lr _ nO l7) AX6 (AL l e)[i].1;have AXt:=sx lr _ nO l7;have ki:=λH5 (s5:AM H' H5)=>dg H5 wi od (s5 _ _ (sx wi _ jN lu));have zm:=WA z3.pE (w:=(AL l e).take i) (λx hx=>z3.w x (qY hx)) z3.k;have tl:((AL l e).take i).length<=16:=a_ (qD _ _) GV;have smm:Sm (GG ((AL l e).take i) (AZ l e)):=L6 zm (AQ z3.hE (by lk)) (AQ (pN (pR _ tl) (O0 z3.hB)) (by lk));have mok:=zm.ok;have jw:(AL l e)[i].1∉AJ (Ar ((AL l e).take i) (AZ l e)):=λz=>nk ((AHa _ _).subset z);have ZA:(AJ (Ar ((AL l e).take i) (AZ l e))).Nodup:=(sh.w.nd.sublist ((ux i _).map _)).sublist (AHa _ _);have ml:=UI ((AL l e).take i) (AZ l e);rw[<-dO hi,ANM,ANO];clear q hx fu nk zm dg;generalize Ar ((AL l e).take i) (AZ l e)=Z0 at *;generalize GG ((AL l e).take i) (AZ l e)=m0 at *;generalize (AL l e)[i]=y at *;generalize Ak (AZ l e) y.1=ky at *;walk_at "rf";refine⟨.inl ⟨aD,.inl AXt⟩,og,dgl,u,ki H' (.refl _),u,_,qp y.2,qp ky,rfl,bH,fg,aS,m6,_,rfl,?_⟩;have ce:decide ((qp ky).1*(qp y.2).2<(qp y.2).1*(qp ky).2) = !(y.2.le ky):=by
   unfold yt;show decide (ky.n*y.2.d<y.2.n*ky.d) = !decide (y.2.n*ky.d<=ky.n*y.2.d);by_cases c:ky.n*y.2.d<y.2.n*ky.d
   .rw[zqt c,zdf (by omega)];rfl
   .rw[zdf c,zqt (by omega)];rfl
  rw[ce];cases c:y.2.le ky with
  |false=>
   rw[η (show(!false)=true from rfl)];have nle:ky.n*y.2.d<=y.2.n*ky.d:=by unfold yt at c;have:=of_decide_eq_false c;omega
   refine⟨u,ki H' (.refl _),u,_,qp y.2,qp ky,rfl,bH,fg,zx.ok.1,zk.ok.1,aS,m6,nle,λb hb=>?_⟩;rw[VG zx.ok zk.ok];have s4:AM H' (upd H' b (tupQ (y.2.sub ky))):=AM.new hb;refine⟨_,P4.k (k:=pS ((y.1:Nat):Int)) (s4 _ _ NZ) (by rw[Dm.len Et];exact pN (a_ ml tl) (by lk)),(sx.trans (s4.x m)).trans Ae.upd,_,AD,?_,?_⟩
   .rw[ζ Λ,<-TV jw];exact DQ.A6 (Dm.put (DQ.same Et s4) ZA (BH.tup AD)) Ae.upd (s4 _ _ NZ) trivial
   .rw[ζ Λ];exact(BH.same gW s4).A6 Ae.upd (s4 _ _ NZ) trivial
  |true=>
   rw[ζ (show¬ (!true)=true from Λ)];have le:y.2.n*ky.d<=ky.n*y.2.d:=by unfold yt at c;exact zod c
   refine⟨u,ki H' (.refl _),_,u,qp ky,qp y.2,rfl,fg,bH,zk.ok.1,zx.ok.1,m6,aS,le,λb hb=>?_⟩;rw[VG zk.ok zx.ok];have s4:AM H' (upd H' b (tupQ (ky.sub y.2))):=AM.new hb;have zs:=zk.sub zx;have sms:Sm (ky.sub y.2):=L6 zs (AQ z3.hE (by lk)) (AQ z3.hB (by lk));refine⟨mv,.ref b,qp m0,qp (ky.sub y.2),rfl,BH.same gW s4,BH.tup AD,mok.1,zs.ok.1,smm,sms,trivial,λb2 bR=>?_⟩;rw[ZV mok zs.ok.1,OT zs.ok];have s5:=s4.trans (AM.new bR (o:=tupQ (m0.add (ky.sub y.2))));refine⟨sx.trans (s5.x m),SD,s5 _ _ NZ,?_,?_⟩
   .rw[η rfl,rC];exact Et.same s5
   .rw[η rfl];exact BH.tup AD
 .subst e1;rw[χ,fU.len,qL] at Et gW;have Ti:H' wi=some (HO.DK od (HO.dK UO)):=sx wi _ jN lu;refine⟨Ti,_,rfl,m,rfl,?_⟩;have lG:AM H (upd H' wi (HO.dK UO)):=AM.Ow (λb o h=>sx b o (AO h Zo) (lH b o h)) hw0;have iI:upd H' wi (HO.dK UO) wi=some (HO.dK UO):=AD;have hl5:upd H' wi (HO.dK UO) lr=some (.dK aD):=by rw[AH (qk nwl)];exact sx lr _ nO l7
  have Zn:upd H' wi (HO.dK UO) m=some (.dK SD):=by rw[AH (qk jN)];exact NZ
  have AWl:DQ K (upd H' wi (HO.dK UO)) UO (AL l e):=(fU.A6 sx Yx trivial).A6 Ae.upd Ti trivial;have AWr:DQ K (upd H' wi (HO.dK UO)) aD (AZ l e):=(iZ.A6 sx Yx trivial).A6 Ae.upd Ti trivial;have bF:DQ K (upd H' wi (HO.dK UO)) SD (Ar (AL l e) (AZ l e)):=Et.A6 Ae.upd Ti trivial;have fm5:FQ K (upd H' wi (HO.dK UO)) mv (GG (AL l e) (AZ l e)):=BH.A6 Ae.upd Ti trivial gW;generalize upd H' wi (HO.dK UO)=H5 at *;clear Ti NZ Et gW lu l7 Yx fU iZ lH sx;obtain⟨a1,a2,a3,a4,a5⟩:=sh.mo;have mX:=V7 z3.w z3.k;have ml:=UI (AL l e) (AZ l e);obtain⟨r1,r2,r3⟩:=Tr z3.pE mX (AQ z3.hE (by lk)) (AQ (y:=60000) (pN (pR B (show(Ar (AL l e) (AZ l e)).length<=16 by omega)) (O0 z3.hB)) (by lk)) (AQ z3.hB (by lk));have jd:Sm (Js (Ar (AL l e) (AZ l e))):=L6 r3 (AQ z3.hE (by lk)) (AQ (pN (pR B (show(Ar (AL l e) (AZ l e)).length<=16 by omega)) (O0 z3.hB)) (by lk));have zmi:=WA z3.pE z3.w z3.k;have smi:Sm (GG (AL l e) (AZ l e)):=L6 zmi (AQ z3.hE (by lk)) (AQ (pN (pR _ GV) (O0 z3.hB)) (by lk));have t2:=λx hx=>AVu g he z3 (x:=x) hx;refine⟨SD,Zn,λv hv=>⟨rfl,m,rfl,SD,AM.new hv _ _ Zn,λli n9=>ZK (E:=E0') (B:=B) Zn bF a1 r1 r2 hv n9 λtv H6 s6 ft=>⟨_,rfl,lr,rfl,aD,s6 _ _ hl5,λam bS=>?_⟩⟩⟩;have AWw:H am=none:=(lG.trans s6).free bS;have s7:AM H6 (upd H6 am (HO.dK aD)):=AM.new bS;have gy:=s6.trans s7;have sH7:=lG.trans gy;have gD:wi≠am:=AO (s6 _ _ iI) bS;have ju:m≠am:=AO (s6 _ _ Zn) bS;have hw7:=gy _ _ iI;have cU:=gy _ _ Zn;have AYF:upd H6 am (HO.dK aD) am=some (.dK aD):=AD;have AX3:=AWl.same gy;have AYA:=AWr.same gy;have AX5:=bF.same gy;have fm7:=BH.same fm5 gy;have ft7:=BH.same ft s7;generalize upd H6 am (HO.dK aD)=H7 at *;clear iI hl5 Zn AWl AWr bF fm5 ft r1 r2;refine⟨m,_,cU,trivial,λY9=>?_⟩;walk_at "rf";refine⟨m,Y9,rfl,.inl ⟨SD,AD,?_⟩⟩;have sH8:AM H (upd H7 m (HO.DK Y9 (HO.dK SD))):=AM.Ow sH7 Zo;have n8:upd H7 m (HO.DK Y9 (HO.dK SD)) m=some (HO.DK Y9 (HO.dK SD)):=AD;have lZ:upd H7 m (HO.DK Y9 (HO.dK SD)) wi=some (.dK UO):=by rw[AH jN];exact hw7
  have kQ:upd H7 m (HO.DK Y9 (HO.dK SD)) am=some (.dK aD):=by rw[AH (qk ju)];exact AYF
  have f0:∀v p,BH K H7 v p->BH K (upd H7 m (HO.DK Y9 (HO.dK SD))) v p:=λv p h=>h.A6 Ae.upd cU trivial;have AX2:DQ K (upd H7 m (HO.DK Y9 (HO.dK SD))) UO (AL l e):=AX3.A6 Ae.upd cU trivial;have AX9:DQ K (upd H7 m (HO.DK Y9 (HO.dK SD))) aD (AZ l e):=AYA.A6 Ae.upd cU trivial;have AWp:DQ K (upd H7 m (HO.DK Y9 (HO.dK SD))) SD (Ar (AL l e) (AZ l e)):=AX5.A6 Ae.upd cU trivial;have fm8:=f0 _ _ fm7;have ft8:=f0 _ _ ft7;generalize upd H7 m (HO.DK Y9 (HO.dK SD))=H8 at *;have hF:∀x∈Ar (AL l e) (AZ l e),Bm (bN (AL l e) (AZ l e) x):=λx hx=>Ir (F8 sh.w.ok _) (t2 x hx).2.2.1;have q2:=λr H' kvs=>q r H' kvs;refine CP (SD.map λkv=>kV kv.1) (λi σ H'=>Ae am H8 H'/\∃o6 o7 kva,σ=[some (.ref L.land),some (.int (((e+1:Nat)):Int)),some (.ref wi),some (.ref lr),some (.ref m),some mv,o6,o7,some tv,some (.ref am)]/\H' am=some (.dK kva)/\DQ K H' kva (Nk (bN (AL l e) (AZ l e)) (AZ l e) ((Ar (AL l e) (AZ l e)).take i)))
   ⟨λb o _ h=>h,_,_,aD,rfl,kQ,AX9⟩ (λi σ H' ⟨sx,_⟩=>GY (sx m _ ju n8)) (λi x σ H' hx ⟨sx,o6,o7,kva,e1,YJ,Et⟩=>?_) (λσ H' ⟨sx,o6,o7,kva,e1,YJ,Et⟩=>?_)
  .subst e1;obtain⟨hi,u,rfl,fu,dg,nk⟩:=W7 AWp a2 hx;have N9:(Ar (AL l e) (AZ l e))[i]∈Ar (AL l e) (AZ l e):=qI hi;obtain⟨b1,b2,b3,b4,b5,b6,b7⟩:=t2 _ N9;have ox:=a1 _ N9;have zx:=mX _ N9;have aS:Sm (Ar (AL l e) (AZ l e))[i].2:=L6 zx (AQ z3.hE (by lk)) (AQ z3.hB (by lk));have bH:FQ K H' u (Ar (AL l e) (AZ l e))[i].2:=fu.A6 sx kQ trivial;have dgm:=λH9 (s9:AM H' H9)=>dg H9 m Y9 (s9 _ _ (sx m _ ju n8));have gH:=sx wi _ gD lZ;have AX4:DQ K H' UO (AL l e):=AX2.A6 sx kQ trivial;have gW:=fm8.A6 sx kQ trivial;have om:=ft8.A6 sx kQ trivial;obtain⟨yw,nZ,ou⟩:=Θ.mp b7;have gt:=Kn sh.w.nd (show(yw.1,yw.2)∈AL l e from nZ);have ow:Ak (AL l e) (Ar (AL l e) (AZ l e))[i].1=yw.2:=by rw[<-ou];exact NF sh.w.nd nZ
   rw[ou] at gt;obtain⟨uw,uw1,uw2⟩:=AX4.PX gt;have ki:Ld H' wi (.int (((Ar (AL l e) (AZ l e))[i].1:Nat):Int)) (some uw):=.inl ⟨UO,pS (((Ar (AL l e) (AZ l e))[i].1:Nat):Int),.inl gH,rfl,uw1.symm⟩;have zw:=z3.w yw nZ;have smw:Sm yw.2:=L6 zw (AQ z3.hE (by lk)) (AQ z3.hB (by lk));obtain⟨p1,p2,_,_,_⟩:=RC (F:=bN (AL l e) (AZ l e)) ((Ar (AL l e) (AZ l e)).take i) (AZ l e) (a2.sublist ((ux i _).map _)) sh.k.ok sh.k.nd (λx hx=>hF x (qY hx));have p2':(AJ (Nk (bN (AL l e) (AZ l e)) (AZ l e) ((Ar (AL l e) (AZ l e)).take i))).Nodup:=p2;have sl:=Rt (bN (AL l e) (AZ l e)) ((Ar (AL l e) (AZ l e)).take i) (AZ l e);have tl:((Ar (AL l e) (AZ l e)).take i).length<=16:=a_ (qD _ _) (by omega);rw[<-dO hi,ALP];have eF:bN (AL l e) (AZ l e) (Ar (AL l e) (AZ l e))[i]=yw.2.sub ((GG (AL l e) (AZ l e)).mul ((Ar (AL l e) (AZ l e))[i].2.div (Js (Ar (AL l e) (AZ l e))))):=by unfold bN;rw[ow]
   rw[ow] at b5;rw[eF];have to:=QC a1;have mio:=zmi.ok;clear q q2 hx fu nk dg t2 mX hF p1 p2 a3 a4 a5 gt eF uw1 b6 ow ou;generalize Nk (bN (AL l e) (AZ l e)) (AZ l e) ((Ar (AL l e) (AZ l e)).take i)=Z0 at *;generalize (Ar (AL l e) (AZ l e))[i]=y at *;generalize Js (Ar (AL l e) (AZ l e))=tt at *;generalize GG (AL l e) (AZ l e)=mi at *;walk_at "rf";have nJ:Bm (y.2.div tt):=D4 ox;refine⟨uw,ki,u,dgm H' (.refl _),u,tv,qp y.2,qp tt,rfl,bH,om,ox.1,to.1,aS,jd,b1,λc1 gR=>?_⟩;rw[dN ox.1 to.1 b1,OT ox,OT to];have y1:AM H' (upd H' c1 (tupQ (y.2.div tt))):=AM.new gR;refine⟨mv,.ref c1,qp mi,qp (y.2.div tt),rfl,BH.same gW y1,BH.tup AD,mio.1,nJ.1,smi,b2,trivial,λc2 aG=>?_⟩;rw[U0 mio nJ.1,OT nJ];have y2:=y1.trans (AM.new aG (o:=tupQ (mi.mul (y.2.div tt))));refine⟨uw,.ref c2,qp yw.2,qp (mi.mul (y.2.div tt)),rfl,BH.same uw2 y2,BH.tup AD,zw.ok.1,b3.1,smw,b4,AL5 b3 zw.ok b5,λc3 hc3=>?_⟩;rw[VG zw.ok b3];have y3:=y2.trans (AM.new hc3 (o:=tupQ (yw.2.sub (mi.mul (y.2.div tt)))));refine⟨_,P4.k (k:=pS ((y.1:Nat):Int)) (y3 _ _ YJ) (by rw[Dm.len Et];exact pN (a_ sl (w9 AYK tl)) (by lk)),(sx.trans (y3.x am)).trans Ae.upd,_,AD,?_⟩;exact DQ.A6 (Dm.put (DQ.same Et y3) p2' (BH.tup AD)) Ae.upd (y3 _ _ YJ) trivial
  .subst e1;rw[χ,AWp.len,qL] at Et;have Ti:H' m=some (HO.DK Y9 (HO.dK SD)):=sx m _ ju n8;have Q9:AM H H':=λb o h=>sx b o (AO h AWw) (sH8 b o h);have tl:=sh.share g;have sl:=Rt (bN (AL l e) (AZ l e)) (Ar (AL l e) (AZ l e)) (AZ l e);refine⟨Ti,_,rfl,am,kva,Sj (AL l e) (AZ l e),rfl,by rw[AH (qk ju)];exact YJ,DQ.A6 Et Ae.upd Ti trivial,tl.nd,tl.ok,by show(Nk (bN (AL l e) (AZ l e)) (AZ l e) (Ar (AL l e) (AZ l e))).length<=_;omega,λx hx=>?_,λr H9 kv9 s9 AXo hr9 hd9=>?_⟩
   .refine AHB (p:=Sm) (F:=bN (AL l e) (AZ l e)) (Ar (AL l e) (AZ l e)) (AZ l e) (λy hy=>?_) (λy hy=>(t2 y hy).2.2.2.2.2.1) x hx;rw[<-NF sh.k.nd hy];exact L6 (z3.k y.1) (AQ z3.hE (by lk)) (AQ z3.hB (by lk))
   .have sH9:=(AM.Ow Q9 Zo (o:=HO.dK SD)).trans s9;exact q r H9 kv9 sH9 ((AM.Ow Q9 Zo).free AXo) hr9 hd9
set_option exponentiation.threshold 256
def NT:HO->Prop
 |.P1 _=>False
 |_=>True
def EA(H H':Hp):Prop:=∀b o,H b=some o->NT o->H' b=some o
theorem EA.trans{H H1 H2:Hp}(a:EA H H1)(b:EA H1 H2):EA H H2:=λx o h n=>b x o (a x o h n) n
theorem _root_.L2.AM.n{H H':Hp}(s:AM H H'):EA H H':=λb o h _=>s b o h
theorem EA.gC{H H':Hp}{P : Ξ}{ps:Array Δ}(hP:H P=some (.P1 ps))(s:Ae P H H'):EA H H':=λb o h n=>s b o (λz=>by rw[z,hP] at h;cases h;exact n) h
theorem EA.upd{H H':Hp}{r : Ξ}{o:HO}(s:EA H H')(h:H r=none):EA H (L2.upd H' r o):=λb u hb n=>by rw[AH (AO hb h)];exact s b u hb n
section
variable {K : ξ}{t:Ad}{H H':Hp}
theorem EA.tup{a : Ξ}{xs:List V}(s:EA H H')(h:J1 K H a xs):J1 K H' a xs:=by
 rcases h with(h|⟨o,h⟩)|h
 .exact .inl (.inl (s _ _ h trivial))
 .exact .inl (.inr ⟨o,s _ _ h trivial⟩)
 .exact .inr h
theorem BH.Jt{v:V}{p:Nat×Nat}(h:BH K H v p)(s:EA H H'):BH K H' v p:=let ⟨a,e,q⟩:=h;⟨a,e,s.tup q⟩
theorem Cj.Jt{l:e_}{F:FA}(A:Cj t H l F)(s:EA H H'):Cj t H' l F:=⟨s _ _ A.obj trivial,s _ _ A.lst trivial,A.nd,A.len,λj a h=>let ⟨dx,pa,m,h1,h2⟩:=A.ZX j a h;⟨dx,pa,m,s _ _ h1 trivial,s _ _ h2 trivial⟩,s _ _ A.Rm trivial,λb hb=>let ⟨xs,hx⟩:=A.Uv b hb;⟨xs,s _ _ hx trivial⟩,A.UB⟩
theorem MW.Jt{a dx Eu : Ξ}{l:e_}(h:MW t K H a dx Eu l)(s:EA H H'):MW t K H' a dx Eu l:=by obtain⟨kp,SY,k,ss,h1,h2,h3,h4,r⟩:=h;exact⟨kp,SY,k,ss,s _ _ h1 trivial,h2.Jt s,s _ _ h3 trivial,Paired.SA h4 λ_ _ q=>q.Jt s,r⟩
theorem Gz.Jt{a : Ξ}{g:sM}(h:Gz t K H a g)(s:EA H H'):Gz t K H' a g:=let ⟨dx,v,p,h1,h2,r⟩:=h;⟨dx,v,p,s _ _ h1 trivial,h2.Jt s,r⟩
theorem Te.Jt{l:e_}{L:LA}(h:Te t K H l L)(s:EA H H'):Te t K H' l L:=⟨s _ _ h.obj trivial,h.law.Jt s,h.Fi.Jt s,s _ _ h.bM trivial,s _ _ h.lst trivial,Paired.SA h.Ux λ_ _ q=>q.Jt s⟩
theorem DQ.Jt{kvs:List (Key×V)}{d:D pO}(h:DQ K H kvs d)(s:EA H H'):DQ K H' kvs d:=Dm.mono h λ_ _ q=>BH.Jt q s
end
def PM:yT:=⟨51,32,51,91⟩
def R0:qf:=(("Family.dead_by" : qf) ++ ".<locals>.") ++ "<lambda>"
def S2:yT:=⟨128,30,128,110⟩
def Vp:qf:=(("nearest_ancestor" : qf) ++ ".<locals>.") ++ "<lambda>"
def S1:yT:=⟨399,38,399,73⟩
def Vn:qf:=(("told" : qf) ++ ".<locals>.") ++ "<lambda>"
structure bK(t:Ad)(H:Hp):Prop where
 dead:Hg H t.BZ PM R0
 near:Hg H t.HV S2 Vp
 told:Hg H t.HU S1 Vn
theorem bK.same{t:Ad}{H H':Hp}(h:bK t H)(s:AM H H'):bK t H':=⟨h.dead.same s,h.near.same s,h.told.same s⟩
theorem OR{H H':Hp}{P P' : Ξ}{pos:yT}{q:qf}{ps:Array Δ}(h:Hg H P' pos q)(hP:H P=some (.P1 ps))(n:P'≠P)(s:Ae P H H'):Hg H' P' pos q:=by
 rcases h with h|⟨c,h1,h2⟩
 .exact .inl (s _ _ n h)
 .exact .inr ⟨c,s _ _ n h1,s _ _ (λz=>by rw[z,hP] at h2;cases h2) h2⟩
theorem AHi{x a:qf}{c c0 : Ξ}(h:uy x [(a,c0)]=some c):x=a/\c=c0:=by
 rw[sU] at h;by_cases z:(x==a)=true
 .rw[z] at h;exact⟨by simpa using z,(j_ h).symm⟩
 .have z':(x==a)=false:=by simpa using z
  rw[z'] at h;cases h
set_option exponentiation.threshold 2000
def Zu(l:e_)(n:Int):Nat:=((g_ l (n.toNat-1)).died).getD 0
inductive AOC(t:Ad)(vs:List V)(H:Hp)(Q:VK)(Xk:XK):Prop
 |mk:∀F l day,vs=[.ref F.f,.int ((day:Nat):Int)]->Good l->Cj t H l F->Hg H t.BZ PM R0->(∀r H' ds,Ae t.BZ H H'->Hg H' t.BZ PM R0->H r=none->H' r=some (.lst (ds.map λ(x:Nat×Nat)=>V.int (((x.2+1:Nat)):Int)))->dc l day ds->Q (.ref r) H')->AOC t vs H Q Xk
theorem ATF(T:Txt K mg t):A2 P w K mg AG FI 8 t.DV t.Cf ["self","day"] (AOC t):=by
 have Ab:=@GD P w K mg AG t T;have AK:=@DI P w K mg AG t T;have Dl:=@AHX P w K mg AG t T;refine T.Hs.nI J4 (λvs H Q E h=>?_) (λDM A AR s H vs Q E WK hr h=>?_)
 .obtain⟨_,_,_,rfl,_⟩:=h;rfl
 obtain⟨F,l,day,rfl,g,fa,tb,q⟩:=h;rw[T.AH5] at WK;subst WK;refine⟨_,(AE (ALX (i:=2) rfl J4.nd rfl rfl (ANy rfl rfl rfl (by decide +kernel)) (FO K rfl (Cc (pv 0) T.AX T.BQ Ab hr.m T.Bl .nil AS)) (IW (own:=[("number",3)]) (by rfl)) (λ_ _ _ _ _=>(BU (i:=3) J4.nd rfl (qh rfl))) (λ_ _ _ _ _=>(O7 (CD (Aj (Aj (pv 0) T.AX T.Ah AK hr.m T.Ai .nil AS (AA (pv 3) AF)) T.DG T.Em Dl hr.m T.Hf .nil AS (AA (pv 1) AF))))) (λ_ _ _ _ _=>(pv 3)))
  (AI (AV (ALb (p:="number") (fr:=[("self",0)]) (k:=2) (pv 2) rfl T.AHz ⟨⟨rfl,rfl,rfl,rfl,by decide +kernel,by decide +kernel⟩,λ_ _ _ _ _ _ _=>rfl,rfl,rfl,(λx c z=>by
   obtain⟨rfl,rfl⟩:=AHi z;rfl),(λq hq=>by
   rw[i_.mp hq];exact⟨⟨_,rfl⟩,rfl,rfl,rfl⟩),(λf c' A AR s H hr=>(I0 (AA (AW K rfl (Aj (pv 1) T.AX T.Ah AK hr.m T.Ai .nil AS (AA (pv 0) AF)) rfl) (AA (pv 0) AF))))⟩ hr.m rfl rfl T.WX AKB)))),?_⟩
 clear Ab AK Dl;have o1:=fa.obj;have o2:=fa.lst;have GV:=g.GV;have ln:=fa.len;unfold ET
 z_go
 rw[χ];refine⟨by omega,λa H1 s1 na ha=>⟨⟨_,Er.of ha⟩,λD hD=>?_⟩⟩;rw[ln] at ha;refine PR (Aq (ups (pW l.persons.length))) (pW l.persons.length) (λ_ i o=>o=if Qk (g_ l i).died day=true then some (.int (((i+1:Nat)):Int)) else none) (by unfold Aq ups;simp) (λH' s'=>CV (Er.of (s' _ _ ha))) (by unfold Aq ups;simp;omega) hD (λ_ _ _ _ _ _ _ r=>r) (λi x d hx hd H' s' N hN=>?_) (λH' ys s' hy sel=>?_)
 .have hi:i<l.persons.length:=by have:=(l_.mp hd).1;rw[qx] at this;exact this
  rw[rJ hi] at hd;obtain rfl:=j_ hd;have Wl:x=.int (((i+1:Nat)):Int):=by unfold Aq ups at hx;rw[p6,m_,rJ hi] at hx;exact(j_ hx).symm
  subst Wl;have dI:=fa.same (s1.trans s');obtain⟨b,dx,pa,hb,h1,h2⟩:=dI.get hi;have d9:=dI.obj;have d8:=dI.lst;clear q o1 o2 hx hd fa
  z_go
  refine⟨i,by push_cast;rfl,.ref b,by rw[m_,hb];rfl,?_⟩;refine⟨b,rfl,_,_,h1,AAU _ _ _,b,_,_,_,_,day,rfl,h1,?_⟩;refine⟨_,rfl,?_⟩;split
  .rename_i z;exact hN _ _ (.refl _) (by rw[η z])
  .rename_i z;exact hN _ _ (.refl _) (by rw[ζ z])
 .have e:=Sel.Zp (f:=λi=>if Qk (g_ l i).died day=true then some (V.int (((i+1:Nat)):Int)) else none) sel;rw[Kl (λi=>Qk (g_ l i).died day) (λi=>V.int (((i+1:Nat)):Int))] at e;have s2:=s1.trans s';have D0:H D=none:=s1.free hD;generalize iY:(pW l.persons.length).filter (λi=>Qk (g_ l i).died day)=fs at e;have nc:ys=(fs.map λi=>(((i+1:Nat)):Int)).map V.int:=by rw[e,p6];rfl
  rw[nc] at hy;have jI:=tb.same s2;obtain⟨nE,eN⟩:=jI.P1;have Zq:fs.length<=1000:=by rw[<-iY];exact a_ (pU _ _) (by rw[qx];omega)
  have AWy:∀n,n∈(fs.map λi=>(((i+1:Nat)):Int))->∃i,n=(((i+1:Nat)):Int)/\i<l.persons.length/\∃d,(g_ l i).died=some d/\d<=day:=λn hn=>by
   obtain⟨i,hi,rfl⟩:=Θ.mp hn;rw[<-iY] at hi;obtain⟨h1,h2⟩:=d_.mp hi;refine⟨i,rfl,sQ.mp h1,?_⟩;cases hd:(g_ l i).died with
   |none=>rw[hd] at h2;cases h2
   |some d=>rw[hd] at h2;exact⟨d,rfl,by simpa[Qk] using h2⟩
  refine⟨D,(fs.map λi=>(((i+1:Nat)):Int)),false,(λn=>V.int ((Zu l n:Nat):Int)),(λn=>((Zu l n:Nat):Int)),rfl,.inl hy,jI,by rw[χ];exact Zq,λn hn=>.inl ⟨rfl,rfl⟩,λn hn H3 sx=>?_,λR Lg H3 sx hR hR3 mq pm fC=>?_⟩
  .obtain⟨i,rfl,hi,d,hd,_⟩:=AWy n hn;have oq:=(fa.same s2).Jt (EA.gC eN sx);obtain⟨b,dx,pa,hb,h1,h2⟩:=oq.get hi;have d9:=oq.obj;have d8:=oq.lst;have ed:Rh (g_ l i).died=V.int ((Zu l (((i+1:Nat)):Int):Nat):Int):=by unfold Zu;rw[show((((i+1:Nat)):Int)).toNat-1=i by omega,hd];rfl
   rw[ed] at h1;clear q o1 o2 ed hd;unfold Ro
   z_go
   exact⟨_,rfl,F.f,rfl,_,_,d9,AAk _ _,F.f,rfl,_,_,_,d9,_,d8,i,by push_cast;rfl,.ref b,by rw[m_,hb];rfl,b,rfl,_,_,_,h1,T.DG,T.Gh,_,AAc _ _ _,λp hp=>⟨AM.new hp,rfl⟩⟩
  .have nx:∀n,n∈Lg->∃i,n=(((i+1:Nat)):Int)/\i<l.persons.length/\∃d,(g_ l i).died=some d/\d<=day:=λn hn=>AWy n (pm.mem_iff.mp hn);have sxN:Ae t.BZ H H3:=λb o n h=>sx b o n (s2 b o h);refine q R H3 (Lg.map λn=>(Zu l n,n.toNat-1)) sxN mq (s2.free hR) ?_ ⟨?_,?_,λd i=>⟨λhm=>?_,λhm=>?_⟩⟩
   .rw[hR3,p6];congr 2;refine sI λn hn=>?_;obtain⟨i,rfl,_⟩:=nx n hn;show V.int (((i+1:Nat)):Int)=V.int ((((((i+1:Nat)):Int).toNat-1+1:Nat)):Int);congr 1
   .rw[tV];refine fC.imp_of_mem λ{x y} hx hy hp=>?_;obtain⟨i,rfl,_⟩:=nx x hx;obtain⟨j,rfl,_⟩:=nx y hy;rw[O8] at hp;rw[Lo];simp only at hp ⊢;omega
   .have jP:Lg.Nodup:=by rw[pm.nodup_iff,<-iY];refine xy _ (λa b kP=>?_) ((yV).filter _);omega
    refine xy _ (λa b kP=>?_) (sE.mpr λi j hi hj cZ=>?_:Lg.Pairwise λa b=>a∈Lg/\b∈Lg/\a≠b)
    .obtain⟨ha,hb,kP⟩:=kP;obtain⟨i,rfl,_⟩:=nx a ha;obtain⟨j,rfl,_⟩:=nx b hb;intro z;have:=(yZ z).2;omega
    .exact⟨qI _,qI _,(sE.mp jP) i j hi hj cZ⟩
   .obtain⟨n,hn,e1⟩:=Θ.mp hm;obtain⟨k,rfl,hk,d',Et,hle⟩:=nx n hn;have e2:=(yZ e1).2;have e3:=(yZ e1).1;have ek:i=k:=by omega
    subst ek;unfold Zu at e3;rw[show((((i+1:Nat)):Int)).toNat-1=i by omega,Et] at e3;have e3':d'=d:=e3;subst e3';exact⟨hk,Et,hle⟩
   .obtain⟨hi,hd,hle⟩:=hm;refine Θ.mpr ⟨(((i+1:Nat)):Int),pm.mem_iff.mpr (Θ.mpr ⟨i,?_,rfl⟩),?_⟩
    .rw[<-iY];refine d_.mpr ⟨sQ.mpr hi,?_⟩;rw[hd];simpa[Qk] using hle
    .unfold Zu;rw[show((((i+1:Nat)):Int)).toNat-1=i by omega,hd];rfl
def gg(x:Nat×pO):List V:=[V.int ((x.1:Nat):Int),V.int ((x.2.n:Nat):Int),V.int ((x.2.d:Nat):Int)]
def fF(d:D pO):List V:=V.int ((d.length:Nat):Int)::d.flatMap gg
def Wu(a b:Nat):Prop:=(a≠0/\b=0)\/(a≠0/\b≠0/\a<=b)\/(a=0/\b=0)
theorem _root_.Hx.Dm.AWa{R:V->pO->Prop}{kvs:List (Key×V)}{d:D pO}(h:Dm R kvs d):kvs.map (·.1)=((AJ d).map λn=>((n:Nat):Int)).map pS:=by
 unfold Dm at h
 induction h with
 |nil=>rfl
 |cons a r ih=>rw[k_,ih,a.1];rfl
inductive AN2(t:Ad)(K : ξ)(vs:List V)(H:Hp)(Q:VK)(Xk:XK):Prop
 |mk:∀a kvs d,vs=[.ref a]->H a=some (.dK kvs)->DQ K H kvs d->(AJ d).Nodup->d.length<=1000->Hg H t.HU S1 Vn->(∀r H' d',Ae t.HU H H'->Hg H' t.HU S1 Vn->H r=none->H' r=some (.lst (fF d'))->d'.Perm d->d'.Pairwise (λx y=>Wu x.1 y.1)->Q (.ref r) H')->AN2 t K vs H Q Xk
theorem AOT(T:Txt K mg t):A2 P w K mg AG FI 6 t.SI t.Qm ["amounts"] (AN2 t K):=by
 refine T.RO.nI XZ (λvs H Q E h=>?_) (λDM A AR s H vs Q E WK hr h=>?_)
 .obtain⟨_,_,_,rfl,_⟩:=h;rfl
 obtain⟨a,kvs,d,rfl,ha,hd,nd,hz,tb,q⟩:=h;rw[T.AOy] at WK;subst WK;have hu:=IG hr;refine⟨_,(AE (Al (i:=1) XZ.nd rfl (qh rfl) (EV (AA (CO Ub rfl T.Ks IV (AA (pv 0) AF)) AF)))
  (AE (Fo qA rfl (FO K rfl (ALb (p:="each") (fr:=[]) (k:=1) (pv 0) rfl T.AOr ⟨⟨rfl,rfl,rfl,rfl,by decide +kernel,by decide +kernel⟩,λ_ _ _ _ _ _ _=>rfl,rfl,rfl,(λx c z=>by cases z),(λq hq=>by cases hq),(λf c' A AR s H hr=>(I0 (AA (Mb M0 (pv 0) (An rfl T.Fc) (Cn _)) (AA (pv 0) AF))))⟩ hr.m rfl rfl T.WX AKB)) (BU (i:=2) XZ.nd rfl (qh rfl)) (AE (FN (Vz rV tM tL OV (pv 1) (AA (pv 2) AF)))
   (AI (FN (Vz rV PySem.F.slot_list_extend PySem.F.type_list_extend (ANL K rfl) (pv 1) (AA (Dc hu (pv 0) (pv 2) (λ_ _=>rfl)) AF))))))
  (AI (AV (pv 1))))),?_⟩
 z_go
 refine⟨kvs,rfl,λp hp=>?_⟩;rw[hd.len];have s0:AM H (upd H p (HO.lst [V.int ((d.length:Nat):Int)])):=AM.new hp;have iN:upd H p (HO.lst [V.int ((d.length:Nat):Int)]) p=some (.lst [V.int ((d.length:Nat):Int)]):=AD;generalize upd H p (HO.lst [V.int ((d.length:Nat):Int)])=H0 at *;have dF:=s0 _ _ ha;have oN:=hd.same s0;have je:=tb.same s0;obtain⟨nE,eN⟩:=je.P1;refine⟨a,(AJ d).map (λn=>((n:Nat):Int)),true,(λn=>V.bl (decide (n=0))),(λn=>gY (decide (n=0))),rfl,.inr ⟨kvs,dF,oN.AWa⟩,je,by rw[χ];unfold AJ;rw[χ];exact hz,λn hn=>.inr ⟨rfl,_,rfl,rfl⟩,λn hn H3 sx=>?_,λD Lg H3 sx hD mE mq pm fC=>?_⟩
 .unfold Ro
  z_go
  exact λp hp=>AM.new hp
 .have nx:∀n,n∈Lg->∃k:Nat,n=((k:Nat):Int)/\k∈AJ d:=λn hn=>by obtain⟨k,hk,rfl⟩:=Θ.mp (pm.mem_iff.mp hn);exact⟨k,rfl,hk⟩
  have sN:EA H0 H3:=EA.gC eN sx;have kR:=sN _ _ dF trivial;have jU:=sN _ _ iN trivial;have ic:=oN.Jt sN;have nDp:D≠p:=λz=>by rw[z,iN] at hD;cases hD
  have nR:a≠p:=AO ha hp;refine⟨D,rfl,⟨_,Er.of mE⟩,?_⟩;refine CP (Lg.map V.int) (λi σ H'=>Ae p H3 H'/\∃o,σ=[some (.ref a),some (.ref p),o]/\H' p=some (.lst (V.int ((d.length:Nat):Int)::((Lg.take i).map λn=>(n.toNat,Ak d n.toNat)).flatMap gg)))
   ⟨λb o _ h=>h,_,rfl,jU⟩ (λi σ H' ⟨sx',_⟩=>CV (Er.of (sx' D _ nDp mE))) (λi x σ H' hx ⟨sx',o,e1,Yi⟩=>?_) (λσ H' ⟨sx',o,e1,Yi⟩=>?_)
  .subst e1;have hi:i<Lg.length:=by have:=(l_.mp hx).1;rw[χ] at this;exact this
   have hni:Lg[i]?=some Lg[i]:=n_ hi;rw[m_,hni] at hx;obtain rfl:=j_ hx;obtain⟨k,ek,hk⟩:=nx _ (qI hi);obtain⟨y,hy,rfl⟩:=Θ.mp hk;have gt:=Kn nd (show(y.1,y.2)∈d from hy);have dv:Ak d y.1=y.2:=NF nd hy;obtain⟨u,u1,u2⟩:=ic.PX gt;have dg:Ld H' a (.int ((y.1:Nat):Int)) (some u):=.inl ⟨kvs,pS ((y.1:Nat):Int),.inl (sx' a _ nR kR),rfl,u1.symm⟩;have fu:FQ K H' u y.2:=u2.A6 sx' jU trivial;have haH:=sx' a _ nR kR;rw[CW hni,se,List.flatMap_append];rw[ek];have e2:([((y.1:Nat):Int)].map λn=>(n.toNat,Ak d n.toNat)).flatMap gg=[V.int ((y.1:Nat):Int)]++[V.int ((y.2.n:Nat):Int),V.int ((y.2.d:Nat):Int)]:=by simp only[k_,vj,tX,List.flatMap_nil,rC,sL,dv];rfl
   rw[e2];have lz:(((Lg.take i).map λn=>(n.toNat,Ak d n.toNat)).flatMap gg).length<=3000:=by have pl:=pm.length_eq;rw[χ] at pl;have dl:(AJ d).length=d.length:=χ ..;refine a_ (Nd (m:=3) λx _=>(show 3<=3 from b_ _)) ?_;rw[χ];have:=qD i Lg;omega
   generalize ((Lg.take i).map λn=>(n.toNat,Ak d n.toNat)).flatMap gg=Z at *;clear q hx u2 ha dF kR hd oN ic iN jU
   z_go
   obtain⟨ub,rfl,sq⟩:=fu;have sq2:J1 K (upd H' p (HO.lst (V.int ((d.length:Nat):Int)::(Z++[V.int ((y.1:Nat):Int)])))) ub [V.int ((y.2.n:Nat):Int),V.int ((y.2.d:Nat):Int)]:=AK3 Ae.upd Yi trivial sq;have oz:Ld (upd H' p (HO.lst (V.int ((d.length:Nat):Int)::(Z++[V.int ((y.1:Nat):Int)])))) a (V.int ((y.1:Nat):Int)) (some (.ref ub)):=by exact .inl ⟨kvs,pS ((y.1:Nat):Int),.inl (by rw[AH nR];exact haH),rfl,u1.symm⟩
   refine⟨(.inl ⟨rfl,_,Er.of Yi⟩),pN (Nat.add_le_add_right lz 1) (by lk),(.inl ⟨rfl,_,Er.of AD⟩),.ref ub,oz,ub,rfl,_,sq2,by simp;omega,(sx'.trans Ae.upd),by simp⟩
  .subst e1;rw[χ,qL] at Yi;have b9:Ae t.HU H H':=λb o n h=>sx' b o (AO h hp) (sx b o n (s0 b o h));have hnT:p≠t.HU:=λz=>by rw[z,eN] at iN;cases iN
   have mh:Hg H' t.HU S1 Vn:=by
    rcases mq with h|⟨c,h1,h2⟩
    .exact .inl (sx' _ _ hnT.symm h)
    .exact .inr ⟨c,sx' _ _ hnT.symm h1,sx' _ _ (λz=>by rw[z,jU] at h2;cases h2) h2⟩
   have dm:(AJ d).map (λk=>(k,Ak d k))=d:=by
    unfold AJ;rw[p6]
    conv=>rhs;rw[<-ym d]
    refine sI λy hy=>?_;show(y.1,Ak d y.1)=y;rw[NF nd hy]
   have pm2:(Lg.map λn=>(n.toNat,Ak d n.toNat)).Perm d:=by
    have:=pm.map λn=>(n.toNat,Ak d n.toNat)
    rw[p6] at this;have e3:((λn:Int=>(n.toNat,Ak d n.toNat))∘λn:Nat=>((n:Nat):Int))=λk=>(k,Ak d k):=by
     funext k;show((((k:Nat):Int)).toNat,Ak d (((k:Nat):Int)).toNat)=(k,Ak d k)
     rw[sL]
    rw[e3,dm] at this;exact this
   refine q p H' (Lg.map λn=>(n.toNat,Ak d n.toNat)) b9 mh hp ?_ pm2 ?_
   .rw[Yi];unfold fF;rw[pm2.length_eq]
   .rw[tV];refine fC.imp_of_mem λ{x y} hx hy hp=>?_;obtain⟨i,rfl,_⟩:=nx x hx;obtain⟨j,rfl,_⟩:=nx y hy;rw[O8] at hp;simp only[sL] at hp ⊢;unfold Wu;unfold gY at hp;by_cases c1:i=0
    .by_cases c2:j=0
     .omega
     .rw[ζ (by simpa using c2),η (by simpa using c1)] at hp;omega
    .by_cases c2:j=0
     .omega
     .rw[ζ (by simpa using c2),ζ (by simpa using c1)] at hp;omega
theorem ANS{x a b:qf}{c c0 c1 : Ξ}(h:uy x [(a,c0),(b,c1)]=some c):(x=a/\c=c0)\/(x=b/\c=c1):=by
 rw[sU] at h;by_cases z:(x==a)=true
 .rw[z] at h;exact .inl ⟨by simpa using z,(j_ h).symm⟩
 .have z':(x==a)=false:=by simpa using z
  rw[z'] at h;exact .inr (AHi h)
def lV(l:e_)(i j:Nat)(n:Int):I3:=((((BP (FU l i) n.toNat).getD 0:Nat):Int)+(((BP (FU l j) n.toNat).getD 0:Nat):Int),(((BP (FU l i) n.toNat).getD 0:Nat):Int),n)
inductive AN6(t:Ad)(vs:List V)(H:Hp)(Q:VK)(Xk:XK):Prop
 |mk:∀F l i j,vs=[.ref F.f,.int (((i+1:Nat)):Int),.int (((j+1:Nat)):Int)]->Good l->Cj t H l F->i<l.persons.length->j<l.persons.length->Hg H t.HV S2 Vp->((wO l i j=none->∀H',Ae t.HV H H'->Hg H' t.HV S2 Vp->Q .Es H'))->(∀p a b,wO l i j=some (p,a,b)->∀r H',Ae t.HV H H'->Hg H' t.HV S2 Vp->H r=none->H' r=some (.tup [.int (((p+1:Nat)):Int),.int ((a:Nat):Int),.int ((b:Nat):Int)])->Q (.ref r) H')->AN6 t vs H Q Xk
theorem ATB(T:Txt K mg t):A2 P w K mg AG FI 8 t.CY t.B5 ["family","one","other"] (AN6 t):=by
 have ES:=@AOX P w K mg AG t T;refine T.D8.nI DA (λvs H Q E h=>?_) (λDM A AR s H vs Q E WK hr h=>?_)
 .obtain⟨_,_,_,_,rfl,_⟩:=h;rfl
 obtain⟨F,l,i,j,rfl,g,fa,hi,hj,tb,q0,q1⟩:=h;rw[T.AOz] at WK;subst WK;have hu:=IG hr;refine⟨_,(AE (Al (i:=3) DA.nd rfl (zF rfl) (Af ES hr.m rfl T.Hl T.Cz.kp T.Ht .nil AS (AA (pv 0) (AA (pv 1) AF))))
  (AE (Al (i:=4) DA.nd rfl (zF rfl) (Af ES hr.m rfl T.Hl T.Cz.kp T.Ht .nil AS (AA (pv 0) (AA (pv 2) AF))))
  (AE (MZ (ALX (i:=5) rfl DA.nd rfl rfl (ANy rfl rfl rfl (by decide +kernel)) (Ma (pv 3)) (IW (own:=[("number",7)]) (by rfl)) (λ_ _ _ _ _=>(BU (i:=7) DA.nd rfl (qh rfl))) (λ_ _ _ _ _=>(O7 (KI (MG hu (pv 7) (pv 4))))) (λ_ _ _ _ _=>(pv 7))))
  (AE (Bv (Cy M0 (CO FH rfl T.Ks IV (AA (pv 5) AF)) Ac (Cn _)) (AI (AV ZY)) Ax)
  (AE (Al (i:=6) DA.nd rfl (qh rfl) (AS5 (p:="number") (fr:=[("from_one",3),("from_other",4)]) (k:=1) (pv 5) rfl T.AOs ⟨⟨rfl,rfl,rfl,rfl,by decide +kernel,by decide +kernel⟩,λ_ _ _ _ _ _ _=>rfl,rfl,rfl,(λx c z=>by
   rcases ANS z with⟨rfl,rfl⟩|⟨rfl,rfl⟩<;>rfl),(λq hq=>by
   rcases pM.mp hq with rfl|hq
   .exact⟨⟨_,rfl⟩,rfl,rfl,rfl⟩
   .rw[i_.mp hq];exact⟨⟨_,rfl⟩,rfl,rfl,rfl⟩),(λf c' A AR s H hr=>(I0 (AA (F0 O9 (Dc (IG hr) (pv 1) (pv 0) (λ_ _=>rfl)) (Dc (IG hr) (pv 2) (pv 0) (λ_ _=>rfl))) (AA (Dc (IG hr) (pv 1) (pv 0) (λ_ _=>rfl)) (AA (pv 0) AF)))))⟩ hr.m rfl rfl T.dQ ASQ))
  (AI (AV (I0 (AA (pv 6) (AA (Dc hu (pv 3) (pv 6) (λ_ _=>rfl)) (AA (Dc hu (pv 4) (pv 6) (λ_ _=>rfl)) AF))))))))))),?_⟩
 clear ES;walk_at "rf";refine⟨F,l,i,rfl,g,fa,hi,λr1 H1 Zi s1 n1 h1 d1=>?_⟩;refine⟨F,l,j,rfl,g,fa.same s1,hj,λr2 H2 cN s2 n2 h2 d2=>?_⟩;have bT:=s2 _ _ h1;have n12:r1≠r2:=AO h1 n2;have T7:=s1.trans s2;have n20:H r2=none:=s1.free n2;refine⟨r1,_,bT,trivial,λod=>?_⟩;walk_at "rf";refine⟨r1,od,rfl,.inl ⟨Zi,AD,?_⟩⟩;have s3:AM H (upd H2 r1 (HO.DK od (HO.dK Zi))):=AM.Ow T7 n1;have oX:upd H2 r1 (HO.DK od (HO.dK Zi)) r1=some (HO.DK od (HO.dK Zi)):=AD;have h23:upd H2 r1 (HO.DK od (HO.dK Zi)) r2=some (.dK cN):=by rw[AH (qk n12)];exact h2
 generalize upd H2 r1 (HO.DK od (HO.dK Zi))=H3 at *;intro D hD;have gi:=M9 g hi;have gj:=M9 g hj;have GV:=g.GV;have AXf:(FU l i).length<=100:=by have:=T9 g (pW l.persons.length).reverse [(i+1,0)];rw[rH,qx] at this;unfold FU;have e0:([(i+1,0)]:Hx.D Nat).length=1:=rfl;omega
 have ek:=d1.keys;have D0:H D=none:=s3.free hD;refine PR (Zi.map λkv=>kV kv.1) (AJ (FU l i)) (λ_ n o=>o=if (BP (FU l j) n).isSome=true then some (.int ((n:Nat):Int)) else none) (by rw[ek,χ]) (λH' s'=>GY (s' _ _ oX)) (by rw[χ,d1.len];omega) hD (λ_ _ _ _ _ _ _ r=>r) (λk x d hx hd H' s' N hN=>?_) (λH' ys s' hy sel=>?_)
 .rw[ek,m_,hd] at hx;obtain rfl:=j_ hx;have kW:=s' _ _ h23;have dgs:∃o,Ld H' r2 (V.int ((d:Nat):Int)) o/\o.isSome=(BP (FU l j) d).isSome:=by
   cases q:BP (FU l j) d with
   |none=>exact⟨none,.inl ⟨cN,pS ((d:Nat):Int),.inl kW,rfl,(d2.W2 q).symm⟩,rfl⟩
   |some v=>obtain⟨u,u1,_⟩:=d2.PX q;exact⟨some u,.inl ⟨cN,pS ((d:Nat):Int),.inl kW,rfl,u1.symm⟩,rfl⟩
  obtain⟨og,dg,eo⟩:=dgs;clear q0 q1 hx;walk_at "rf";refine⟨og,dg,?_⟩;rw[eo];split
  .rename_i z;exact hN _ _ (.refl _) (by rw[η z])
  .rename_i z;exact hN _ _ (.refl _) (by rw[ζ z])
 .have e:=Sel.Zp (f:=λ(n:Nat)=>if (BP (FU l j) n).isSome=true then some (V.int ((n:Nat):Int)) else none) sel;rw[Kl (λ(n:Nat)=>(BP (FU l j) n).isSome) (λn=>V.int ((n:Nat):Int))] at e;have s4:=s3.trans s';have h14:=s' _ _ oX;have h24:=s' _ _ h23;have nD1:D≠r1:=λz=>by rw[z,oX] at hD;cases hD
  have ng:upd H' r1 (HO.dK Zi) D=some (.lst ys):=by rw[AH nD1];exact hy
  have mH:upd H' r1 (HO.dK Zi) r1=some (.dK Zi):=AD;have h25:upd H' r1 (HO.dK Zi) r2=some (.dK cN):=by rw[AH (qk n12)];exact h24
  have s5:AM H (upd H' r1 (HO.dK Zi)):=AM.Ow s4 n1;refine⟨h14,ys,ng,?_⟩;generalize upd H' r1 (HO.dK Zi)=H5 at *;have mj:=tb.same s5;obtain⟨nE,eN⟩:=mj.P1;have AXc:∀n,n∈AJ (FU l i)->∃p a,n=p+1/\BP (FU l i) (p+1)=some a:=λn hn=>by
   have nz:n≠0:=λz=>by rw[z] at hn;exact absurd hn (BO.mp gi.zero)
   cases qd:BP (FU l i) n with
   |none=>exact absurd hn (BO.mp qd)
   |some a=>exact⟨n-1,a,by omega,by rw[show n-1+1=n by omega];exact qd⟩
  generalize hcm:(AJ (FU l i)).filter (λ(n:Nat)=>(BP (FU l j) n).isSome)=cm at e;have mR:∀n,n∈cm↔∃p a b,n=p+1/\BP (FU l i) (p+1)=some a/\BP (FU l j) (p+1)=some b:=λn=>by
   rw[<-hcm,d_];constructor
   .rintro⟨z1,z2⟩;obtain⟨p,a,rfl,ha⟩:=AXc n z1;obtain⟨b,hb⟩:=uB.mp z2;exact⟨p,a,b,rfl,ha,hb⟩
   .rintro⟨p,a,b,rfl,ha,hb⟩;refine⟨?_,by rw[hb];rfl⟩;by_cases z:p+1∈AJ (FU l i)
    .exact z
    .rw[BO.mpr z] at ha;cases ha
  have yl:ys.length=cm.length:=by rw[e,χ]
  by_cases c:cm=[]
  .rw[η (by rw[yl,c];decide)];refine q0 (APe g hi hj λp a b ha hb=>?_) H5 (s5.x _) mj;have:=(mR (p+1)).mpr ⟨p,a,b,rfl,ha,hb⟩;rw[c] at this;cases this
  .have cl:0<cm.length:=rA.mpr c;rw[ζ (λz=>by have:=zod z;omega)];have nc:ys=(cm.map λn=>((n:Nat):Int)).map V.int:=by rw[e,p6];rfl
   rw[nc] at ng;refine⟨D,cm.map (λn=>((n:Nat):Int)),lV l i j,rfl,ng,mj,by rw[χ];exact cl,λn hn H6 sx=>?_,λn H6 sx tb6 hn mn=>?_⟩
   .obtain⟨n,cT,rfl⟩:=Θ.mp hn;obtain⟨p,a,b,rfl,ha,hb⟩:=(mR n).mp cT;have sN:=EA.gC eN sx;have iu:=sN _ _ mH trivial;have oW:=sN _ _ h25 trivial;obtain⟨u,u1,ru⟩:=d1.PX ha;obtain⟨v,v1,rv⟩:=d2.PX hb;have nB:u=.int ((a:Nat):Int):=ru;have nA:v=.int ((b:Nat):Int):=rv;subst nB nA;have mQ:Ld H6 r1 (V.int (((p+1:Nat)):Int)) (some (V.int ((a:Nat):Int))):=.inl ⟨Zi,pS (((p+1:Nat)):Int),.inl iu,rfl,u1.symm⟩;have oz:Ld H6 r2 (V.int (((p+1:Nat)):Int)) (some (V.int ((b:Nat):Int))):=.inl ⟨cN,pS (((p+1:Nat)):Int),.inl oW,rfl,v1.symm⟩;have ekf:(bz (lV l i j (((p+1:Nat)):Int))).map V.int=[V.int (((a:Nat):Int)+((b:Nat):Int)),V.int ((a:Nat):Int),V.int (((p+1:Nat)):Int)]:=by unfold lV bz;rw[sL,ha,hb];rfl
    rw[ekf];clear q0 q1 ekf;unfold Ro;walk_at "rf";exact⟨_,rfl,r1,rfl,_,mQ,_,rfl,r2,rfl,_,oz,_,rfl,_,rfl,_,rfl,r1,rfl,_,mQ,by lk,λp hp=>⟨AM.new hp,rfl,rfl⟩⟩
   .obtain⟨n,cT,rfl⟩:=Θ.mp hn;obtain⟨p,a,b,rfl,ha,hb⟩:=(mR n).mp cT;have sN:=EA.gC eN sx;have iu:=sN _ _ mH trivial;have oW:=sN _ _ h25 trivial;obtain⟨u,u1,ru⟩:=d1.PX ha;obtain⟨v,v1,rv⟩:=d2.PX hb;have nB:u=.int ((a:Nat):Int):=ru;have nA:v=.int ((b:Nat):Int):=rv;subst nB nA;refine⟨_,.inl ⟨Zi,pS (((p+1:Nat)):Int),.inl iu,rfl,u1.symm⟩,_,.inl ⟨cN,pS (((p+1:Nat)):Int),.inl oW,rfl,v1.symm⟩,by lk,λr kF=>?_⟩;have rel:wO l i j=some (p,a,b):=APd g hi hj ha hb λp' a' b' YJ Jg=>by have:=mn (((p'+1:Nat)):Int) (Θ.mpr ⟨p'+1,(mR _).mpr ⟨p',a',b',rfl,YJ,Jg⟩,rfl⟩);unfold lV XX at this;rw[sL,sL,ha,hb,YJ,Jg] at this;rw[Lf];simp only[Option.getD_some] at this ⊢;omega
    have s7:AM H6 (upd H6 r (HO.tup [V.int (((p+1:Nat)):Int),V.int ((a:Nat):Int),V.int ((b:Nat):Int)])):=AM.new kF;refine q1 p a b rel r _ (λb o n h=>s7 b o (sx b o n (s5 b o h))) (tb6.same s7) ?_ AD;cases qr:H r with
    |none=>rfl
    |some o=>
     have z:=s5 _ _ qr;by_cases zr:r=t.HV
     .obtain⟨ps6,h6⟩:=tb6.P1;rw[zr,h6] at kF;cases kF
     .rw[sx _ _ zr z] at kF;cases kF
theorem AWD{l:e_}{d:D pO}{s:tQ}{dd bb:Nat}(rl:Rl l d s)(sz:NQ dd bb (l.persons.length+1) 17 s):∃E B,E<2^dd/\B<2^(bb+5)/\0<E/\∀k,Sz E B (Ak d k):=by
 obtain⟨⟨E,B,hE,hB,pE,z⟩,_,hl⟩:=sz;have sh:∀i,Sz E (17*B) (yJ s i):=λi=>(aJ.shareOf pE z i).mono (qi _) pE (pR _ hl);have okS:∀x∈s,Bm x.2:=λx hx=>(z x hx).ok;refine⟨E,17*B,hE,?_,pE,λk=>?_⟩
 .have e1:(2:Nat)^(bb+5)=2^bb*32:=by rw[xq]
  omega
 .have eq:∀i,rv (Ak d k)=wt s i->Ak d k=yJ s i:=λi h=>QO (F8 rl.p.ok k) (sh i).ok (by rw[h,Jb okS]);by_cases k0:k=0
  .rw[k0] at eq ⊢;rw[eq _ rl.lO];exact sh _
  .by_cases kl:k-1<l.persons.length
   .have:=rl.val (k-1) kl;rw[show k-1+1=k by omega] at this;rw[eq _ this];exact sh _
   .have:k∉AJ d:=λz=>by have:=rl.k k z;omega
    have e:Ak d k=rT:=by unfold Ak;rw[BO.mpr this];rfl
    rw[e];exact(Sz.zero pE).mono (qi _) pE (qG _)
theorem AUt{l:e_}(g:Good l){i:Nat}(hi:i<l.persons.length):∃E B,E<2^3758/\B<2^154/\0<E/\K3 E B (As l i):=by obtain⟨⟨E,B,hE,hB,pE,z⟩,_,_⟩:=Q6 g i;refine⟨E,B,hE,hB,pE,λx hx=>?_⟩;have:=(QK g hi).mem_iff.mp hx;obtain⟨y,hy,rfl⟩:=Θ.mp this;exact z y hy
def Px(a:pO)(d u:D pO):D pO:=u.foldl (λd x=>Am d x.1 (a.mul x.2)) d
theorem ANc(a:pO)(d u:D pO)(x:Nat×pO):Px a d (u++[x])=Am (Px a d u) x.1 (a.mul x.2):=by unfold Px;rw[rj];rfl
theorem AMR{a:pO}{E C:Nat}(pE:0<E):∀(u:D pO) {d:D pO}{B:Nat},(∀x∈u,Sz E C (a.mul x.2))->(∀k,Sz E B (Ak d k))->(AJ d).Nodup->Lc d->(∀k,Sz E (B+u.length*C) (Ak (Px a d u) k))/\(AJ (Px a d u)).Nodup/\Lc (Px a d u)/\(Px a d u).length<=d.length+u.length
 |[],d,B,_,h,n,o=>⟨by simpa[Px] using h,n,o,b_ _⟩
 |x::u,d,B,hu,h,n,o=>by
  have hx:=hu x (υ ..);have ih:=AMR (a:=a) pE u (d:=Am d x.1 (a.mul x.2)) (B:=B+C) (λy hy=>hu y (θ _ hy)) (λk=>by
   unfold Am;rw[TU];split
   .exact(h _).add hx
   .exact(h k).mono (qi _) pE (Nat.le_add_right _ _)) (G8 n x.1 (a.mul x.2)) (NW o x.1 hx.ok)
  refine⟨?_,ih.2.1,ih.2.2.1,?_⟩
  .rw[o_,xQ,show B+(u.length*C+C)=B+C+u.length*C by omega];exact ih.1
  .have h1:=ih.2.2.2;have h2:=NY d x.1 ((Ak d x.1).add (a.mul x.2));rw[o_];show(Px a (Am d x.1 (a.mul x.2)) u).length<=_;unfold Am at h1 ⊢;omega
def AUH(l:e_)(e:Nat)(es:List Nat):tQ:=es.foldl (Si49.passOn l) [(e,vO)]
def dfold(l:e_)(e:Nat)(es:List Nat):D pO:=es.foldl (Jv l) [(e+1,vO)]
theorem ANe(l:e_)(e:Nat)(es:List Nat)(i:Nat):dfold l e (es++[i])=Jv l (dfold l e es) i:=by unfold dfold;rw[rj];rfl
theorem ASF{l:e_}(g:Good l){e:Nat}(he:e<l.persons.length):∀(es:List Nat),(∀i∈es,i<l.persons.length)->Rl l (dfold l e es) (AUH l e es):=by
 have key:∀(es:List Nat) (d:D pO) (s:tQ),(∀i∈es,i<l.persons.length)->Rl l d s->Rl l (es.foldl (Jv l) d) (es.foldl (Si49.passOn l) s):=by
  intro es
  induction es with
  |nil=>intro d s _ h;exact h
  |cons i es ih=>intro d s hi h;exact ih _ _ (λj hj=>hi j (θ _ hj)) (AMO g (hi i (υ ..)) h)
 exact λes hi=>key es _ _ hi (ZZ he)
theorem AMQ(l:e_)(e:Nat)(ds:List (Nat×Nat)):XF l e ds=dfold l e (ds.map (·.2)):=by unfold XF dfold;rw[List.foldl_map]
theorem AQn{l:e_}(g:Good l){e:Nat}(he:e<l.persons.length)(es:List Nat)(iu:es.length<=16):NQ 60200 2900 (l.persons.length+1) 17 (AUH l e es):=by
 have h0:NQ 10 154 (l.persons.length+1) 17 [(e,vO)]:=by
  refine⟨⟨1,1,uM (by lk),uM (by lk),by lk,λx hx=>?_⟩,λx hx=>?_,by simp⟩
  .rw[i_.mp hx];exact Sz.one (by lk)
  .rw[i_.mp hx];exact uY he
 exact(YL g es h0 (b_ _)).mono (by omega) (by omega) (b_ _) (b_ _)
theorem ASC{l:e_}(g:Good l){day:Nat}{ds:List (Nat×Nat)}(h:dc l day ds):ds.length<=16/\∀x∈ds,x.2<l.persons.length/\(g_ l x.2).died=some x.1/\x.1<=day:=by
 have m:∀x∈ds,x.2<l.persons.length/\(g_ l x.2).died=some x.1/\x.1<=day:=λx hx=>(h.mem x.1 x.2).mp hx;refine⟨?_,m⟩;have nd:(ds.map (·.2)).Nodup:=by refine xy _ (λa b kP=>kP) (sE.mpr λi j hi hj cZ=>?_:ds.Pairwise λa b=>a.2≠b.2);intro z;have h1:=m _ (qI hi);have h2:=m _ (qI hj);rw[z,h2.2.1] at h1;have e1:(ds[i]).1=(ds[j]).1:=(j_ h1.2.1).symm;exact(sE.mp h.nd) i j hi hj cZ (vQ e1 z)
 have:(ds.map (·.2)).length<=l.persons.length:=by
  have e:=Dn (m:=l.persons.length) (d:=ds.map λx=>(x.2+1,())) (by
   unfold AJ;rw[p6];have e2:((λx:Nat×Unit=>x.1)∘λx:Nat×Nat=>(x.2+1,()))=(λn=>n+1)∘λx:Nat×Nat=>x.2:=rfl;rw[e2,<-p6];exact RE nd) (λn hn=>by
   obtain⟨y,hy,rfl⟩:=Θ.mp hn;obtain⟨x,hx,rfl⟩:=Θ.mp hy;have:=(m x hx).1;show 1<=x.2+1/\x.2+1<=_;omega)
  rw[χ] at e ⊢;exact e
 rw[χ] at this;have:=g.GV;omega
inductive AOB(t:Ad)(K : ξ)(vs:List V)(H:Hp)(Q:VK)(Xk:XK):Prop
 |mk:∀L l e day,vs=[.ref L.land,.int (((e+1:Nat)):Int),.int ((day:Nat):Int)]->Good l->Te t K H l L->e<l.persons.length->Hg H t.BZ PM R0->(∀r H' kvs ds,Ae t.BZ H H'->Hg H' t.BZ PM R0->H r=none->H' r=some (.dK kvs)->DQ K H' kvs (XF l e ds)->dc l day ds->Q (.ref r) H')->AOB t K vs H Q Xk
theorem ATE(hP:P.given.tree=none)(T:Txt K mg t):A2 P w K mg AG FI 43 t.SK t.UY ["land","number","day"] (AOB t K):=by
 have ACR:=@ATF P w K mg AG t T;have Ej:=@OU P w K mg AG t hP T;have AMh:=@AJo P w K mg AG t hP T;have K0:=@Sv P w K mg AG t hP T;refine T.TN.ok Q7 (λvs H Q E h=>?_) (λDM A AR s H vs Q E hr h=>?_)
 .obtain⟨_,_,_,_,rfl,_⟩:=h;rfl
 obtain⟨L,l,e,day,rfl,g,es,he,tb,q⟩:=h;have hu:=IG hr;refine⟨_,(AE (Al (i:=3) Q7.nd rfl (qh rfl) (Xr (Vs (pv 1) (El rfl T.XI) Xm) rfl rfl (by simp) (by lk)))
  (AE (Fo qA rfl (FO K rfl (Aj (AW K rfl (pv 0) rfl) T.AX T.KZ ACR hr.m T.ABp .nil AS (AA (pv 2) AF))) (BU (i:=4) Q7.nd rfl (qh rfl)) (AI (Bv (KI (MG hu (pv 4) (pv 3))) (AE (Al (i:=5) Q7.nd rfl (qh rfl) (AQ9 (pv 3) (pv 4) ⟨by rfl,by rfl,by rfl,by rfl⟩))
    (AE (Al (i:=6) Q7.nd rfl (qh rfl) (Af AMh hr.m rfl T.UL T.Mm.kp T.Ue .nil AS (AA (pv 0) (AA (pv 4) AF))))
    (AE (MZ (Fo qA rfl (Ma (pv 6)) (BU (i:=7) Q7.nd rfl (qh rfl)) (AI (FN (Af Ej hr.m rfl T.LM T.G9.kp T.LY .nil AS (AA (pv 3) (AA (pv 7) (AA (Af K0 hr.m rfl T.QY T.Ly.kp T.Qu .nil AS (AA (pv 5) (AA (Dc hu (pv 6) (pv 7) (λ_ _=>rfl)) AF))) AF))))))))
    (AI (Bv (Cy M0 (CO Ub rfl T.Ks IV (AA (pv 6) AF)) Ac (Cn _)) (AI (FN (Af Ej hr.m rfl T.LM T.G9.kp T.LY .nil AS (AA (pv 3) (AA (An rfl T.Fc) (AA (pv 5) AF)))))) Ax))))) Ax)))
  (AI (AV (pv 3))))),?_⟩
 clear ACR Ej AMh K0;have o1:=es.obj
 z_go
 intro m hm;have s0:AM H (upd H m (HO.dK (N8 [] [(pS (((e+1:Nat)):Int),V.ref t.P0)]))):=AM.new hm;have ZC:upd H m (HO.dK (N8 [] [(pS (((e+1:Nat)):Int),V.ref t.P0)])) m=some (.dK [(pS (((e+1:Nat)):Int),V.ref t.P0)]):=AD;refine⟨[(pS (((e+1:Nat)):Int),V.ref t.P0)],rfl,by simp,?_⟩;generalize upd H m (HO.dK (N8 [] [(pS (((e+1:Nat)):Int),V.ref t.P0)]))=H0 at *;have es0:=es.same s0;have je:=tb.same s0;obtain⟨nE,eN⟩:=je.P1
 z_go
 refine⟨_,_,_,s0 _ _ o1,T.Im,T.IB,_,ON _ _ _,L.F.f,rfl,_,_,es0.Fi.obj,ADz _ _,L.F,l,day,rfl,g,es0.Fi,je,λa H1 ds sx bg na ha mO=>?_⟩;have sN1:EA H0 H1:=EA.gC eN sx;have kK:=sN1 _ _ ZC trivial;have aA:a≠m:=λz=>by rw[z,ZC] at na;cases na
 obtain⟨dl,dm⟩:=ASC g mO;have sNH:EA H H1:=s0.n.trans sN1;refine⟨a,rfl,⟨_,Er.of ha⟩,?_⟩;refine CP (ds.map λ(x:Nat×Nat)=>V.int (((x.2+1:Nat)):Int)) (λi σ H'=>Ae m H1 H'/\∃o4 o5 o6 o7 kvs',σ=[some (.ref L.land),some (.int (((e+1:Nat)):Int)),some (.int ((day:Nat):Int)),some (.ref m),o4,o5,o6,o7]/\H' m=some (.dK kvs')/\DQ K H' kvs' (dfold l e ((ds.map (·.2)).take i)))
  ⟨λb o _ h=>h,_,_,_,_,_,rfl,kK,.cons ⟨rfl,Wa T _⟩ .nil⟩ (λi σ H' ⟨sx',_⟩=>CV (Er.of (sx' a _ aA ha))) (λi x σ H' hx ⟨sx',o4,o5,o6,o7,kvs',e1,NZ,Et⟩=>?_) (λσ H' ⟨sx',o4,o5,o6,o7,kvs',e1,NZ,Et⟩=>?_)
 .subst e1;have hi:i<ds.length:=by have:=(l_.mp hx).1;rw[χ] at this;exact this
  have ZF:ds[i]?=some ds[i]:=n_ hi;rw[m_,ZF] at hx;obtain rfl:=j_ hx;obtain⟨k1,k2,k3⟩:=dm _ (qI hi);have AWt:(ds.map (·.2))[i]?=some ds[i].2:=by rw[m_,ZF];rfl
  rw[CW AWt,ANe];have AXL:((ds.map (·.2)).take i).length<=16:=a_ (qD _ _) (by rw[χ];exact dl);have AXK:∀j∈(ds.map (·.2)).take i,j<l.persons.length:=λj hj=>by obtain⟨y,hy,rfl⟩:=Θ.mp (qY hj);exact(dm y hy).1
  have rl:=ASF g he _ AXK;obtain⟨E1,B1,hE1,mF,pE1,z1⟩:=AWD rl (AQn g he _ AXL);obtain⟨E2,B2,hE2,gU,pE2,z2⟩:=AUt g k1;have AYN:(dfold l e ((ds.map (·.2)).take i)).length<=17:=a_ (AMA rl.p.nd rl.k) (by have:=g.GV;omega);have AXP:EA H H':=λb o h n=>sx' b o (AO h hm) (sNH b o h n);generalize dfold l e ((ds.map (·.2)).take i)=d at *;generalize ds[i]=y at *;clear hx ZF AWt;unfold Jv;cases qd:BP d (y.2+1) with
  |none=>
   have dg:Ld H' m (V.int (((y.2+1:Nat)):Int)) none:=.inl ⟨kvs',pS (((y.2+1:Nat)):Int),.inl NZ,rfl,(Et.W2 qd).symm⟩;clear q qd
   z_go
   refine⟨none,dg,?_⟩;rw[ζ (show¬ (none:Option V).isSome=true from Λ)];exact⟨kvs',rfl,Et⟩
  |some aq=>
   obtain⟨v,v1,v2⟩:=Et.PX qd;have dg:Ld H' m (V.int (((y.2+1:Nat)):Int)) (some v):=.inl ⟨kvs',pS (((y.2+1:Nat)):Int),.inl NZ,rfl,v1.symm⟩;have eva:Ak d (y.2+1)=aq:=by unfold Ak;rw[qd];rfl
   have za:=z1 (y.2+1);rw[eva] at za;clear qd
   z_go
   refine⟨some v,dg,?_⟩;rw[η (show(some v).isSome=true from rfl)]
   z_go
   refine⟨.inl ⟨kvs',.inl NZ⟩,kvs',rfl,pS (((y.2+1:Nat)):Int),rfl,v,v1,?_⟩;have Wn:DQ K H' (L4 kvs' (pS (((y.2+1:Nat)):Int))) (Ef d (y.2+1)):=Et.drop _;have XC:upd H' m (.dK (L4 kvs' (pS (((y.2+1:Nat)):Int)))) m=some (.dK (L4 kvs' (pS (((y.2+1:Nat)):Int)))):=AD;have hd2:DQ K (upd H' m (.dK (L4 kvs' (pS (((y.2+1:Nat)):Int))))) (L4 kvs' (pS (((y.2+1:Nat)):Int))) (Ef d (y.2+1)):=Wn.A6 Ae.upd NZ trivial;have fv2:FQ K (upd H' m (.dK (L4 kvs' (pS (((y.2+1:Nat)):Int))))) v aq:=BH.A6 Ae.upd NZ trivial v2;have b9:Ae m H1 (upd H' m (.dK (L4 kvs' (pS (((y.2+1:Nat)):Int))))):=sx'.trans Ae.upd;have AXO:EA H (upd H' m (.dK (L4 kvs' (pS (((y.2+1:Nat)):Int))))):=AXP.upd hm;generalize L4 kvs' (pS (((y.2+1:Nat)):Int))=cN at *;generalize upd H' m (.dK cN)=H2 at *
   z_go
   refine⟨L,l,y.2,rfl,⟨g,es.Jt AXO,k1,_,k2⟩,λr H3 Ww s3 nr eK oK=>?_⟩;have kJ:=s3 _ _ XC;have ic:=hd2.same s3;have fv3:=BH.same fv2 s3;have sx3:Ae m H1 H3:=b9.trans (s3.x m);have Wk:r≠m:=λz=>by rw[z,XC] at nr;cases nr
   have r1:H1 r=none:=by
    cases qr:H1 r with
    |none=>rfl
    |some o=>rw[b9 r o Wk qr] at nr;cases nr
   have okd:Lc (Ef d (y.2+1)):=(WQ rl.p (y.2+1)).1.ok;have ndd:(AJ (Ef d (y.2+1))).Nodup:=AHZ rl.p.nd _;have dlen2:(Ef d (y.2+1)).length<=17:=a_ (pU _ _) AYN;have pE:0<E1*E2:=p7 pE1 pE2;have oV:E1*E2<2^(60200+3758):=A5 hE1 hE2;have hBB:B1*B2<2^(2905+154):=A5 mF gU;have zd:∀k,Sz (E1*E2) B1 (Ak (Ef d (y.2+1)) k):=λk=>by
    unfold Ak;rw[AJ8];split
    .exact(Sz.zero pE).mono (qi _) pE (qG _)
    .exact(z1 k).mono (rM _ _) pE (b_ _)
   have zm:∀x∈As l y.2,Sz (E1*E2) (B1*B2) (aq.mul x.2):=λx hx=>za.mul (z2 x hx);have shp:=(GZ g k1).1;have shl:(As l y.2).length<=16:=a_ (Dn shp.nd (GZ g k1).2.1) g.GV;have sma:Sm aq:=za.sm hE1 mF (by lk);generalize Ef d (y.2+1)=dd at *;clear dg v1 v2 NZ Et Wn XC hd2 fv2 b9 sx' s3 nr;refine⟨r,_,eK,trivial,λod=>?_⟩
   z_go
   refine⟨r,od,rfl,.inl ⟨Ww,AD,?_⟩⟩;have cS:upd H3 r (HO.DK od (HO.dK Ww)) r=some (HO.DK od (HO.dK Ww)):=AD;have Yx:upd H3 r (HO.DK od (HO.dK Ww)) m=some (.dK cN):=by rw[AH Wk.symm];exact kJ
   have eV:DQ K (upd H3 r (HO.DK od (HO.dK Ww))) cN dd:=ic.A6 Ae.upd eK trivial;have AWo:DQ K (upd H3 r (HO.DK od (HO.dK Ww))) Ww (As l y.2):=oK.A6 Ae.upd eK trivial;have oh:FQ K (upd H3 r (HO.DK od (HO.dK Ww))) v aq:=BH.A6 Ae.upd eK trivial fv3;have lB:Ae m H1 (upd H3 r (HO.DK od (HO.dK Ww))):=λb o n h=>by rw[AH (AO h r1)];exact sx3 b o n h
   generalize upd H3 r (HO.DK od (HO.dK Ww))=H4 at *;refine CP (Ww.map λkv=>kV kv.1) (λj σ H'=>Ae m H4 H'/\∃o7 cM,σ=[some (.ref L.land),some (.int (((e+1:Nat)):Int)),some (.int ((day:Nat):Int)),some (.ref m),some (V.int (((y.2+1:Nat)):Int)),some v,some (.ref r),o7]/\H' m=some (.dK cM)/\DQ K H' cM (Px aq dd ((As l y.2).take j)))
    ⟨λb o _ h=>h,_,cN,rfl,Yx,eV⟩ (λj σ H' ⟨sx',_⟩=>GY (sx' r _ Wk cS)) (λj x σ H' hx ⟨sx',o7,cM,e1,NZ,Et⟩=>?_) (λσ H' ⟨sx',o7,cM,e1,NZ,Et⟩=>?_)
   .subst e1;obtain⟨hj,u,rfl,fu,dgf,nk⟩:=W7 AWo shp.nd hx;have N9:(As l y.2)[j]∈As l y.2:=qI hj;have zx:=z2 _ N9;have aS:Sm (As l y.2)[j].2:=zx.sm hE2 gU (by lk);have bH:FQ K H' u (As l y.2)[j].2:=fu.A6 sx' Yx trivial;have oj:FQ K H' v aq:=BH.A6 sx' Yx trivial oh;have i8:=dgf H' r od (sx' r _ Wk cS);have zp:=zm _ N9;have mz:Sm (aq.mul (As l y.2)[j].2):=zp.sm oV hBB (by lk);obtain⟨y1,y2,y3,y4⟩:=AMR (a:=aq) pE ((As l y.2).take j) (λx hx=>zm x (qY hx)) zd ndd okd;have tl:((As l y.2).take j).length<=16:=a_ (qD _ _) shl;have big:B1+((As l y.2).take j).length*(B1*B2)<2^3100:=by
     have h1:((As l y.2).take j).length*(B1*B2)<=16*(B1*B2):=pR _ tl;have h2:B1<2^3059:=AQ mF (by lk);have h3:(2:Nat)^3100=2^41*2^(2905+154):=by rw[<-xq]
     have h4:(2:Nat)^41=2199023255552:=by decide
     have h5:(2:Nat)^3059=2^(2905+154):=rfl;rw[h3,h4];omega
    rw[<-dO hj,ANc];clear q hx dgf fu nk;generalize Px aq dd ((As l y.2).take j)=Z0 at *
    z_go
    refine⟨u,i8,v,u,qp aq,qp (As l y.2)[j].2,rfl,oj,bH,za.ok.1,zx.ok.1,sma,aS,trivial,λb hb=>?_⟩;rw[U0 za.ok zx.ok.1,OT zx.ok];have s6:AM H' (upd H' b (tupQ (aq.mul (As l y.2)[j].2))):=AM.new hb;refine⟨m,(As l y.2)[j].1,.ref b,cM,Z0,qp (aq.mul (As l y.2)[j].2),rfl,s6 _ _ NZ,Et.same s6,y2,y3,by omega,(y1 _).sm oV big (by lk),BH.tup AD,zp.ok.1,mz,λH7 iG ji cU eU=>⟨(sx'.trans (s6.x m)).trans ji,iG,cU,?_⟩⟩;rw[OT zp.ok] at eU;exact eU
   .subst e1;rw[χ,oK.len,qL] at Et;have Ti:H' r=some (HO.DK od (HO.dK Ww)):=sx' r _ Wk cS;refine⟨Ti,?_⟩;have XA:upd H' r (HO.dK Ww) r=some (.dK Ww):=AD;have Zn:upd H' r (HO.dK Ww) m=some (.dK cM):=by rw[AH Wk.symm];exact NZ
    have gQ:DQ K (upd H' r (HO.dK Ww)) cM (Px aq dd (As l y.2)):=Et.A6 Ae.upd Ti trivial;have oZ:FQ K (upd H' r (HO.dK Ww)) v aq:=BH.A6 Ae.upd Ti trivial (BH.A6 sx' Yx trivial oh);have sx5:Ae m H1 (upd H' r (HO.dK Ww)):=λb o n h=>by rw[AH (AO h r1)];exact sx' b o n (lB b o n h)
    generalize upd H' r (HO.dK Ww)=H5 at *;clear q NZ Et Ti sx' cS Yx eV AWo oh lB eK kJ ic fv3 sx3
    z_go
    refine⟨Ww,rfl,?_⟩;have lr:=oK.len;by_cases c:As l y.2=[]
    .rw[η (by rw[lr,c];decide),η c];rw[c] at gQ;refine⟨m,0,v,cM,dd,qp aq,rfl,Zn,gQ,ndd,okd,by omega,((zd 0).sm oV (AQ (y:=3100) mF (by lk)) (by lk)),oZ,za.ok.1,sma,λH7 iG ji cU eU=>⟨sx5.trans ji,iG,cU,?_⟩⟩;rw[OT za.ok] at eU;exact eU
    .rw[ζ (λz=>c (rm (by have:=zod z;omega))),ζ c];exact⟨cM,rfl,gQ⟩
 .subst e1;rw[χ] at Et;rw[show(ds.map (·.2)).take ds.length=ds.map (·.2) from vU (by rw[χ];exact b_ _)] at Et;rw[<-AMQ] at Et;have hmP:m≠t.BZ:=λz=>by rw[z,eN] at ZC;cases ZC
  have sxE:Ae t.BZ H H':=λb o n h=>sx' b o (AO h hm) (sx b o n (s0 b o h));have mh:Hg H' t.BZ PM R0:=by
   rcases bg with h|⟨c,h1,h2⟩
   .exact .inl (sx' _ _ hmP.symm h)
   .exact .inr ⟨c,sx' _ _ hmP.symm h1,sx' _ _ (λz=>by rw[z,kK] at h2;cases h2) h2⟩
  exact q m H' kvs' ds sxE mh hm NZ Et mO
set_option exponentiation.threshold 256
def d7(L:LA):List Ξ:=L.land::L.lw::L.Eu::L.wi::L.gl::L.gs
def GX(L:LA):List Ξ:=d7 L++own L.F
structure A0(t:Ad)(K : ξ)(H:Hp)(l:e_)(L:LA):Prop where
 GW:Te t K H l L
 SX:bK t H
 d1:∀b∈d7 L,b∉own L.F
 d2:L.land∉L.lw::L.Eu::L.wi::L.gl::L.gs
 d3:L.gl≠L.Eu
structure Ei(H H':Hp)(L L':LA):Prop where
 kp:∀b o,H b=some o->NT o->b∉GX L->H' b=some o
 gr:∀b,b∈GX L'->b∈GX L\/H b=none
 al:∀b,H' b=none->H b=none
def Own:HO->Prop
 |.ins _ _ _=>True
 |.lst _=>True
 |.dT _=>True
 |_=>False
theorem Ei.same{H H':Hp}{L:LA}(s:AM H H'):Ei H H' L L:=⟨λb o h _ _=>s b o h,λb h=>.inl h,λb h=>s.free h⟩
theorem A0.kinds{H:Hp}{l:e_}{L:LA}(A:A0 t K H l L){b : Ξ}(h:b∈GX L):∃o,H b=some o/\Own o:=by
 obtain⟨k1,SY,k,ss,a1,a2,a3,_⟩:=A.GW.law;rcases pT.mp h with h|h
 .have hb:b∈L.land::L.lw::L.Eu::L.wi::L.gl::L.gs:=h;simp only[pM] at hb;rcases hb with e|e|e|e|e|e
  ·(rw[e];exact⟨_,A.GW.obj,trivial⟩)
  ·(rw[e];exact⟨_,a1,trivial⟩)
  ·(rw[e];exact⟨_,a3,trivial⟩)
  ·(rw[e];exact⟨_,A.GW.bM,trivial⟩)
  ·(rw[e];exact⟨_,A.GW.lst,trivial⟩)
  .obtain⟨y,_,dx,v,p,h1,_⟩:=Paired.mem A.GW.Ux b e;exact⟨_,h1,trivial⟩
 .have hb:b∈L.F.f::L.F.pl::L.F.rl::(L.F.as++L.F.Y8):=h;simp only[pM,pT] at hb;rcases hb with e|e|e|e|e
  ·(rw[e];exact⟨_,A.GW.Fi.obj,trivial⟩)
  ·(rw[e];exact⟨_,A.GW.Fi.lst,trivial⟩)
  ·(rw[e];exact⟨_,A.GW.Fi.Rm,trivial⟩)
  .obtain⟨j,hj⟩:=uW.mp e;obtain⟨dx,pa,_,h1,_⟩:=A.GW.Fi.ZX j b hj;exact⟨_,h1,trivial⟩
  .obtain⟨xs,hx⟩:=A.GW.Fi.Uv b e;exact⟨_,hx,trivial⟩
theorem A0.other{H H':Hp}{l:e_}{L:LA}(A:A0 t K H l L){X:List Ξ}(hX:∀b∈X,b∈GX L)(kp:∀b o,H b=some o->b∉X->H' b=some o){b : Ξ}{o:HO}(h:H b=some o)(n:¬ Own o):H' b=some o:=kp b o h λm=>by obtain⟨o',e,w⟩:=A.kinds (hX b m);rw[h] at e;cases e;exact n w
section
variable {H H':Hp}{l:e_}{L:LA}{X:List Ξ}
theorem A0.tup(A:A0 t K H l L)(hX:∀b∈X,b∈GX L)(kp:∀b o,H b=some o->b∉X->H' b=some o){a : Ξ}{xs:List V}(h:J1 K H a xs):J1 K H' a xs:=by
 rcases h with(h|⟨o,h⟩)|h
 .exact .inl (.inl (A.other hX kp h λz=>z))
 .exact .inl (.inr ⟨o,A.other hX kp h λz=>z⟩)
 .exact .inr h
theorem A0.bI(A:A0 t K H l L)(hX:∀b∈X,b∈GX L)(kp:∀b o,H b=some o->b∉X->H' b=some o){v:V}{p:Nat×Nat}(h:BH K H v p):BH K H' v p:=let ⟨a,e,q⟩:=h;⟨a,e,A.tup hX kp q⟩
theorem A0.mZ(A:A0 t K H l L)(hX:∀b∈X,b∈GX L)(kp:∀b o,H b=some o->b∉X->H' b=some o):bK t H':=by
 have one:∀{P pos q},Hg H P pos q->Hg H' P pos q:=λ{P pos q} h=>by
  rcases h with h|⟨c,h1,h2⟩
  .exact .inl (A.other hX kp h λz=>z)
  .exact .inr ⟨c,A.other hX kp h1 λz=>z,A.other hX kp h2 λz=>z⟩
 exact⟨one A.SX.dead,one A.SX.near,one A.SX.told⟩
theorem A0.fL(A:A0 t K H l L)(hX:∀b∈X,b∈GX L)(kp:∀b o,H b=some o->b∉X->H' b=some o)(n1:L.lw∉X)(n2:L.Eu∉X){l':e_}(h1:l'.stepsIn=l.stepsIn)(h2:l'.kept=l.kept)(h3:l'.spouse=l.spouse):MW t K H' L.lw L.MN L.Eu l':=by
 obtain⟨k1,SY,k,ss,a1,a2,a3,a4,r⟩:=A.GW.law;refine⟨k1,SY,k,ss,?_,A.bI hX kp a2,kp _ _ a3 n2,Paired.SA a4 λx y q=>A.bI hX kp q,?_⟩
 .rw[h1];exact kp _ _ a1 n1
 .rw[h2,h3];exact r
theorem A0.iw(A:A0 t K H l L)(hX:∀b∈X,b∈GX L)(kp:∀b o,H b=some o->b∉X->H' b=some o)(n:∀b∈L.gs,b∉X):sG (Gz t K H') L.gs l.gifts:=by
 have key:∀{gs:List Ξ}{gf:List sM},sG (Gz t K H) gs gf->(∀b∈gs,b∉X)->sG (Gz t K H') gs gf:=by
  intro gs gf h
  induction h with
  |nil=>intro _;exact .nil
  |cons a r ih=>intro n;obtain⟨dx,v,p,h1,h2,h3⟩:=a;exact .cons ⟨dx,v,p,kp _ _ h1 (n _ (υ ..)),A.bI hX kp h2,h3⟩ (ih λb hb=>n b (θ _ hb))
 exact key A.GW.Ux n
theorem Bs{b : Ξ}(h:b∈d7 L):b∈GX L:=qT _ h
theorem LO:L.land∈d7 L:=υ ..
theorem fH:L.lw∈d7 L:=θ _ (υ ..)
theorem aB:L.Eu∈d7 L:=θ _ (θ _ (υ ..))
theorem aj:L.wi∈d7 L:=θ _ (θ _ (θ _ (υ ..)))
theorem WC:L.gl∈d7 L:=θ _ (θ _ (θ _ (θ _ (υ ..))))
theorem ak{b : Ξ}(h:b∈L.gs):b∈d7 L:=θ _ (θ _ (θ _ (θ _ (θ _ h))))
theorem Pu{b : Ξ}(h:b∈own L.F):b∈GX L:=p9 _ h
theorem A0.TR{l':e_}{F':FA}(A:A0 t K H l L)(ef:F'.f=L.F.f)(fa:Cj t H' l' F')(st:NO H H' L.F F')(h1:l'.stepsIn=l.stepsIn)(h2:l'.kept=l.kept)(h3:l'.spouse=l.spouse)(h4:l'.gifts=l.gifts):
  A0 t K H' l' {L with F:=F'}/\Ei H H' L {L with F:=F'}:=by
 have hX:∀b∈own L.F,b∈GX L:=λb hb=>Pu hb;have kp:∀b o,H b=some o->b∉own L.F->H' b=some o:=st.kp;have no:∀b,b∈d7 L->b∉own F':=λb hb m=>by
  obtain⟨o,e,_⟩:=A.kinds (Bs hb);rcases st.gr b m with q|q
  .exact A.d1 b hb q
  .rw[e] at q;cases q
 refine⟨⟨⟨?_,A.fL hX kp (A.d1 _ fH) (A.d1 _ aB) h1 h2 h3,fa,kp _ _ A.GW.bM (A.d1 _ aj),kp _ _ A.GW.lst (A.d1 _ WC),?_⟩,A.mZ hX kp,no,A.d2,A.d3⟩,⟨λb o h _ n=>kp b o h λm=>n (Pu m),λb hb=>?_,st.al⟩⟩
 .show H' L.land=some (.ins t.CJ L.dx (C9 (.ref L.lw) (.ref F'.f) (.ref L.wi)));rw[ef];exact kp _ _ A.GW.obj (A.d1 _ LO)
 .rw[h4];exact A.iw hX kp λb hb=>A.d1 b (ak hb)
 .rcases pT.mp hb with m|m
  .exact .inl (Bs m)
  .rcases st.gr b m with q|q
   .exact .inl (Pu q)
   .exact .inr q
theorem A0.same(A:A0 t K H l L)(s:AM H H'):A0 t K H' l L:=⟨A.GW.same s,A.SX.same s,A.d1,A.d2,A.d3⟩
theorem A0.write(A:A0 t K H l L){p : Ξ}{xs ys:List V}(hp:H p=some (.lst xs))(np:p∉GX L):A0 t K (upd H p (.lst ys)) l L:=by
 have sn:∀b o,H b=some o->(¬ Own o\/b∈GX L)->upd H p (.lst ys) b=some o:=λb o h c=>by
  rw[AH λe=>?_]
  .exact h
  .rcases c with c|c
   .rw[e,hp] at h;cases h;exact c trivial
   .exact np (e▸c)
 have up:∀b o,H b=some o->b∈GX L->upd H p (.lst ys) b=some o:=λb o h m=>sn b o h (.inr m);have tp:∀{b zs},J1 K H b zs->J1 K (upd H p (.lst ys)) b zs:=λ{b zs} h=>by
  rcases h with(h|⟨o,h⟩)|h
  .exact .inl (.inl (sn _ _ h (.inl λz=>z)))
  .exact .inl (.inr ⟨o,sn _ _ h (.inl λz=>z)⟩)
  .exact .inr h
 have fp:∀{v q},BH K H v q->BH K (upd H p (.lst ys)) v q:=λ{v q} ⟨a,e,h⟩=>⟨a,e,tp h⟩
 have one:∀{P pos q},Hg H P pos q->Hg (upd H p (.lst ys)) P pos q:=λ{P pos q} h=>by
  rcases h with h|⟨c,h1,h2⟩
  .exact .inl (sn _ _ h (.inl λz=>z))
  .exact .inr ⟨c,sn _ _ h1 (.inl λz=>z),sn _ _ h2 (.inl λz=>z)⟩
 obtain⟨k1,SY,k,ss,a1,a2,a3,a4,r⟩:=A.GW.law;have mP:∀b,b∈L.F.as++L.F.Y8->b∈GX L:=λb h=>Pu (θ _ (θ _ (θ _ h)));have gk:∀{gs:List Ξ}{gf:List sM},sG (Gz t K H) gs gf->(∀b∈gs,b∈GX L)->sG (Gz t K (upd H p (.lst ys))) gs gf:=by
  intro gs gf h
  induction h with
  |nil=>intro _;exact .nil
  |cons a r ih=>intro n;obtain⟨dx,v,p,h1,h2,h3⟩:=a;exact .cons ⟨dx,v,p,up _ _ h1 (n _ (υ ..)),fp h2,h3⟩ (ih λb hb=>n b (θ _ hb))
 refine⟨⟨up _ _ A.GW.obj (Bs LO),⟨k1,SY,k,ss,up _ _ a1 (Bs fH),fp a2,up _ _ a3 (Bs aB),Paired.SA a4 λx y q=>fp q,r⟩,
  ⟨up _ _ A.GW.Fi.obj (Pu (υ ..)),up _ _ A.GW.Fi.lst (Pu (θ _ (υ ..))),A.GW.Fi.nd,A.GW.Fi.len,λj a h=>?_,up _ _ A.GW.Fi.Rm (Pu (θ _ (θ _ (υ ..)))),λb hb=>?_,A.GW.Fi.UB⟩,
  up _ _ A.GW.bM (Bs aj),up _ _ A.GW.lst (Bs WC),gk A.GW.Ux λb hb=>Bs (ak hb)⟩,⟨one A.SX.dead,one A.SX.near,one A.SX.told⟩,A.d1,A.d2,A.d3⟩
 .obtain⟨dx,pa,m,h1,h2⟩:=A.GW.Fi.ZX j a h;exact⟨dx,pa,m,up _ _ h1 (mP _ (qT _ (qQ h))),up _ _ h2 (mP _ (p9 _ m))⟩
 .obtain⟨zs,hz⟩:=A.GW.Fi.Uv b hb;exact⟨zs,up _ _ hz (mP _ (p9 _ hb))⟩
theorem A0.Jt(A:A0 t K H l L)(s:EA H H')(tb:bK t H'):A0 t K H' l L:=⟨A.GW.Jt s,tb,A.d1,A.d2,A.d3⟩
theorem Ei.n(s:EA H H')(tb:bK t H')(hT:∀b ps,H b=some (.P1 ps)->b=t.BZ\/b=t.HV\/b=t.HU\/H' b=some (.P1 ps)):Ei H H' L L:=by
 refine⟨λb o h n _=>s b o h n,λb h=>.inl h,λb h=>?_⟩;cases q:H b with
 |none=>rfl
 |some o=>
  cases o with
  |P1 ps=>
   rcases hT b ps q with e|e|e|e
   .obtain⟨_,z⟩:=tb.dead.P1;rw[e,z] at h;cases h
   .obtain⟨_,z⟩:=tb.near.P1;rw[e,z] at h;cases h
   .obtain⟨_,z⟩:=tb.told.P1;rw[e,z] at h;cases h
   .rw[e] at h;cases h
  |_=>rw[s b _ q trivial] at h;cases h
end
def AD0(t:Ad):Sp:=λvs H Q _=>∃a dx,vs=[.ref a]/\H a=some (.ins t.EH dx [])/\∀gl,H gl=none->∀H',(∀b,b≠a->H' b=upd H gl (.lst []) b)->H' a=some (.ins t.EH dx (Pn (.ref gl)))->Q .Es H'
theorem AIV(T:Txt K mg t):A2 P w K mg AG FI 1 t.Gr t.Ij ["self"] (AD0 t):=by
 refine T.Ll.ok AIS (λvs H Q E h=>?_) (λDM A AR s H vs Q E hr h=>?_)
 .obtain⟨_,_,rfl,_⟩:=h;rfl
 obtain⟨a,dx,rfl,hp,q⟩:=h;refine⟨_,(AI (Dh (pv 0) (EV AF) rfl)),?_⟩;walk_at "rf";intro gl XD;have n1:a≠gl:=AO hp XD;have e1:upd H gl (HO.lst []) a=some (.ins t.EH dx []):=by rw[AH n1];exact hp
 walk_at "rf";exact q gl XD _ (λb hb=>by rw[AH hb]) (by rw[AD])
inductive AEp(t:Ad)(vs:List V)(H:Hp)(Q:VK)(Xk:XK):Prop
 |mk:∀a dx g x e v,vs=[.ref a,g,x,e,v]->H a=some (.ins t.CS dx [])->Q .Es (upd H a (.ins t.CS dx (Hh g x e v)))->AEp t vs H Q Xk
theorem AKX(T:Txt K mg t):A2 P w K mg AG FI 1 t.IU t.Jx ["self","giver","whom","instead","portion"] (AEp t):=by
 refine T.Mf.ok AKS (λvs H Q E h=>?_) (λDM A AR s H vs Q E hr h=>?_)
 .obtain⟨_,_,_,_,_,_,rfl,_⟩:=h;rfl
 obtain⟨a,dx,g,x,e,v,rfl,hp,q⟩:=h;refine⟨_,(AE (Dh (pv 0) (pv 1) rfl)
  (AE (Dh (pv 0) (pv 2) rfl)
  (AE (Dh (pv 0) (pv 3) rfl)
  (AI (Dh (pv 0) (pv 4) rfl))))),?_⟩
 walk_at "rf"
def ALM(t:Ad)(K : ξ):Sp:=λvs H Q _=>∃a dx fs,vs=[.ref a]/\H a=some (.ins t.CJ dx fs)/\(fs=[]\/∃u v z,fs=C9 u v z)/\bK t H /\
 ∀H' L,L.land=a->A0 t K H' ve L->(∀b o,H b=some o->b≠a->H' b=some o)->(∀b,b∈GX L->b=a\/H b=none)->Q .Es H'
theorem ALj(T:Txt K mg t):A2 P w K mg AG FI 4 t.Gu t.Il ["self"] (ALM t K):=by
 have ADb:=@AKV P w K mg AG t T;have AEF:=@AHW P w K mg AG t T;have AFU:=@AIV P w K mg AG t T;refine T.Ln.ok AIU (λvs H Q E h=>?_) (λDM A AR s H vs Q E hr h=>?_)
 .obtain⟨_,_,_,rfl,_⟩:=h;rfl
 obtain⟨a,dx,fs,rfl,ha,iY,tb,q⟩:=h;refine⟨_,(AE (Dh (pv 0) (ARC ADb hr.m rfl T.ACc T.G2.kp T.ACg .nil AS) rfl)
  (AE (Dh (pv 0) (Vx T.UK AEF hr.m rfl T.AJu T.ADW .nil AS) rfl)
  (AI (Dh (pv 0) (Vx T.V8 AFU hr.m rfl T.ALy T.AD9 .nil AS) rfl)))),?_⟩
 clear ADb AEF AFU;unfold AEm AC1 AD0;have pf:∀x y z,CT "wills" z (CT "family" y (CT "law" x fs))=C9 x y z:=λx y z=>by
  rcases iY with e|⟨u,v,z',e⟩
  .rw[e];rfl
  .rw[e,ADe,AFZ,AGA]
 have len0:fs.length<=3:=by
  rcases iY with e|⟨u,v,z,e⟩
  .rw[e];decide
  .rw[e,AIL];decide
 have lp:∀(n:qf) (x:V) (gs:List (qf×V)),(CT n x gs).length<=gs.length+1:=λn x gs=>Qc n x gs;walk_at "rf";intro lw MN Eu H1 s1 nlw nspl law;have WL:=s1 _ _ ha;refine⟨_,_,_,WL,T.Im,T.Lv,by omega,λf kY hf fS nff pl rl RM Wz nN H2 e2 e3=>?_⟩;have jy:f≠a:=λe=>by rw[e,AD] at hf;cases hf
 have nda:kY≠a:=λe=>by rw[e,AD] at fS;cases fS
 rw[AH jy] at hf;rw[AH nda] at fS;have npf:pl≠f:=λe=>by rw[e,AD] at RM;cases RM
 have nrf:rl≠f:=λe=>by rw[e,AD] at Wz;cases Wz
 rw[AH npf] at RM;rw[AH nrf] at Wz;have npd:pl≠kY:=λe=>by rw[e,AD] at RM;cases RM
 have nrd:rl≠kY:=λe=>by rw[e,AD] at Wz;cases Wz
 rw[AH npd] at RM;rw[AH nrd] at Wz;have af:pl≠a:=λe=>by rw[e,AD] at RM;cases RM
 have aZ:rl≠a:=λe=>by rw[e,AD] at Wz;cases Wz
 rw[AH af] at RM;rw[AH aZ] at Wz;have kp:∀b o,H1 b=some o->b≠a->H2 b=some o:=λb o h n=>by have m1:b≠f:=AO h hf;rw[e2 b m1,AH (AO h Wz),AH (AO h RM),AH m1,AH (AO h fS),AH n];exact h
 have bG:H2 a=some (HO.ins t.CJ dx (CT "law" (V.ref lw) fs)):=by rw[e2 a (qk jy),AH (qk aZ),AH (qk af),AH (qk jy),AH (qk nda),AD]
 have iM:H2 pl=some (.lst []):=by rw[e2 pl npf,AH nN,AD]
 have iL:H2 rl=some (.dT []):=by rw[e2 rl nrf,AD]
 refine⟨_,_,_,bG,T.Im,T.IB,by have:=lp "law" (V.ref lw) fs;omega,λwi di Wy fO nww gl XD H3 e4 e5=>?_⟩;have gD:wi≠a:=λe=>by rw[e,AD] at Wy;cases Wy
 have AWQ:di≠a:=λe=>by rw[e,AD] at fO;cases fO
 rw[AH gD] at Wy;rw[AH AWQ] at fO;have ngw:gl≠wi:=λe=>by rw[e,AD] at XD;cases XD
 rw[AH ngw] at XD;have ngd:gl≠di:=λe=>by rw[e,AD] at XD;cases XD
 rw[AH ngd] at XD;have jx:gl≠a:=λe=>by rw[e,AD] at XD;cases XD
 rw[AH jx] at XD;have kp3:∀b o,H2 b=some o->b≠a->H3 b=some o:=λb o h n=>by have m1:b≠wi:=AO h Wy;rw[e4 b m1,AH (AO h XD),AH m1,AH (AO h fO),AH n];exact h
 have kR:H3 a=some (HO.ins t.CJ dx (CT "family" (V.ref f) (CT "law" (V.ref lw) fs))):=by rw[e4 a (qk gD),AH (qk jx),AH (qk gD),AH (qk AWQ),AD]
 have AXz:H3 gl=some (.lst []):=by rw[e4 gl ngw,AD]
 refine⟨_,_,_,kR,T.Im,T.Li,by have h1:=lp "law" (V.ref lw) fs;have h2:=lp "family" (V.ref f) (CT "law" (V.ref lw) fs);omega,?_⟩;rw[pf];have fM:∀b o,H1 b=some o->b≠a->upd H3 a (HO.ins t.CJ dx (C9 (V.ref lw) (V.ref f) (V.ref wi))) b=some o:=λb o h n=>by rw[AH n];exact kp3 b o (kp b o h n) n
 have sx:Ae a H1 (upd H3 a (HO.ins t.CJ dx (C9 (V.ref lw) (V.ref f) (V.ref wi)))):=λb o nb h=>fM b o h nb;have AWU:lw≠a:=λe=>by rw[e,ha] at nlw;cases nlw
 have AWR:Eu≠a:=λe=>by rw[e,ha] at nspl;cases nspl
 have law1:=law;obtain⟨k1,SY,k,ss,a1,a2,a3,a4,a5⟩:=law;have jr:∀{o:HO}{b : Ξ},H1 b=some o->¬ Own o->b≠a:=λ{o b} h n z=>by rw[z,WL] at h;cases h;exact n trivial
 have tp:∀{b zs},J1 K H1 b zs->J1 K (upd H3 a (HO.ins t.CJ dx (C9 (V.ref lw) (V.ref f) (V.ref wi)))) b zs:=λ{b zs} h=>by
  rcases h with(h|⟨o,h⟩)|h
  .exact .inl (.inl (fM _ _ h (jr h λz=>z)))
  .exact .inl (.inr ⟨o,fM _ _ h (jr h λz=>z)⟩)
  .exact .inr h
 have fp:∀{v q},BH K H1 v q->BH K (upd H3 a (HO.ins t.CJ dx (C9 (V.ref lw) (V.ref f) (V.ref wi)))) v q:=λ{v q} ⟨b,e,h⟩=>⟨b,e,tp h⟩
 have bg:=tb.same s1;have one:∀{P pos q},Hg H1 P pos q->Hg (upd H3 a (HO.ins t.CJ dx (C9 (V.ref lw) (V.ref f) (V.ref wi)))) P pos q:=λ{P pos q} h=>by
  rcases h with h|⟨c,h1,h2⟩
  .exact .inl (fM _ _ h (jr h λz=>z))
  .exact .inr ⟨c,fM _ _ h1 (jr h1 λz=>z),fM _ _ h2 (jr h2 λz=>z)⟩
 have f2:H2 f=some (HO.ins t.Aa kY (BA (V.ref pl) (V.ref rl))):=e3;have x1:∀b o,H2 b=some o->b≠a->upd H3 a (HO.ins t.CJ dx (C9 (V.ref lw) (V.ref f) (V.ref wi))) b=some o:=λb o h n=>by rw[AH n];exact kp3 b o h n
 have nV:∀b,H1 b=none->lw≠b:=λb h=>AO a1 h;have lU:∀b,H1 b=none->Eu≠b:=λb h=>AO a3 h;have al2:∀b,b≠a->H2 b=none->H1 b=none:=λb n h=>by
  cases q1:H1 b with
  |none=>rfl
  |some o=>rw[kp b o q1 n] at h;cases h
 have w1:=al2 wi gD Wy;have g1:=al2 gl jx XD;have nfw:f≠wi:=λe=>by rw[<-e,f2] at Wy;cases Wy
 have nfg:f≠gl:=λe=>by rw[<-e,f2] at XD;cases XD
 have npw:pl≠wi:=λe=>by rw[<-e,iM] at Wy;cases Wy
 have npg:pl≠gl:=λe=>by rw[<-e,iM] at XD;cases XD
 have nrw:rl≠wi:=λe=>by rw[<-e,iL] at Wy;cases Wy
 have nrg:rl≠gl:=λe=>by rw[<-e,iL] at XD;cases XD
 refine q _ ⟨a,dx,lw,MN,Eu,⟨f,kY,pl,rl,[],[]⟩,wi,di,gl,[]⟩ rfl ⟨⟨AD,⟨k1,SY,k,ss,fM _ _ a1 AWU,fp a2,fM _ _ a3 AWR,Paired.SA a4 λx y q=>fp q,a5⟩,⟨x1 _ _ f2 jy,x1 _ _ iM af,uJ,rfl,λj b h=>by simp at h,x1 _ _ iL aZ,λb hb=>(by cases hb),λhb=>(by cases hb)⟩,?_,?_,.nil⟩,⟨one bg.dead,one bg.near,one bg.told⟩,?_,?_,?_⟩ (λb o h n=>fM b o (s1 b o h) n) (λb hb=>?_)
 .show upd H3 a _ wi=_;rw[AH gD];exact e5
 .show upd H3 a _ gl=_;rw[AH jx];exact AXz
 .intro b hb;have Jg:b∈[a,lw,Eu,wi,gl]:=hb;show b∉[f,pl,rl];simp only[pM,rO,or_false,not_or] at Jg ⊢;rcases Jg with e|e|e|e|e<;>rw[e]
  .exact⟨qk jy,qk af,qk aZ⟩
  .exact⟨nV _ hf,nV _ RM,nV _ Wz⟩
  .exact⟨lU _ hf,lU _ RM,lU _ Wz⟩
  .exact⟨qk nfw,qk npw,qk nrw⟩
  .exact⟨qk nfg,qk npg,qk nrg⟩
 .show a∉[lw,Eu,wi,gl];simp only[pM,rO,or_false,not_or];exact⟨qk AWU,qk AWR,qk gD,qk jx⟩
 .show gl≠Eu;exact qk (lU _ g1)
 .have Jg:b∈[a,lw,Eu,wi,gl,f,pl,rl]:=hb;simp only[pM,rO,or_false] at Jg;rcases Jg with e|e|e|e|e|e|e|e
  .exact .inl e
  .exact .inr (by rw[e];exact nlw)
  .exact .inr (by rw[e];exact nspl)
  .exact .inr (s1.free (by rw[e];exact w1))
  .exact .inr (s1.free (by rw[e];exact g1))
  .exact .inr (s1.free (by rw[e];exact hf))
  .exact .inr (s1.free (by rw[e];exact RM))
  .exact .inr (s1.free (by rw[e];exact Wz))
theorem Ei.ALB{H H1 H2:Hp}{L L':LA}(st:Ei H H1 L L')(s:AM H1 H2):Ei H H2 L L':=⟨λb o h n m=>s _ _ (st.kp b o h n m),st.gr,λb h=>st.al b (s.free h)⟩
theorem Ei.AQq{H H1 H2:Hp}{L L':LA}(s:AM H H1)(st:Ei H1 H2 L L'):Ei H H2 L L':=⟨λb o h n m=>st.kp b o (s b o h) n m,λb hb=>(st.gr b hb).imp id s.free,λb h=>s.free (st.al b h)⟩
def AEn(t:Ad)(K : ξ):Sp:=λvs H Q _=>∃a dx,vs=[.ref a]/\H a=some (.ins t.CJ dx [])/\bK t H /\
 ∀H' L,L.land=a->A0 t K H' ve L->(∀b o,H b=some o->b≠a->H' b=some o)->(∀b,b∈GX L->b=a\/H b=none)->Q .Es H'
theorem AKW(T:Txt K mg t):A2 P w K mg AG FI 5 t.IT t.Jw ["self"] (AEn t K):=by
 have Mj:=@ALj P w K mg AG t T;refine T.Me.ok AKR (λvs H Q E h=>?_) (λDM A AR s H vs Q E hr h=>?_)
 .obtain⟨_,_,rfl,_⟩:=h;rfl
 obtain⟨a,dx,rfl,ha,tb,q⟩:=h;refine⟨_,(AI (FN (Cc (pv 0) T.Im T.Lj Mj hr.m T.OC .nil AS))),?_⟩;exact⟨a,dx,[],rfl,ha,rfl,a,dx,[],rfl,ha,.inl rfl,tb,λH' L e h1 h2 h3=>q H' L e h1 h2 h3⟩
def WV(l:List Nat):Option uH:=uL (l.map λn=>((n:Nat):Int))
def outs(a:zG):List V:=(a.v::a.l).map V.int
inductive JV(t:Ad)(K : ξ)(k:Nat)(vs:List V)(H:Hp)(Q:VK)(Xk:XK):Prop
 |mk:∀L l a ns c,vs=[.ref L.land,.ref a]->H a=some (.lst (Aq ns))->Good l->A0 t K H l L->WV (k::ns)=some c->a∉GX L->(∀n∈ns,n<4294967296)->(∀r H' L',L'.land=L.land->A0 t K H' (f_ l c).1 L'->Ei H H' L L'->H r=none->r∉GX L'->H' r=some (.lst (outs (f_ l c).2))->Q (.ref r) H')->JV t K k vs H Q Xk
theorem VE{H':Hp}{l:e_}{L:LA}(A:A0 t K H' l L){r : Ξ}(h:H' r=none):r∉GX L:=λm=>by obtain⟨o,e,_⟩:=A.kinds m;rw[h] at e;cases e
theorem Gy{H H1:Hp}{l l':e_}{L L':LA}{p : Ξ}{xs:List V}(A':A0 t K H1 l' L')(st:Ei H H1 L L')(hp:H1 p=none):
  A0 t K (upd H1 p (.lst xs)) l' L'/\Ei H (upd H1 p (.lst xs)) L L'/\H p=none/\p∉GX L':=
 ⟨A'.same (AM.new hp),st.ALB (AM.new hp),st.al p hp,VE A' hp⟩
theorem AIZ(T:Txt K mg t):A2 P w K mg AG FI 5 t.CB t.FF ["land","numbers"] (JV t K 0):=by
 have Mj:=@ALj P w K mg AG t T;refine T.GN.ok AFh (λvs H Q E h=>?_) (λDM A AR s H vs Q E hr h=>?_)
 .obtain⟨_,_,_,_,_,rfl,_⟩:=h;rfl
 obtain⟨L,l,a,ns,c,rfl,ha,g,la,hc,na,TJ,q⟩:=h;refine⟨_,(AE (FN (Cc (pv 0) T.Im T.Lj Mj hr.m T.OC .nil AS))
  (AI (AV (EV (AA (An rfl T.Qs) AF))))),?_⟩
 clear Mj;unfold ALM;have o1:=la.GW.obj;have e:c=.begins:=by
  cases ns with
  |nil=>injection hc with hc;exact hc.symm
  |cons x r=>cases hc
 subst e
 z_go
 refine⟨.inr trivial,la.SX,λH1 L1 e1 Th kp gr p hp=>?_⟩;have st:Ei H H1 L L1:=⟨λb o h _ n=>kp b o h λe=>n (by rw[e];exact Bs LO),λb hb=>?_,λb hb=>?_⟩
 .obtain⟨z1,z2,z3,z4⟩:=Gy (l:=l) (xs:=[V.int 0]) Th st hp;exact q p _ L1 e1 z1 z2 z3 z4 AD
 .rcases gr b hb with z|z
  .exact .inl (by rw[z];exact Bs LO)
  .exact .inr z
 .cases e:H b with
  |none=>rfl
  |some o=>
   by_cases n:b=L.land
   .rw[n,<-e1,Th.GW.obj] at hb;cases hb
   .rw[kp b o e n] at hb;cases hb
theorem AIX(T:Txt K mg t):A2 P w K mg AG FI 4 t.B9 t.FD ["land","numbers"] (JV t K 2):=by
 have AA6:=@AIa P w K mg AG t T;refine T.GK.ok AFf (λvs H Q E h=>?_) (λDM A AR s H vs Q E hr h=>?_)
 .obtain⟨_,_,_,_,_,rfl,_⟩:=h;rfl
 obtain⟨L,l,a,ns,c,rfl,ha,g,la,hc,na,TJ,q⟩:=h;refine⟨_,(AI (AV (EV (AA (Aj (AW K rfl (pv 0) rfl) T.AX T.ID AA6 hr.m T.AAi .nil AS (AA (A9 A3 (pv 1) Ac (λ_ _=>rfl)) (AA (A9 A3 (pv 1) Ac (λ_ _=>rfl)) AF))) AF)))),?_⟩;clear AA6;have o1:=la.GW.obj;have o2:=la.GW.Fi.obj;obtain⟨x,y,rfl,rfl⟩:∃x y,ns=[x,y]/\c=Kq [x,y]:=by
  match ns,hc with
  |[x,y],hc=>exact⟨x,y,rfl,(j_ hc).symm⟩
  |[],hc=>cases hc
  |[x],hc=>cases hc
  |x::y::z::r,hc=>cases hc
 have e0:Aq [x,y]=[V.int (x:Nat),V.int (y:Nat)]:=rfl;rw[e0] at ha;clear hc
 z_go
 refine⟨L.F,l,[x,y],rfl,rfl,g,la.GW.Fi,λH1 F1 ef fa st p hp=>?_⟩;obtain⟨i1,i2,i3,i4⟩:(f_ l (Kq [x,y])).1.stepsIn=l.stepsIn/\(f_ l (Kq [x,y])).1.kept=l.kept/\(f_ l (Kq [x,y])).1.spouse=l.spouse/\(f_ l (Kq [x,y])).1.gifts=l.gifts:=by
  show(f_ l (.person x y)).1.stepsIn=l.stepsIn/\(f_ l (.person x y)).1.kept=l.kept/\(f_ l (.person x y)).1.spouse=l.spouse/\(f_ l (.person x y)).1.gifts=l.gifts;unfold f_;dsimp only
  repeat' split
  all_goals exact⟨rfl,rfl,rfl,rfl⟩
 obtain⟨Th,Up⟩:=la.TR ef fa st i1 i2 i3 i4;obtain⟨z1,z2,z3,z4⟩:=Gy (l:=l) (xs:=[V.int (f_ l (Kq [x,y])).2.v]) Th Up hp;refine q p _ {L with F:=F1} rfl z1 z2 z3 z4 ?_;rw[AD];have el:(f_ l (Kq [x,y])).2.l=[]:=by
  show(f_ l (.person x y)).2.l=[]
  unfold f_;dsimp only
  repeat' split
  all_goals rfl
 unfold outs;rw[el];rfl
theorem ALo(T:Txt K mg t):A2 P w K mg AG FI 3 t.Cw t.HK ["land","numbers"] (JV t K 3):=by
 have ACQ:=@ANG P w K mg AG t T;refine T.IS.ok AHH (λvs H Q E h=>?_) (λDM A AR s H vs Q E hr h=>?_)
 .obtain⟨_,_,_,_,_,rfl,_⟩:=h;rfl
 obtain⟨L,l,a,ns,c,rfl,ha,g,la,hc,na,TJ,q⟩:=h;refine⟨_,(AI (AV (EV (AA (Aj (AW K rfl (pv 0) rfl) T.AX T.KY ACQ hr.m T.ABo .nil AS (AA (A9 A3 (pv 1) Ac (λ_ _=>rfl)) (AA (A9 A3 (pv 1) Ac (λ_ _=>rfl)) AF))) AF)))),?_⟩;clear ACQ;have o1:=la.GW.obj;have o2:=la.GW.Fi.obj;obtain⟨x,y,rfl,rfl⟩:∃x y,ns=[x,y]/\c=Pz [x,y]:=by
  match ns,hc with
  |[x,y],hc=>exact⟨x,y,rfl,(j_ hc).symm⟩
  |[],hc=>cases hc
  |[x],hc=>cases hc
  |x::y::z::r,hc=>cases hc
 have e0:Aq [x,y]=[V.int (x:Nat),V.int (y:Nat)]:=rfl;rw[e0] at ha;clear hc
 z_go
 refine⟨L.F,l,[x,y],rfl,rfl,g,la.GW.Fi,λH1 F1 ef fa st p hp=>?_⟩;obtain⟨i1,i2,i3,i4⟩:(f_ l (Pz [x,y])).1.stepsIn=l.stepsIn/\(f_ l (Pz [x,y])).1.kept=l.kept/\(f_ l (Pz [x,y])).1.spouse=l.spouse/\(f_ l (Pz [x,y])).1.gifts=l.gifts:=by
  show(f_ l (.dies x y)).1.stepsIn=l.stepsIn/\(f_ l (.dies x y)).1.kept=l.kept/\(f_ l (.dies x y)).1.spouse=l.spouse/\(f_ l (.dies x y)).1.gifts=l.gifts;unfold f_;dsimp only
  repeat' split
  all_goals exact⟨rfl,rfl,rfl,rfl⟩
 obtain⟨Th,Up⟩:=la.TR ef fa st i1 i2 i3 i4;obtain⟨z1,z2,z3,z4⟩:=Gy (l:=l) (xs:=[V.int (f_ l (Pz [x,y])).2.v]) Th Up hp;refine q p _ {L with F:=F1} rfl z1 z2 z3 z4 ?_;rw[AD];have el:(f_ l (Pz [x,y])).2.l=[]:=by
  show(f_ l (.dies x y)).2.l=[]
  unfold f_;dsimp only
  repeat' split
  all_goals rfl
 unfold outs;rw[el];rfl
theorem AKY(T:Txt K mg t):A2 P w K mg AG FI 4 t.CQ t.GR ["land","numbers"] (JV t K 4):=by
 have ADc:=@ARM P w K mg AG t T;refine T.G3.ok AGW (λvs H Q E h=>?_) (λDM A AR s H vs Q E hr h=>?_)
 .obtain⟨_,_,_,_,_,rfl,_⟩:=h;rfl
 obtain⟨L,l,a,ns,c,rfl,ha,g,la,hc,na,TJ,q⟩:=h;refine⟨_,(AI (AV (EV (AA (Aj (AW K rfl (pv 0) rfl) T.AX T.MM ADc hr.m T.ACi .nil AS (AA (A9 A3 (pv 1) Ac (λ_ _=>rfl)) (AA (A9 A3 (pv 1) Ac (λ_ _=>rfl)) AF))) AF)))),?_⟩;clear ADc;have o1:=la.GW.obj;have o2:=la.GW.Fi.obj;obtain⟨x,y,rfl,rfl⟩:∃x y,ns=[x,y]/\c=NI [x,y]:=by
  match ns,hc with
  |[x,y],hc=>exact⟨x,y,rfl,(j_ hc).symm⟩
  |[],hc=>cases hc
  |[x],hc=>cases hc
  |x::y::z::r,hc=>cases hc
 have e0:Aq [x,y]=[V.int (x:Nat),V.int (y:Nat)]:=rfl;rw[e0] at ha;clear hc
 z_go
 refine⟨L.F,l,[x,y],rfl,rfl,g,la.GW.Fi,λH1 F1 ef fa st p hp=>?_⟩;obtain⟨i1,i2,i3,i4⟩:(f_ l (NI [x,y])).1.stepsIn=l.stepsIn/\(f_ l (NI [x,y])).1.kept=l.kept/\(f_ l (NI [x,y])).1.spouse=l.spouse/\(f_ l (NI [x,y])).1.gifts=l.gifts:=by
  show(f_ l (.marry x y)).1.stepsIn=l.stepsIn/\(f_ l (.marry x y)).1.kept=l.kept/\(f_ l (.marry x y)).1.spouse=l.spouse/\(f_ l (.marry x y)).1.gifts=l.gifts;unfold f_;dsimp only
  repeat' split
  all_goals exact⟨rfl,rfl,rfl,rfl⟩
 obtain⟨Th,Up⟩:=la.TR ef fa st i1 i2 i3 i4;obtain⟨z1,z2,z3,z4⟩:=Gy (l:=l) (xs:=[V.int (f_ l (NI [x,y])).2.v]) Th Up hp;refine q p _ {L with F:=F1} rfl z1 z2 z3 z4 ?_;rw[AD];have el:(f_ l (NI [x,y])).2.l=[]:=by
  show(f_ l (.marry x y)).2.l=[]
  unfold f_;dsimp only
  repeat' split
  all_goals rfl
 unfold outs;rw[el];rfl
theorem AGY(T:Txt K mg t):A2 P w K mg AG FI 4 t.BV t.Ds ["land","numbers"] (JV t K 6):=by
 have ABq:=@ALh P w K mg AG t T;refine T.EZ.ok AEH (λvs H Q E h=>?_) (λDM A AR s H vs Q E hr h=>?_)
 .obtain⟨_,_,_,_,_,rfl,_⟩:=h;rfl
 obtain⟨L,l,a,ns,c,rfl,ha,g,la,hc,na,TJ,q⟩:=h;refine⟨_,(AI (AV (EV (AA (Aj (AW K rfl (pv 0) rfl) T.AX T.Je ABq hr.m T.ABM .nil AS (AA (A9 A3 (pv 1) Ac (λ_ _=>rfl)) (AA (A9 A3 (pv 1) Ac (λ_ _=>rfl)) AF))) AF)))),?_⟩;clear ABq;have o1:=la.GW.obj;have o2:=la.GW.Fi.obj;obtain⟨x,y,rfl,rfl⟩:∃x y,ns=[x,y]/\c=WW [x,y]:=by
  match ns,hc with
  |[x,y],hc=>exact⟨x,y,rfl,(j_ hc).symm⟩
  |[],hc=>cases hc
  |[x],hc=>cases hc
  |x::y::z::r,hc=>cases hc
 have e0:Aq [x,y]=[V.int (x:Nat),V.int (y:Nat)]:=rfl;rw[e0] at ha;clear hc
 z_go
 refine⟨L.F,l,[x,y],rfl,rfl,g,la.GW.Fi,λH1 F1 ef fa st p hp=>?_⟩;obtain⟨i1,i2,i3,i4⟩:(f_ l (WW [x,y])).1.stepsIn=l.stepsIn/\(f_ l (WW [x,y])).1.kept=l.kept/\(f_ l (WW [x,y])).1.spouse=l.spouse/\(f_ l (WW [x,y])).1.gifts=l.gifts:=by
  show(f_ l (.renounce x y)).1.stepsIn=l.stepsIn/\(f_ l (.renounce x y)).1.kept=l.kept/\(f_ l (.renounce x y)).1.spouse=l.spouse/\(f_ l (.renounce x y)).1.gifts=l.gifts;unfold f_;dsimp only
  repeat' split
  all_goals exact⟨rfl,rfl,rfl,rfl⟩
 obtain⟨Th,Up⟩:=la.TR ef fa st i1 i2 i3 i4;obtain⟨z1,z2,z3,z4⟩:=Gy (l:=l) (xs:=[V.int (f_ l (WW [x,y])).2.v]) Th Up hp;refine q p _ {L with F:=F1} rfl z1 z2 z3 z4 ?_;rw[AD];have el:(f_ l (WW [x,y])).2.l=[]:=by
  show(f_ l (.renounce x y)).2.l=[]
  unfold f_;dsimp only
  repeat' split
  all_goals rfl
 unfold outs;rw[el];rfl
theorem ALk(T:Txt K mg t):A2 P w K mg AG FI 3 t.Cs t.HF ["land","numbers"] (JV t K 5):=by
 have AEE:=@AS9 P w K mg AG t T;refine T.IL.ok AHE (λvs H Q E h=>?_) (λDM A AR s H vs Q E hr h=>?_)
 .obtain⟨_,_,_,_,_,rfl,_⟩:=h;rfl
 obtain⟨L,l,a,ns,c,rfl,ha,g,la,hc,na,TJ,q⟩:=h;refine⟨_,(AI (AV (EV (AA (Aj (AW K rfl (pv 0) rfl) T.AX T.M7 AEE hr.m T.ADV .nil AS (AA (A9 A3 (pv 1) Ac (λ_ _=>rfl)) AF)) AF)))),?_⟩;clear AEE;have o1:=la.GW.obj;have o2:=la.GW.Fi.obj;obtain⟨x,rfl,rfl⟩:∃x,ns=[x]/\c=Py [x]:=by
  match ns,hc with
  |[x],hc=>exact⟨x,rfl,(j_ hc).symm⟩
  |[],hc=>cases hc
  |x::y::r,hc=>cases hc
 have e0:Aq [x]=[V.int (x:Nat)]:=rfl;rw[e0] at ha;clear hc
 z_go
 refine⟨L.F,l,[x],rfl,rfl,g,la.GW.Fi,λH1 F1 ef fa st p hp=>?_⟩;obtain⟨i1,i2,i3,i4⟩:(f_ l (Py [x])).1.stepsIn=l.stepsIn/\(f_ l (Py [x])).1.kept=l.kept/\(f_ l (Py [x])).1.spouse=l.spouse/\(f_ l (Py [x])).1.gifts=l.gifts:=by
  show(f_ l (.part x)).1.stepsIn=l.stepsIn/\(f_ l (.part x)).1.kept=l.kept/\(f_ l (.part x)).1.spouse=l.spouse/\(f_ l (.part x)).1.gifts=l.gifts;unfold f_;dsimp only
  repeat' split
  all_goals exact⟨rfl,rfl,rfl,rfl⟩
 obtain⟨Th,Up⟩:=la.TR ef fa st i1 i2 i3 i4;obtain⟨z1,z2,z3,z4⟩:=Gy (l:=l) (xs:=[V.int (f_ l (Py [x])).2.v]) Th Up hp;refine q p _ {L with F:=F1} rfl z1 z2 z3 z4 ?_;rw[AD];have el:(f_ l (Py [x])).2.l=[]:=by
  show(f_ l (.part x)).2.l=[]
  unfold f_;dsimp only
  repeat' split
  all_goals rfl
 unfold outs;rw[el];rfl
theorem AHN:∀(k:Nat) (r:List Nat) (s:List (Nat×Nat)),wK k r=some s->s=pairUp r/\r.length%2=0/\r.length<=2*k
 |k,[],s,h=>by
  have:some ([]:List (Nat×Nat))=some s:=by cases k<;>exact h
  exact⟨(j_ this).symm,rfl,qG _⟩
 |0,a::r,s,h=>by cases r<;>cases h
 |k+1,[a],s,h=>by cases h
 |k+1,a::b::r,s,h=>by
  have h':(wK k r).map (λl=>(a,b)::l)=some s:=h;obtain⟨s',e1,e2⟩:=rE.mp h';obtain⟨i1,i2,i3⟩:=AHN k r s' e1;refine⟨?_,?_,?_⟩
  .rw[<-e2,i1];rfl
  .show(r.length+2)%2=0;omega
  .show r.length+2<=2*(k+1);omega
theorem ALt(l:List Nat):(l.map λn=>((n:Nat):Int)).map zD=l:=by
 rw[p6];have:(zD∘λn=>((n:Nat):Int))=id:=by funext n;simp
 rw[this,ym]
theorem AQD{ns:List Nat}{c:uH}(h:WV (1::ns)=some c):∃b n d r,ns=b::n::d::r/\b<=1/\r.length%2=0/\r.length<=16/\c=.law (pairUp r) (n,d) (b==1):=by
 unfold WV uL at h;rw[ALt] at h
 match ns,h with
 |b::n::d::r,h=>
  have h':(if b<=1 then(wK 8 r).map (λs=>Si49.Call.law s (n,d) (b==1)) else none)=some c:=h;split at h'
  .rename_i hb;obtain⟨s,e1,e2⟩:=rE.mp h';obtain⟨i1,i2,i3⟩:=AHN 8 r s e1;exact⟨b,n,d,r,rfl,hb,i2,i3,by rw[<-e2,i1]⟩
  .cases h'
 |[],h=>cases h
 |[b],h=>cases h
 |[b,n],h=>cases h
theorem AYR{ns:List Nat}{b n d:Nat}{r:List Nat}(h:ns=b::n::d::r):WT (Aq ns) (some 3) none=Aq r:=by
 subst h;unfold WT;have e1:HT.Ye (Aq (b::n::d::r)).length 0 (some 3)=3:=by have:=HT.U6 (Aq (b::n::d::r)).length 0 3;rw[show((3:Nat):Int)=3 from rfl] at this;rw[this];show min 3 ((Aq r).length+3)=3;omega
 rw[e1,HT.ALR];show(Aq r).take ((Aq r).length+3-3)=Aq r;rw[qH,qL]
theorem Cj.A6{H H':Hp}{l:e_}{F:FA}{a0 C d : Ξ}{fs:List (qf×V)}(A:Cj t H l F)(sx:Ae a0 H H')(h0:H a0=some (.ins C d fs))(n:a0∉own F):Cj t H' l F:=by
 have m:∀b,b∈own F->b≠a0:=λb hb e=>n (e▸hb);refine⟨sx _ _ (m _ (υ ..)) A.obj,sx _ _ (m _ (θ _ (υ ..))) A.lst,A.nd,A.len,λj a h=>?_,sx _ _ (m _ (θ _ (θ _ (υ ..)))) A.Rm,λb hb=>?_,A.UB⟩
 .obtain⟨dx,pa,mm,h1,h2⟩:=A.ZX j a h;exact⟨dx,pa,mm,sx _ _ (m _ (θ _ (θ _ (θ _ (qT _ (qQ h)))))) h1,sx _ _ (D5 h2 h0 (by intro z;cases z)) h2⟩
 .obtain⟨xs,hx⟩:=A.Uv b hb;exact⟨xs,sx _ _ (D5 hx h0 (by intro z;cases z)) hx⟩
theorem A0.AVC{H H1:Hp}{l l':e_}{L:LA}(A:A0 t K H l L)(s:AM H H1){lw MN Eu : Ξ}(nl:H lw=none)(ns:H Eu=none)(law:MW t K H1 lw MN Eu l')(hp:l'.persons=l.persons)(hr:l'.renounced=l.renounced)(hg:l'.gifts=l.gifts):
  A0 t K (upd H1 L.land (.ins t.CJ L.dx (C9 (.ref lw) (.ref L.F.f) (.ref L.wi)))) l' {L with lw:=lw,MN:=MN,Eu:=Eu}/\Ei H (upd H1 L.land (.ins t.CJ L.dx (C9 (.ref lw) (.ref L.F.f) (.ref L.wi)))) L {L with lw:=lw,MN:=MN,Eu:=Eu}:=by
 have A1:=A.same s;have sx:Ae L.land H1 (upd H1 L.land (.ins t.CJ L.dx (C9 (.ref lw) (.ref L.F.f) (.ref L.wi)))):=λb o n h=>by rw[AH n];exact h
 have hX:∀b∈[L.land],b∈GX L:=λb hb=>by rw[i_.mp hb];exact Bs LO
 have kp:∀b o,H1 b=some o->b∉[L.land]->upd H1 L.land (.ins t.CJ L.dx (C9 (.ref lw) (.ref L.F.f) (.ref L.wi))) b=some o:=λb o h n=>sx b o (λe=>n (by rw[e];exact i_.mpr rfl)) h;have d2:=A.d2;simp only[pM,not_or] at d2;have lP:∀b,b∈GX L->b≠lw/\b≠Eu:=λb hb=>by obtain⟨o,e,_⟩:=A.kinds hb;exact⟨AO e nl,AO e ns⟩
 have ll:=lP _ (Bs LO);have Fi:Cj t H1 l' L.F:=by have f1:=A1.GW.Fi;exact⟨f1.obj,f1.lst,f1.nd,by rw[hp];exact f1.len,λj a h=>by have:=f1.ZX j a h;unfold g_ at this ⊢;rw[hp];exact this,by rw[hr];exact f1.Rm,f1.Uv,f1.UB⟩
 have fL:MW t K (upd H1 L.land (.ins t.CJ L.dx (C9 (.ref lw) (.ref L.F.f) (.ref L.wi)))) lw MN Eu l':=by obtain⟨k1,SY,k,ss,a1,a2,a3,a4,r⟩:=law;exact⟨k1,SY,k,ss,sx _ _ (qk ll.1) a1,A1.bI hX kp a2,sx _ _ (qk ll.2) a3,Paired.SA a4 λx y q=>A1.bI hX kp q,r⟩
 refine⟨⟨⟨AD,fL,Fi.A6 sx A1.GW.obj (A.d1 _ LO),sx _ _ (qk d2.2.2.1) A1.GW.bM,sx _ _ (qk d2.2.2.2.1) A1.GW.lst,?_⟩,A1.mZ hX kp,λb hb=>?_,?_,?_⟩,⟨λb o h _ n=>?_,λb hb=>?_,λb hb=>s.free (Sd hb)⟩⟩
 .rw[hg];exact A1.iw hX kp λb hb m=>d2.2.2.2.2 (by rw[i_.mp m] at hb;exact hb)
 .have Jg:b∈L.land::lw::Eu::L.wi::L.gl::L.gs:=hb;simp only[pM] at Jg;rcases Jg with e|e|e|e|e|e
  .rw[e];exact A.d1 _ LO
  .rw[e];exact λm=>(lP _ (Pu m)).1 rfl
  .rw[e];exact λm=>(lP _ (Pu m)).2 rfl
  .rw[e];exact A.d1 _ aj
  .rw[e];exact A.d1 _ WC
  .exact A.d1 _ (ak e)
 .show L.land∉lw::Eu::L.wi::L.gl::L.gs;simp only[pM,not_or];exact⟨ll.1,ll.2,d2.2.2.1,d2.2.2.2.1,d2.2.2.2.2⟩
 .exact(lP _ (Bs WC)).2
 .exact sx b o (λe=>n (by rw[e];exact Bs LO)) (s b o h)
 .rcases pT.mp hb with m|m
  .have Jg:b∈L.land::lw::Eu::L.wi::L.gl::L.gs:=m;simp only[pM] at Jg;rcases Jg with e|e|e|e|e|e
   .exact .inl (by rw[e];exact Bs LO)
   .exact .inr (by rw[e];exact nl)
   .exact .inr (by rw[e];exact ns)
   .exact .inl (by rw[e];exact Bs aj)
   .exact .inl (by rw[e];exact Bs WC)
   .exact .inl (Bs (ak e))
  .exact .inl (Pu m)
theorem ANJ(T:Txt K mg t):A2 P w K mg AG FI 3 t.Df t.Ii ["land","numbers"] (JV t K 1):=by
 have AO5:=@ARK P w K mg AG t T;have AEC:=@ANF P w K mg AG t T;have NR:=@AGL P w K mg AG t T;refine T.JO.ok Nl (λvs H Q E h=>?_) (λDM A AR s H vs Q E hr h=>?_)
 .obtain⟨_,_,_,_,_,rfl,_⟩:=h;rfl
 obtain⟨L,l,a,ns,c,rfl,ha,g,la,hc,na,TJ,q⟩:=h;refine⟨_,(AE (Al (i:=2) Nl.nd rfl (qh rfl) (I0 (AA (A9 A3 (pv 1) Ac (λ_ _=>rfl)) (AA (A9 A3 (pv 1) Ac (λ_ _=>rfl)) AF))))
  (AE (Al (i:=3) Nl.nd rfl (qh rfl) (Af AO5 hr.m rfl T.ALx T.Qi.kp T.AMb .nil AS (AA (Vv (Vg K rfl) (pv 1) (VB Ac) AOL) AF)))
  (AE (Bv (Gf (CD (Af AEC hr.m rfl T.AC6 T.IJ.kp T.ADO .nil AS (AA (pv 2) (AA (pv 3) AF))))) (AI (AV (EV (AA (An rfl T.Kp) AF)))) Ax)
  (AE (Dh (pv 0) (Sn T.X3 NR hr.m rfl T.Zb T.Qv .nil AS (AA (A9 A3 (pv 1) Ac (λ_ _=>rfl)) (AA (pv 2) (AA (pv 3) AF)))) rfl)
  (AI (AV (EV (AA (An rfl T.Qs) AF)))))))),?_⟩
 clear AO5 AEC NR;obtain⟨b,n,d,r,en,hb,h2,iu,rfl⟩:=AQD hc;have ec:=AYR en;have e0:Aq ns=V.int (b:Nat)::V.int (n:Nat)::V.int (d:Nat)::Aq r:=by rw[en];rfl
 rw[e0] at ha ec;clear hc en
 z_go
 intro p hp;have s1:AM H (upd H p (HO.tup [V.int n,V.int d])):=AM.new hp
 z_go
 refine⟨_,Er.of (s1 _ _ ha),λp2 W0=>?_⟩;rw[ec];have s2:=AM.new (o:=HO.lst (Aq r)) W0;refine⟨_,r,rfl,Er.of AD,h2,by omega,λD H3 ys s3 hD hy hf=>?_⟩;have sp:BH K H3 (V.ref p) (n,d):=⟨p,rfl,J1.of (s3 _ _ (s2 _ _ AD))⟩
 z_go
 refine⟨_,D,ys,(n,d),pairUp r,rfl,sp,hy,hf,by rw[R3];omega,λH4 s4=>?_⟩;have aW:AM H H4:=s1.trans (s2.trans (s3.trans s4));have Wm:f_ l (Si49.Call.law (pairUp r) (n,d) (b==1))=if (pairUp r).length≠Si49.CLASSES\/(pairUp r).all qO=false\/qO (n,d)=false then(l,qJ (-1)) else({l with spouse:=(pairUp r).map (λx=>sO x.1 x.2),kept:=sO n d,stepsIn:=b==1},qJ 0):=rfl;by_cases k:(pairUp r).length≠Si49.CLASSES\/(pairUp r).all qO=false\/qO (n,d)=false
 .have kb:(decide ((pairUp r).length=5)&&(qO (n,d)&&(pairUp r).all qO))=false:=by
   rcases k with z|z|z
   .rw[zdf (show¬ (pairUp r).length=5 from z),sZ]
   .rw[z,ue,ue]
   .rw[z,sZ,ue]
  rw[kb];rw[Wm,η k] at q
  z_go
  intro r' Yh;obtain⟨z1,z2,z3,z4⟩:=Gy (l:=l) (xs:=[V.int (-1)]) (la.same aW) (.same aW) Yh;exact q r' _ L rfl z1 z2 z3 z4 AD
 .rw[Wm,ζ k] at q;simp only[not_or] at k;obtain⟨k1,k2,k3⟩:=k;have k1':(pairUp r).length=5:=Decidable.of_not_not k1;have k2':(pairUp r).all qO=true:=by simpa using k2
  have k3':qO (n,d)=true:=by simpa using k3
  rw[zqt k1',k2',k3',sf,sf]
  z_go
  refine⟨_,aW _ _ ha,_,Ol _ _,λx dx hx ZE nd=>?_⟩;have s5:=AM.make (o:=HO.ins t.JP dx (Qz (V.int b) (V.ref p) (V.ref D))) hx ZE nd;have f9:=aW.trans s5;have law:MW t K (upd (upd H4 dx (HO.own x)) x (HO.ins t.JP dx (Qz (V.int b) (V.ref p) (V.ref D)))) x dx D {l with spouse:=(pairUp r).map (λx=>sO x.1 x.2),kept:=sO n d,stepsIn:=b==1}:=by
   have eb:(if (b==1)=true then(1:Int) else 0)=(b:Int):=by
    have:b=0\/b=1:=by omega
    rcases this with e|e<;>subst e<;>rfl
   refine⟨V.ref p,ys,(n,d),pairUp r,?_,sp.same (s4.trans s5),s5 _ _ (s4 _ _ hy),hf.same (s4.trans s5),rfl,k3',rfl,k2',k1'⟩;show _=some (HO.ins t.JP dx (Qz (.int (if (b==1)=true then(1:Int) else 0)) (V.ref p) (V.ref D)));rw[eb,AD]
  have nD:H D=none:=(s1.trans s2).free hD;have nx:H x=none:=aW.free hx;obtain⟨y1,y2⟩:=la.AVC f9 nx nD law rfl rfl rfl;refine⟨x,dx,_,_,_,rfl,AD,?_⟩;have o5:=f9 _ _ la.GW.obj
  z_go
  intro r' Yh;obtain⟨z1,z2,z3,z4⟩:=Gy (l:=l) (xs:=[V.int 0]) y1 y2 Yh;exact q r' _ {L with lw:=x,MN:=dx,Eu:=D} rfl z1 z2 z3 z4 AD
set_option exponentiation.threshold 2000
def IF(l:e_)(n:Nat):Bool:=decide (1<=n/\n<=l.persons.length)
inductive ALI(t:Ad)(vs:List V)(H:Hp)(Q:VK)(Xk:XK):Prop
 |mk:∀a dx e i j v F l,vs=[.ref a,.ref F.f]->H a=some (.ins t.CS dx (Hh (.int ((e:Nat):Int)) (.int ((i:Nat):Int)) (.int ((j:Nat):Int)) v))->Cj t H l F->Q (.bl (IF l e&&(IF l i&&(decide (j=0)||IF l j)))) H->ALI t vs H Q Xk
theorem ARL(T:Txt K mg t):A2 P w K mg AG FI 2 t.BR t.Bp ["self","family"] (ALI t):=by
 have AY:=@Ls P w K mg AG t T;refine T.Dd.ok ABs (λvs H Q E h=>?_) (λDM A AR s H vs Q E hr h=>?_)
 .obtain⟨_,_,_,_,_,_,_,_,rfl,_⟩:=h;rfl
 obtain⟨a,dx,e,i,j,v,F,l,rfl,ha,fa,q⟩:=h;refine⟨_,(AE (Bv (PW.pt (Pq (Gf (CD (Aj (pv 1) T.AX T.A7 AY hr.m T.BI .nil AS (AA (AW K rfl (pv 0) rfl) AF)))) (O6 (Gf (CD (Aj (pv 1) T.AX T.A7 AY hr.m T.BI .nil AS (AA (AW K rfl (pv 0) rfl) AF))))))) (AI (AV V0)) Ax)
  (AI (AV (AUL (Mb M0 (AW K rfl (pv 0) rfl) (An rfl T.Fc) (Cn _)) (Vw (Aj (pv 1) T.AX T.A7 AY hr.m T.BI .nil AS (AA (AW K rfl (pv 0) rfl) AF))))))),?_⟩
 clear AY;have o1:=fa.obj;have o2:=fa.lst;have ln:=fa.len;have kk:∀n:Nat,decide (1<=((n:Nat):Int)/\((n:Nat):Int)<=((F.as.map V.ref).length:Int))=IF l n:=λn=>by unfold IF;rw[χ,ln];exact decide_eq_decide.mpr (by omega)
 walk_at "rf";cases c1:IF l e with
 |false=>rw[η (show(!false)=true from rfl)];rw[c1,sZ] at q;exact q
 |true=>
  rw[ζ (show¬ (!true)=true from Λ)];rw[c1,sf] at q;cases c2:IF l i with
  |false=>rw[η (show(!false)=true from rfl)];rw[c2,sZ] at q;exact q
  |true=>
   rw[ζ (show¬ (!true)=true from Λ)];rw[c2,sf] at q;by_cases c3:j=0
   .rw[η (zqt (by omega))];rw[zqt c3,wX] at q;exact q
   .rw[ζ (λz=>c3 (by have:=zod z;omega))];rw[zdf c3,uE] at q;exact q
abbrev XJ(e i j n d:Nat):uH:=.gift e i j n d
inductive AGH(t:Ad)(K : ξ)(vs:List V)(H:Hp)(Q:VK)(Xk:XK):Prop
 |mk:∀L l a dx e i j n d v,vs=[.ref L.wi,.ref L.F.f,.ref a]->Good l->A0 t K H l L->H a=some (.ins t.CS dx (Hh (.int ((e:Nat):Int)) (.int ((i:Nat):Int)) (.int ((j:Nat):Int)) v))->BH K H v (n,d)->aK (n,d)->a∉GX L->(∀H' L',L'.land=L.land->A0 t K H' (f_ l (XJ e i j n d)).1 L'->(∀b o,H b=some o->b∉GX L->H' b=some o)->(∀b,b∈GX L'->b∈GX L\/b=a)->(∀b,H' b=none->H b=none)->Q (.int (f_ l (XJ e i j n d)).2.v) H')->AGH t K vs H Q Xk
theorem AQd{ps:List pO}(h:∀x∈ps,Bm x):ps.foldl yI rT=zj ps:=by
 have:=XU (d:=ps.map λx=>(0,x)) (λx hx=>by obtain⟨y,hy,rfl⟩:=Θ.mp hx;exact h y hy)
 unfold Js at this;rw[p6] at this;have e:((λx:Nat×pO=>x.2)∘λx=>(0,x))=id:=rfl;rw[e,ym] at this;exact this
theorem AH1{H:Hp}:∀{as:List Ξ}{gf:List sM},sG (Gz t K H) as gf->∃ps:List (Nat×Nat),ps.length=as.length/\(∀(k:Nat) (a : Ξ) (p:Nat×Nat),as[k]?=some a->ps[k]?=some p->∃dx g0 g1 g2 v,H a=some (.ins t.CS dx (Hh g0 g1 g2 v))/\BH K H v p)/\ps.map qo=gf.map (λg=>g.part)/\∀p∈ps,qO p=true
 |_,_,.nil=>⟨[],rfl,λk a p h=>by simp at h,rfl,λp hp=>by cases hp⟩
 |_,_,.cons (a:=a) (b:=g) (l₁:=as) (l₂:=gf) h r=>by
  obtain⟨ps,e1,e2,e3,e4⟩:=AH1 r;obtain⟨dx,v,p,h1,h2,h3,h4⟩:=h;refine⟨p::ps,by rw[o_,o_,e1],λk x y hx hy=>?_,by rw[k_,k_,e3,h3],λq hq=>?_⟩
  .cases k with
   |zero=>rw[rW] at hx hy;cases hx;cases hy;exact⟨dx,_,_,_,v,h1,h2⟩
   |succ k=>rw[tW] at hx hy;exact e2 k x y hx hy
  .rcases pM.mp hq with rfl|hq
   .exact h4
   .exact e4 q hq
theorem ALF:∀{ps:List (Nat×Nat)}{x:pO}{C:Nat},(∀p∈ps,Sz Cr 1 (qo p))->Sz Cr C x->Sz Cr (C+ps.length) (Mq x ps)
 |[],x,C,_,h=>h
 |p::ps,x,C,hp,h=>by have:=ALF (ps:=ps) (λq hq=>hp q (θ _ hq)) (h.add (hp p (υ ..)));rw[o_,show C+(ps.length+1)=C+1+ps.length by omega];exact this
theorem Cj.AWb{H H':Hp}{l:e_}{F:FA}(A:Cj t H l F)(kp:∀b o,H b=some o->b∈own F->H' b=some o):Cj t H' l F:=by
 refine⟨kp _ _ A.obj (υ ..),kp _ _ A.lst (θ _ (υ ..)),A.nd,A.len,λj a h=>?_,kp _ _ A.Rm (θ _ (θ _ (υ ..))),λb hb=>?_,A.UB⟩
 .obtain⟨dx,pa,mm,h1,h2⟩:=A.ZX j a h;exact⟨dx,pa,mm,kp _ _ h1 (θ _ (θ _ (θ _ (qT _ (qQ h))))),kp _ _ h2 (θ _ (θ _ (θ _ (p9 _ mm))))⟩
 .obtain⟨xs,hx⟩:=A.Uv b hb;exact⟨xs,kp _ _ hx (θ _ (θ _ (θ _ (p9 _ hb))))⟩
theorem A0.ATI{H H1:Hp}{l:e_}{L:LA}{gi:sM}{a : Ξ}(A:A0 t K H l L)(s:AM H H1)(na:a∉GX L)(ga:Gz t K H1 a gi):
  A0 t K (upd H1 L.gl (.lst ((L.gs++[a]).map V.ref))) {l with gifts:=l.gifts++[gi]} {L with gs:=L.gs++[a]}/\(∀b o,H b=some o->b∉GX L->upd H1 L.gl (.lst ((L.gs++[a]).map V.ref)) b=some o)/\(∀b,b∈GX {L with gs:=L.gs++[a]}->b∈GX L\/b=a)/\∀b,upd H1 L.gl (.lst ((L.gs++[a]).map V.ref)) b=none->H b=none:=by
 have A1:=A.same s;have hX:∀b∈[L.gl],b∈GX L:=λb hb=>by rw[i_.mp hb];exact Bs WC
 have jR:∀b o,H1 b=some o->b≠L.gl->upd H1 L.gl (.lst ((L.gs++[a]).map V.ref)) b=some o:=λb o h n=>by rw[AH n];exact h
 have kp:∀b o,H1 b=some o->b∉[L.gl]->upd H1 L.gl (.lst ((L.gs++[a]).map V.ref)) b=some o:=λb o h n=>jR b o h λe=>n (by rw[e];exact i_.mpr rfl);have d2:=A.d2;simp only[pM,not_or] at d2;have o2:=A1.GW.lst;obtain⟨k1,SY,k,ss,a1,_⟩:=A1.GW.law;have nag:a≠L.gl:=λe=>na (by rw[e];exact Bs WC);have gsn:∀b∈L.gs,b∉[L.gl]:=λb hb m=>by obtain⟨y,_,dx,v,p,h1,_⟩:=Paired.mem A1.GW.Ux b hb;rw[i_.mp m,o2] at h1;cases h1
 have gk:=A1.iw hX kp gsn;obtain⟨gdx,gv,gp,g1,g2,g3⟩:=ga;have Fi:Cj t (upd H1 L.gl (.lst ((L.gs++[a]).map V.ref))) {l with gifts:=l.gifts++[gi]} L.F:=by have f1:=A1.GW.Fi.AWb (H':=upd H1 L.gl (.lst ((L.gs++[a]).map V.ref))) λb o h m=>jR b o h λe=>A.d1 _ WC (by rw[e] at m;exact m);exact⟨f1.obj,f1.lst,f1.nd,f1.len,f1.ZX,f1.Rm,f1.Uv,f1.UB⟩
 refine⟨⟨⟨jR _ _ A1.GW.obj d2.2.2.2.1,A1.fL hX kp (λm=>?_) (λm=>A.d3 (i_.mp m).symm) rfl rfl rfl,Fi,jR _ _ A1.GW.bM (D5 A1.GW.bM o2 (by intro z;cases z)),AD,QU ⟨gdx,gv,gp,jR _ _ g1 nag,A1.bI hX kp g2,g3⟩ gk⟩,A1.mZ hX kp,λb hb=>?_,?_,A.d3⟩,λb o h n=>jR b o (s b o h) λe=>n (by rw[e];exact Bs WC),λb hb=>?_,λb hb=>s.free (Sd hb)⟩
 .rw[i_.mp m,o2] at a1;cases a1
 .have Jg:b∈L.land::L.lw::L.Eu::L.wi::L.gl::(L.gs++[a]):=hb;simp only[pM,pT,rO,or_false] at Jg;rcases Jg with e|e|e|e|e|e|e
  .rw[e];exact A.d1 _ LO
  .rw[e];exact A.d1 _ fH
  .rw[e];exact A.d1 _ aB
  .rw[e];exact A.d1 _ aj
  .rw[e];exact A.d1 _ WC
  .exact A.d1 _ (ak e)
  .rw[e];exact λm=>na (Pu m)
 .show L.land∉L.lw::L.Eu::L.wi::L.gl::(L.gs++[a]);simp only[pM,pT,rO,or_false,not_or];exact⟨d2.1,d2.2.1,d2.2.2.1,d2.2.2.2.1,d2.2.2.2.2,λe=>na (by rw[<-e];exact Bs LO)⟩
 .rcases pT.mp hb with m|m
  .have Jg:b∈L.land::L.lw::L.Eu::L.wi::L.gl::(L.gs++[a]):=m;simp only[pM,pT,rO,or_false] at Jg;rcases Jg with e|e|e|e|e|e|e
   .exact .inl (by rw[e];exact Bs LO)
   .exact .inl (by rw[e];exact Bs fH)
   .exact .inl (by rw[e];exact Bs aB)
   .exact .inl (by rw[e];exact Bs aj)
   .exact .inl (by rw[e];exact Bs WC)
   .exact .inl (Bs (ak e))
   .exact .inr e
  .exact .inl (Pu m)
theorem ALp(hP:P.given.tree=none)(T:Txt K mg t):A2 P w K mg AG FI 37 t.DS t.EN ["self","family","gift"] (AGH t K):=by
 have AAS:=@ARL P w K mg AG t T;have G6:=@AHT P w K mg AG t T;have Iq:=@Xx P w K mg AG t T;have HP:=@AHV P w K mg AG t T;have Kz:=@Su P w K mg AG t hP T;refine T.Ho.ok J3 (λvs H Q E h=>?_) (λDM A AR s H vs Q E hr h=>?_)
 .obtain⟨_,_,_,_,_,_,_,_,_,_,rfl,_⟩:=h;rfl
 obtain⟨L,l,a,dx,e,i,j,n,d,v,rfl,g,la,ha,fv,sm,na,q⟩:=h;refine⟨_,(AE (Bv (Gf (CD (Aj (pv 2) T.Ng T.Fp AAS hr.m T.AAL .nil AS (AA (pv 1) AF)))) (AI (AV (An rfl T.Bg))) Ax)
  (AE (Bv (PW.pt (Pq (Gf (CD (Af HP hr.m rfl T.Ka T.EY.kp T.Kr .nil AS (AA (AW K rfl (pv 2) rfl) AF)))) (O6 (Gf (CD (Af Iq hr.m rfl T.M8 T.IK.kp T.NJ .nil AS (AA (AW K rfl (pv 2) rfl) (AA (El rfl T.Jy) AF)))))))) (AI (AV (An rfl T.Kp))) Ax)
  (AE (Bv (Cy M0 (CO FH rfl T.Ks IV (AA (AW K rfl (pv 0) rfl) AF)) (An rfl T.AFK) (Cn _)) (AI (AV (An rfl T.Uc))) Ax)
  (AE (Bv (CD (Af Iq hr.m rfl T.M8 T.IK.kp T.NJ .nil AS (AA (Af Kz hr.m rfl T.QX T.Lw.kp T.Qt .nil AS (AA (So rfl J3.nd (FO K rfl (F0 ARI (Aj (pv 0) T.NG T.Ic G6 hr.m T.LZ .nil AS (AA (AW K rfl (pv 2) rfl) AF)) (EV (AA (pv 2) AF)))) (IW (own:=[("each",3)]) (by rfl)) (λ_ _ _ _ _=>(BU (i:=3) J3.nd rfl (qh rfl))) (λ_ _ _ _ _=>U9) (λ_ _ _ _ _=>(AW K rfl (pv 3) rfl))) AF)) (AA (El rfl T.XI) AF)))) (AI (AV (An rfl T.ACe))) Ax)
  (AE (FN (Vz rV tM tL OV (AW K rfl (pv 0) rfl) (AA (pv 2) AF)))
  (AI (AV (CO FH rfl T.Ks IV (AA (AW K rfl (pv 0) rfl) AF))))))))),?_⟩
 clear AAS G6 Iq HP Kz;have o1:=la.GW.bM;have o2:=la.GW.lst;have Wm:f_ l (XJ e i j n d)=if e=0\/i=0\/qz l (e-1)=false\/qz l (i-1)=false\/l.persons.length<j then(l,qJ (-2)) else if qO (n,d)=false\/n=0 then(l,qJ (-1)) else if Si49.GIFTS<=l.gifts.length then(l,qJ (-5)) else if ((zj ((l.gifts.filter λg=>g.of_==e-1).map λg=>g.part)).add (sO n d)).le vO=false then(l,qJ (-6)) else({l with gifts:=l.gifts++[⟨e-1,i-1,if j=0 then none else some (j-1),sO n d⟩]},qJ ((l.gifts.length:Int)+1)):=rfl;walk_at "rf";have keep:∀{H':Hp},AM H H'->(∀b o,H b=some o->b∉GX L->H' b=some o)/\(∀b,b∈GX L->b∈GX L\/b=a)/\(∀b,H' b=none->H b=none):=λ{H'} s=>⟨λb o h _=>s b o h,λb h=>.inl h,λb h=>s.free h⟩
 refine⟨a,dx,e,i,j,v,L.F,l,rfl,ha,la.GW.Fi,_,rfl,?_⟩;have AXi:(IF l e&&(IF l i&&(decide (j=0)||IF l j))) = !decide (e=0\/i=0\/qz l (e-1)=false\/qz l (i-1)=false\/l.persons.length<j):=by rw[qV];unfold IF qz;simp only[qm,t9,decide_eq_true_eq,v5,decide_eq_false_iff_not];omega
 rw[AXi,Bool.not_not];by_cases c1:e=0\/i=0\/qz l (e-1)=false\/qz l (i-1)=false\/l.persons.length<j
 .rw[η (zqt c1)];rw[Wm,η c1] at q;obtain⟨z1,z2,z3⟩:=keep (.refl H);exact q H L rfl la z1 z2 z3
 rw[ζ (λz=>c1 (zod z))];rw[ζ c1] at Wm;refine⟨_,_,_,ha,T.Ng,T.G0,_,K1 _ _ _ _,v,(n,d),rfl,fv,_,rfl,?_⟩;cases c2:qO (n,d) with
 |false=>rw[η (show(!false)=true from rfl)];rw[Wm,η (.inl c2)] at q;obtain⟨z1,z2,z3⟩:=keep (.refl H);exact q H L rfl la z1 z2 z3
 |true=>
  rw[ζ (show¬ (!true)=true from Λ)];refine⟨_,_,_,ha,T.Ng,T.G0,_,K1 _ _ _ _,v,_,(n,d),(0,1),rfl,fv,Jd T H,sm,AOD,_,rfl,?_⟩;have ce:decide (((0,1):Nat×Nat).1*((n,d):Nat×Nat).2<((n,d):Nat×Nat).1*((0,1):Nat×Nat).2) = !decide (n=0):=by show decide (0*d<n*1) = !decide (n=0);rw[qV];simp only[decide_eq_true_eq,v5,decide_eq_false_iff_not];omega
  rw[ce,Bool.not_not];by_cases c3:n=0
  .rw[η (zqt c3)];rw[Wm,η (.inr c3)] at q;obtain⟨z1,z2,z3⟩:=keep (.refl H);exact q H L rfl la z1 z2 z3
  rw[ζ (λz=>c3 (zod z))];rw[ζ (λz=>z.elim (λy=>by rw[c2] at y;cases y) c3)] at Wm;have lg:L.gs.length=l.gifts.length:=rq la.GW.Ux;have Z6:=g.Z6;walk_at "rf";rw[χ,lg];by_cases c4:Si49.GIFTS<=l.gifts.length
  .have c4':10<=l.gifts.length:=c4;rw[η (zqt (show((l.gifts.length:Nat):Int)=10 by omega))];rw[Wm,η c4] at q;obtain⟨z1,z2,z3⟩:=keep (.refl H);exact q H L rfl la z1 z2 z3
  have c4':¬ 10<=l.gifts.length:=c4;rw[ζ (λz=>c4' (by have:=zod z;omega))];rw[ζ c4] at Wm;refine⟨L.wi,L.di,L.gl,L.gs,l.gifts,e-1,by rw[show e-1+1=e by omega],o1,o2,la.GW.Ux,g.Z6,λr H1 as s1 nr TF hp1=>?_⟩;obtain⟨ps,e1,e2,e3,e4⟩:=AH1 hp1;have asl:as.length<=10:=by rw[rq hp1];exact a_ (pU _ _) Z6
  intro p hp;have s2:AM H1 (upd H1 p (HO.lst [V.ref a])):=AM.new hp;have Yv:=s2 _ _ TF;refine⟨r,rfl,as.map V.ref,Yv,by rw[χ];exact a_ (Nat.add_le_add_right asl 1) (by lk),λp2 W0=>⟨⟨_,Er.of AD⟩,λD hD=>?_⟩⟩;have s3:AM (upd H1 p (HO.lst [V.ref a])) (upd (upd H1 p (HO.lst [V.ref a])) p2 (HO.lst (as.map V.ref++[V.ref a]))):=AM.new W0;have AXq:upd (upd H1 p (HO.lst [V.ref a])) p2 (HO.lst (as.map V.ref++[V.ref a])) p2=some (.lst ((as++[a]).map V.ref)):=by rw[AD,se];rfl
  have aW:=s2.trans s3;have m8:=s1.trans aW;generalize upd (upd H1 p (HO.lst [V.ref a])) p2 (HO.lst (as.map V.ref++[V.ref a]))=H4 at *;have el:(as++[a]).length=(ps++[(n,d)]).length:=by rw[pP,pP,e1];rfl
  have AYU:∀(k:Nat) (b : Ξ) (p:Nat×Nat),(as++[a])[k]?=some b->(ps++[(n,d)])[k]?=some p->∃dx g0 g1 g2 v,H4 b=some (.ins t.CS dx (Hh g0 g1 g2 v))/\BH K H4 v p:=λk b p hb hp=>by
   by_cases hk:k<as.length
   .rw[sF hk] at hb;rw[sF (by omega)] at hp;obtain⟨dx,g0,g1,g2,v,h1,h2⟩:=e2 k b p hb hp;exact⟨dx,g0,g1,g2,v,aW _ _ h1,h2.same aW⟩
   .rw[sY (by omega)] at hb;rw[sY (by omega),e1] at hp;have k0:k-as.length=0:=by have:=(l_.mp hb).1;have e0:[a].length=1:=rfl;omega
    rw[k0] at hb hp;cases hb;cases hp;exact⟨dx,_,_,_,v,m8 _ _ ha,fv.same m8⟩
  have dS:∀p∈ps++[(n,d)],qO p=true:=λp hp=>by
   rcases pT.mp hp with hp|hp
   .exact e4 p hp
   .rw[i_.mp hp];exact c2
  refine PR ((as++[a]).map V.ref) (ps++[(n,d)]) (λH p o=>∃v,o=some v/\BH K H v p) (by rw[χ];exact el) (λH' s'=>CV (Er.of (s' _ _ AXq))) (by rw[χ,pP];have e0:[a].length=1:=rfl;omega) hD (λH5 H6 ys x o hD5 sx ⟨v,e,f⟩=>⟨v,e,f.A6 sx hD5 trivial⟩) (λk x p hx hp H' s' N hN=>?_) (λH5 ys s5 hy sel=>?_)
  .rw[m_] at hx;cases qb:(as++[a])[k]? with
   |none=>rw[qb] at hx;cases hx
   |some b=>rw[qb] at hx;obtain rfl:=j_ hx;obtain⟨dx2,g0,g1,g2,v2,h1,h2⟩:=AYU k b p qb hp;have bT:=s' _ _ h1;clear q hx;walk_at "rf";exact hN _ _ (.refl _) ⟨v2,rfl,h2.same s'⟩
  .have fr:Td K H5 ys (ps++[(n,d)]):=Sel.all (F:=λy p=>BH K H5 y p) (λx o ⟨v,e,f⟩=>⟨v,e,f⟩) sel;have szs:∀p∈ps++[(n,d)],Sz Cr 1 (qo p):=λp hp=>(XE (dS p hp)).X8;have jJ:∀k,Sz Cr ((ps++[(n,d)]).take k).length (Mq rT ((ps++[(n,d)]).take k)):=λk=>by have:=ALF (ps:=(ps++[(n,d)]).take k) (λp hp=>szs p (qY hp)) (Sz.zero Az);rw[uu] at this;exact this
   have pl:(ps++[(n,d)]).length<=11:=by rw[<-el,pP];have e0:[a].length=1:=rfl;omega
   have szT:Sz Cr 11 (Mq rT (ps++[(n,d)])):=by have:=jJ (ps++[(n,d)]).length;rw[qL] at this;exact this.mono (qi _) Az pl
   have eT:Mq rT (ps++[(n,d)])=(zj ((l.gifts.filter λg=>g.of_==e-1).map λg=>g.part)).add (sO n d):=by rw[AJW];congr 1;unfold Mq;rw[show(λ(x:pO) (p:Nat×Nat)=>x.add (qo p))=λx p=>yI x (qo p) from rfl,<-List.foldl_map (f:=qo) (g:=yI),e3];refine AQd λx hx=>?_;rw[<-e3] at hx;obtain⟨p,hp,rfl⟩:=Θ.mp hx;exact(XE (e4 p hp)).1
   rw[<-eT] at Wm;refine⟨D,ys,_,rfl,hy,fr,λp hp=>⟨(Jh (dS p hp)).1,Oc (dS p hp)⟩,λk=>QJ (jJ k) (S0 (by have:=qD k (ps++[(n,d)]);omega)),λvT H6 s6 fT=>?_⟩;have gz:=(m8.trans s5).trans s6;refine⟨vT,_,qp (Mq rT (ps++[(n,d)])),(1,1),rfl,fT,Wa T _,QJ szT (S0 (by lk)),ZO,_,rfl,?_⟩;generalize hX:Mq rT (ps++[(n,d)])=X at *;have ce2:decide (((1,1):Nat×Nat).1*(qp X).2<(qp X).1*((1,1):Nat×Nat).2) = !(X.le vO):=by unfold yt;show decide (1*X.d<X.n*1) = !decide (X.n*1<=1*X.d);rw[qV];simp only[decide_eq_true_eq,v5,decide_eq_false_iff_not];omega
   rw[ce2];cases c5:X.le vO with
   |false=>rw[η (show(!false)=true from rfl)];rw[Wm,η c5] at q;obtain⟨z1,z2,z3⟩:=keep gz;exact q H6 L rfl (la.same gz) z1 z2 z3
   |true=>
    rw[ζ (show¬ (!true)=true from Λ)];rw[Wm,ζ (by rw[c5];exact Λ.symm)] at q;have d9:=gz _ _ o1;have d8:=gz _ _ o2;have nwg:L.wi≠L.gl:=D5 o1 o2 (by intro z;cases z);obtain⟨y1,y2,y3,y4⟩:=la.ATI (gi:=⟨e-1,i-1,if j=0 then none else some (j-1),sO n d⟩) gz na (a:=a) ⟨dx,v,(n,d),by
     have ev:aO (if j=0 then none else some (j-1))=V.int ((j:Nat):Int):=by
      by_cases j0:j=0
      .rw[η j0,j0];rfl
      .rw[ζ j0];show V.int _=_;congr 1;omega
     have oR:=gz _ _ ha;rw[show e-1+1=e by omega,show i-1+1=i by omega,ev];exact oR,fv.same gz,rfl,c2⟩
    clear Wm hX;walk_at "rf";have em:L.gs.map V.ref++[V.ref a]=(L.gs++[a]).map V.ref:=by rw[se];rfl
    rw[em];refine⟨.inl ⟨rfl,_,Er.of d8⟩,by rw[χ,lg];exact pN Z6 (by lk),_,_,_,by rw[AH nwg];exact d9,T.NG,T.M5,_,AEG _,L.gl,rfl,_,AD,?_⟩;have ql:=q _ {L with gs:=L.gs++[a]} rfl y1 y2 y3 y4;have en:(((L.gs++[a]).map V.ref).length:Int)=(l.gifts.length:Int)+1:=by rw[χ,pP,lg];rfl
    rw[en];exact ql
theorem AVd(l:e_)(e i j n d:Nat):(f_ l (XJ e i j n d)).2.l=[]:=by
 show(f_ l (.gift e i j n d)).2.l=[]
 unfold f_;dsimp only
 repeat' split
 all_goals rfl
theorem ALm(hP:P.given.tree=none)(T:Txt K mg t):A2 P w K mg AG FI 38 t.Cu t.HH ["land","numbers"] (JV t K 7):=by
 have AGT:=@AKX P w K mg AG t T;have ACO:=@ALp P w K mg AG t hP T;refine T.IP.ok AC2 (λvs H Q E h=>?_) (λDM A AR s H vs Q E hr h=>?_)
 .obtain⟨_,_,_,_,_,rfl,_⟩:=h;rfl
 obtain⟨L,l,a,ns,c,rfl,ha,g,la,hc,na,TJ,q⟩:=h;refine⟨_,(AE (Al (i:=2) AC2.nd rfl (qh rfl) (Sn T.X5 AGT hr.m rfl T.AOc T.AFP .nil AS (AA (A9 A3 (pv 1) Ac (λ_ _=>rfl)) (AA (A9 A3 (pv 1) Ac (λ_ _=>rfl)) (AA (A9 A3 (pv 1) Ac (λ_ _=>rfl)) (AA (I0 (AA (A9 A3 (pv 1) Ac (λ_ _=>rfl)) (AA (A9 A3 (pv 1) Ac (λ_ _=>rfl)) AF))) AF))))))
  (AI (AV (EV (AA (Aj (AW K rfl (pv 0) rfl) T.NG T.KU ACO hr.m T.ABm .nil AS (AA (AW K rfl (pv 0) rfl) (AA (pv 2) AF))) AF))))),?_⟩
 clear AGT ACO;have o1:=la.GW.obj;have o2:=la.GW.bM;obtain⟨e,i,j,n,d,rfl,rfl⟩:∃e i j n d,ns=[e,i,j,n,d]/\c=XJ e i j n d:=by
  match ns,hc with
  |[e,i,j,n,d],hc=>exact⟨e,i,j,n,d,rfl,(j_ hc).symm⟩
  |[],hc=>cases hc
  |[_],hc=>cases hc
  |[_,_],hc=>cases hc
  |[_,_,_],hc=>cases hc
  |[_,_,_,_],hc=>cases hc
  |_::_::_::_::_::_::r,hc=>cases hc
 have e0:Aq [e,i,j,n,d]=[V.int ((e:Nat):Int),V.int ((i:Nat):Int),V.int ((j:Nat):Int),V.int ((n:Nat):Int),V.int ((d:Nat):Int)]:=rfl;rw[e0] at ha;clear hc;walk_at "rf";refine⟨_,rfl,λp hp x dx hx ZE nd=>?_⟩;have s0:AM H (upd H p (HO.tup [V.int ((n:Nat):Int),V.int ((d:Nat):Int)])):=AM.new hp;have s1:=s0.trans (AM.make (o:=HO.ins t.CS dx (Hh (V.int ((e:Nat):Int)) (V.int ((i:Nat):Int)) (V.int ((j:Nat):Int)) (V.ref p))) hx ZE nd);have x0:H x=none:=s0.free hx;refine⟨x,dx,_,_,_,_,rfl,AD,rfl,?_⟩;rw[Q5];have fr:BH K (upd (upd (upd H p (HO.tup [V.int ((n:Nat):Int),V.int ((d:Nat):Int)])) dx (HO.own x)) x (HO.ins t.CS dx (Hh (V.int ((e:Nat):Int)) (V.int ((i:Nat):Int)) (V.int ((j:Nat):Int)) (V.ref p)))) (.ref p) (n,d):=⟨p,rfl,J1.of (AM.make hx ZE nd _ _ AD)⟩
 have nh:upd (upd (upd H p (HO.tup [V.int ((n:Nat):Int),V.int ((d:Nat):Int)])) dx (HO.own x)) x (HO.ins t.CS dx (Hh (V.int ((e:Nat):Int)) (V.int ((i:Nat):Int)) (V.int ((j:Nat):Int)) (V.ref p))) x=some (HO.ins t.CS dx (Hh (V.int ((e:Nat):Int)) (V.int ((i:Nat):Int)) (V.int ((j:Nat):Int)) (V.ref p))):=AD;generalize upd (upd (upd H p (HO.tup [V.int ((n:Nat):Int),V.int ((d:Nat):Int)])) dx (HO.own x)) x (HO.ins t.CS dx (Hh (V.int ((e:Nat):Int)) (V.int ((i:Nat):Int)) (V.int ((j:Nat):Int)) (V.ref p)))=H1 at *;have sm:aK (n,d):=⟨Nj (TJ n (by simp)),Nj (TJ d (by simp))⟩
 refine⟨_,_,_,s1 _ _ o1,T.Im,T.Li,_,AFY _ _ _,L.wi,rfl,_,_,s1 _ _ o2,ADv _,_,_,_,s1 _ _ o1,T.Im,T.IB,_,ON _ _ _,?_⟩;refine⟨L,l,x,dx,e,i,j,n,d,.ref p,rfl,g,la.same s1,nh,fr,sm,VE la x0,λH2 L2 eL iE kp gr al p2 W0=>?_⟩;have st:Ei H H2 L L2:=⟨λb o h _ n=>kp b o (s1 b o h) n,λb hb=>?_,λb h=>s1.free (al b h)⟩
 .obtain⟨z1,z2,z3,z4⟩:=Gy (l:=l) (xs:=[V.int (f_ l (XJ e i j n d)).2.v]) iE st W0;refine q p2 _ L2 eL z1 z2 z3 z4 ?_;rw[AD];unfold outs;rw[AVd];rfl
 .rcases gr b hb with z|z
  .exact .inl z
  .exact .inr (by rw[z];exact x0)
theorem ATJ{a b:Nat}(h1:Wu a b)(h2:Wu b a):a=b:=by unfold Wu at h1 h2;omega
theorem APs{m:Nat}{s:tQ}(h:(s.map λx=>x.1).Pairwise (· < ·))(hk:∀x∈s,x.1<=m):(kd m s).Pairwise λx y=>Wu x.1 y.1:=by unfold kd;rw[tV] at h ⊢;refine h.imp_of_mem λ{x y} hx hy hxy=>?_;have h1:=hk x hx;have h2:=hk y hy;show Wu (if x.1<m then x.1+1 else 0) (if y.1<m then y.1+1 else 0);rw[η (by omega)];unfold Wu;split<;>omega
theorem ARj{m:Nat}{s:tQ}(h:(s.map λx=>x.1).Pairwise (· < ·))(hk:∀x∈s,x.1<=m):(AJ (kd m s)).Nodup:=by unfold AJ kd;rw[p6];rw[tV] at h;refine tV.mpr (h.imp_of_mem λ{x y} hx hy hxy=>?_);have h1:=hk x hx;have h2:=hk y hy;show(if x.1<m then x.1+1 else 0)≠(if y.1<m then y.1+1 else 0);rw[η (by omega)];split<;>omega
theorem ANw{m:Nat}{s:tQ}{d d':D pO}(h:(s.map λx=>x.1).Pairwise (· < ·))(hk:∀x∈s,x.1<=m)(p1:d'.Perm d)(p2:d.Perm (kd m s))(fC:d'.Pairwise λx y=>Wu x.1 y.1):d'=kd m s:=by have p:=p1.trans p2;refine vv (le:=λx y=>Wu x.1 y.1) (λa b ha hb h1 h2=>?_) fC (APs h hk) p;have e:=ATJ h1 h2;have nd:=ARj h hk;have YJ:=p.mem_iff.mp ha;have g1:=Kn nd (show(a.1,a.2)∈kd m s from YJ);have g2:=Kn nd (show(b.1,b.2)∈kd m s from hb);rw[e,g2] at g1;exact vQ e (j_ g1).symm
theorem ARG(l:e_)(s:tQ):fF (kd l.persons.length s)=outs (u5 l s):=by unfold fF outs u5;rw[k_];have e1:(kd l.persons.length s).length=s.length:=χ ..;rw[e1];congr 1;unfold kd;rw[List.flatMap_map,List.map_flatMap];congr 1;funext x;show gg (if x.1<l.persons.length then x.1+1 else 0,x.2)=_;unfold gg;simp only[k_,vj];congr 2;split<;>rfl
theorem cO{m:Nat}{s:tQ}(h:∀x∈s,x.1<m):kd m s=sd s:=by unfold kd sd;exact sI λx hx=>by rw[η (h x hx)]
theorem ATe{l:e_}(g:Good l)(e:Nat):((yr l e).map λx=>x.1).Pairwise (· < ·):=by unfold yr;rw[p6];have h:=(Jl (e:=e) g).1.lt;exact h.sublist (List.filter_sublist.map _)
structure Wj(l:e_)(d:D pO)(s:tQ):Prop where
 nd:(AJ d).Nodup
 GV:d.length<=17
 lt:(s.map λx=>x.1).Pairwise (· < ·)
 k:∀x∈s,x.1<=l.persons.length
 pm:d.Perm (kd l.persons.length s)
theorem AQS{l:e_}(g:Good l){e:Nat}(he:e<l.persons.length):Wj l (Av l e) (zo l e):=by have ky:=(Oi g e).2.1;refine⟨(PU g he).1.nd,a_ (YB g he) (by lk),(Jl (e:=e) g).1.lt,λx hx=>tN (ky x hx),?_⟩;rw[cO ky];exact SN g he
theorem AK5{l:e_}(g:Good l){e:Nat}(he:e<l.persons.length):Wj l (As l e) (qC l e):=by obtain⟨n1,ky,_⟩:=Lr g e;have ok:=GZ g he;refine⟨ok.1.nd,a_ (Dn ok.1.nd ok.2.1) (by have:=g.GV;omega),n1.lt,λx hx=>tN (ky x hx),?_⟩;rw[cO ky];exact QK g he
theorem APB{l:e_}(g:Good l){e:Nat}(he:e<l.persons.length):Wj l (AZ l e) (yr l e):=by have ky:=(RK g e).2.1;have ok:=(AMB g he).1;refine⟨ok.nd,a_ (Dn ok.nd ok.k) (by have:=g.GV;omega),ATe g e,λx hx=>tN (ky x hx),?_⟩;rw[cO ky];exact AJ0 g he
theorem APC{l:e_}(g:Good l){e day:Nat}{ds:List (Nat×Nat)}(he:e<l.persons.length)(h:dc l day ds):Wj l (XF l e ds) (wu l e day):=by have r:=AR8 g he h;exact⟨r.p.nd,a_ (AMA r.p.nd r.k) (by have:=g.GV;omega),r.n.lt,r.sk,r.perm⟩
theorem AJY(T:Txt K mg t){H H':Hp}{l:e_}{L:LA}(la:A0 t K H l L)(sx:Ae t.HU H H')(tb:Hg H' t.HU S1 Vn):A0 t K H' l L/\Ei H H' L L:=by
 obtain⟨ps,hp⟩:=la.SX.told.P1;have sn:=EA.gC hp sx;have SX:bK t H':=⟨OR la.SX.dead hp T.Yl.2.1 sx,OR la.SX.near hp T.Yl.2.2 sx,tb⟩
 exact⟨la.Jt sn SX,Ei.n sn SX λb qs h=>by
  by_cases e:b=t.HU
  .exact .inr (.inr (.inl e))
  .exact .inr (.inr (.inr (sx b _ e h)))⟩
theorem APH(T:Txt K mg t){H H':Hp}{l:e_}{L:LA}(la:A0 t K H l L)(sx:Ae t.BZ H H')(tb:Hg H' t.BZ PM R0):A0 t K H' l L/\Ei H H' L L:=by
 obtain⟨ps,hp⟩:=la.SX.dead.P1;have sn:=EA.gC hp sx;have SX:bK t H':=⟨tb,OR la.SX.near hp (qk T.Yl.1) sx,OR la.SX.told hp (qk T.Yl.2.1) sx⟩
 exact⟨la.Jt sn SX,Ei.n sn SX λb qs h=>by
  by_cases e:b=t.BZ
  .exact .inl e
  .exact .inr (.inr (.inr (sx b _ e h)))⟩
theorem AJZ(T:Txt K mg t){H H':Hp}{l:e_}{L:LA}(la:A0 t K H l L)(sx:Ae t.HV H H')(tb:Hg H' t.HV S2 Vp):A0 t K H' l L/\Ei H H' L L:=by
 obtain⟨ps,hp⟩:=la.SX.near.P1;have sn:=EA.gC hp sx;have SX:bK t H':=⟨OR la.SX.dead hp T.Yl.1 sx,tb,OR la.SX.told hp (qk T.Yl.2.2) sx⟩
 exact⟨la.Jt sn SX,Ei.n sn SX λb qs h=>by
  by_cases e:b=t.HV
  .exact .inr (.inl e)
  .exact .inr (.inr (.inr (sx b _ e h)))⟩
theorem Ei.AT4{H H1 H2:Hp}{L:LA}(a:Ei H H1 L L)(b:Ei H1 H2 L L):Ei H H2 L L:=⟨λc o h n m=>b.kp c o (a.kp c o h n m) n m,λc h=>.inl h,λc h=>a.al c (b.al c h)⟩
def fN(t:Ad)(K : ξ)(f : Ξ)(sp:Sp):Prop:=(f=t.CU/\sp=QI t K Av)\/(f=t.Km/\sp=QI t K As)\/(f=t.Pd/\sp=QI t K AZ)
theorem AXA(hP:P.given.tree=none)(T:Txt K mg t){f : Ξ}{sp:Sp}(h:fN t K f sp):∃j fd ps,j<=42/\A2 P w K mg AG FI j f fd ps sp/\sP K (.ref f)=true/\Binds K fd ps []:=by
 rcases h with⟨rfl,rfl⟩|⟨rfl,rfl⟩|⟨rfl,rfl⟩
 .exact⟨40,_,_,by lk,UD hP T,T.DP.kp,T.Io⟩
 .exact⟨42,_,_,by lk,AJo hP T,T.Mm.kp,T.Ue⟩
 .exact⟨41,_,_,by lk,AOW hP T,T.RQ.kp,T.YS⟩
inductive AJa(t:Ad)(K : ξ)(vs:List V)(H:Hp)(Q:VK)(Xk:XK):Prop
 |mk:∀(L:LA) (l:e_) (n:Nat) (f : Ξ) (D:e_->Nat->D pO) (S:e_->Nat->tQ),vs=[.ref L.land,.int ((n:Nat):Int),.ref f]->fN t K f (QI t K D)->((∀e,e<l.persons.length->Wj l (D l e) (S l e)))->Good l->A0 t K H l L->(∀r H',A0 t K H' l L->Ei H H' L L->H r=none->H' r=some (.lst (outs (if n=0 then qJ (-2) else u7 l (n-1) (S l (n-1)))))->Q (.ref r) H')->AJa t K vs H Q Xk
theorem UC(hP:P.given.tree=none)(T:Txt K mg t):A2 P w K mg AG FI 43 t.Bx t.DW ["land","dead","amounts_of"] (AJa t K):=by
 have AY:=@Ls P w K mg AG t T;have AK:=@DI P w K mg AG t T;have Ao:=@Lu P w K mg AG t T;have Wi:=@AOT P w K mg AG t T;refine T.CF.ok ADh (λvs H Q E h=>?_) (λDM A AR s H vs Q E hr h=>?_)
 .obtain⟨_,_,_,_,_,_,rfl,_⟩:=h;rfl
 obtain⟨L,l,n,f,D,S,rfl,iam,amt,g,la,q⟩:=h;have hC:∀f sp,fN t K f sp->∃j fd ps,A2 P w K mg AG FI j f fd ps sp/\EI j (A.deeper (envOfC "answer_of_estate" (AN Gd) s.heap.objs.size t.Bx DM))/\sP K (.ref f)=true/\Binds K fd ps []:=λf sp h=>by obtain⟨j,fd,ps,h1,h2,h3,h4⟩:=AXA (w:=w) (AG:=AG) hP T h;exact⟨j,fd,ps,h2,hr.mono (by omega),h3,h4⟩
 refine⟨_,(AE (Bv (Gf (CD (Aj (AW K rfl (pv 0) rfl) T.AX T.A7 AY hr.m T.BI .nil AS (AA (pv 1) AF)))) (AI (AV (EV (AA (An rfl T.Bg) AF)))) Ax)
  (AE (Bv (Gf (CD (Cc (Aj (AW K rfl (pv 0) rfl) T.AX T.Ah AK hr.m T.Ai .nil AS (AA (pv 1) AF)) T.DG T.Bb Ao hr.m T.B6 .nil AS))) (AI (AV (EV (AA (An rfl T.CN) AF)))) Ax)
  (AI (AV (Af Wi hr.m rfl T.X6 T.RO.kp T.YR .nil AS (AA (ALd (C:=fN t K) (pv 2) hC (AA (pv 0) (AA (pv 1) AF))) AF)))))),?_⟩
 clear AY AK Ao Wi hC;have o1:=la.GW.obj;have o2:=la.GW.Fi.obj;have o3:=la.GW.Fi.lst;have ln:=la.GW.Fi.len
 z_go
 by_cases c1:1<=n/\n<=l.persons.length
 .rw[ζ (by rw[zqt (show 1<=((n:Nat):Int)/\((n:Nat):Int)<=((L.F.as.map V.ref).length:Int) by rw[χ,ln];omega)];exact Λ)];have hn0:¬ n=0:=by omega
  rw[ζ hn0] at q;have he:n-1<l.persons.length:=by omega
  have th:qz l (n-1)=true:=zqt he;obtain⟨b,lJ,pa,hb,h1,h2⟩:=la.GW.Fi.get he
  z_go
  refine⟨n-1,by omega,.ref b,by rw[m_,hb];rfl,?_⟩
  z_go
  unfold u7 uo at q;rw[th,ζ (by lk)] at q;cases dd:(g_ l (n-1)).died with
  |none=>rw[η (show(!!decide (Rh none=V.Es))=true from rfl)];rw[dd,η (show(none:Option Nat).isSome=false from rfl)] at q;intro p hp;obtain⟨z1,z2,z3,z4⟩:=Gy (l:=l) (xs:=[V.int (-4)]) la (.same (.refl H)) hp;exact q p _ z1 z2 z3 AD
  |some day=>rw[ζ (show¬ (!!decide (Rh (some day)=V.Es))=true by rw[zdf (show¬ Rh (some day)=V.Es from λz=>by cases z)];exact Λ)];rw[dd,ζ (show¬ (some day).isSome=false from λz=>by cases z)] at q;have am:=amt _ he;refine⟨f,rfl,⟨_,iam⟩,_,iam,?_⟩;refine⟨L,l,n-1,by rw[show n-1+1=n by omega],⟨g,la.GW,he,day,dd⟩,λr H1 kvs s1 nr TF Ym=>?_⟩;have Th:=la.same s1;refine⟨r,kvs,_,rfl,TF,Ym,am.nd,a_ am.GV (by lk),Th.SX.told,λr2 H2 d' b9 jI lN Yv pm fC=>?_⟩;have ed:=ANw am.lt am.k pm am.pm fC;obtain⟨iE,f6⟩:=AJY T Th b9 jI;rw[ed,ARG] at Yv;exact q r2 H2 iE ((Ei.same s1).AT4 f6) (s1.free lN) Yv
 .rw[η (by rw[zdf (show¬ (1<=((n:Nat):Int)/\((n:Nat):Int)<=((L.F.as.map V.ref).length:Int)) by rw[χ,ln];omega)];rfl)];intro p hp;obtain⟨z1,z2,z3,z4⟩:=Gy (l:=l) (xs:=[V.int (-2)]) la (.same (.refl H)) hp;refine q p _ z1 z2 z3 ?_;rw[AD];by_cases c2:n=0
  .rw[η c2];rfl
  .rw[ζ c2];unfold u7 qz;rw[η (zdf (show¬ n-1<l.persons.length by omega))];rfl
theorem AJq{b:Bool}(h:(!b)=false):b=true:=by cases b<;>simp_all
theorem AIY(hP:P.given.tree=none)(T:Txt K mg t):A2 P w K mg AG FI 44 t.CA t.FE ["land","numbers"] (JV t K 8):=by
 have B7:=@UC P w K mg AG t hP T;refine T.GL.ok AFg (λvs H Q E h=>?_) (λDM A AR s H vs Q E hr h=>?_)
 .obtain⟨_,_,_,_,_,rfl,_⟩:=h;rfl
 obtain⟨L,l,a,ns,c,rfl,ha,g,la,hc,na,TJ,q⟩:=h;refine⟨_,(AI (AV (Af B7 hr.m rfl T.F4 T.CF.kp T.F9 .nil AS (AA (pv 0) (AA (A9 A3 (pv 1) Ac (λ_ _=>rfl)) (AA (El rfl T.Ie) AF)))))),?_⟩;clear B7;obtain⟨x,rfl,rfl⟩:∃x,ns=[x]/\c=.byLaw x:=by
  match ns,hc with
  |[x],hc=>exact⟨x,rfl,(j_ hc).symm⟩
  |[],hc=>cases hc
  |x::y::r,hc=>cases hc
 have e0:Aq [x]=[V.int ((x:Nat):Int)]:=rfl;rw[e0] at ha;clear hc;walk_at "rf";refine⟨L,l,x,t.CU,Av,zo,rfl,(.inl ⟨rfl,rfl⟩),λe he=>AQS g he,g,la,λr H1 Th Up nr TF=>?_⟩;refine q r H1 L rfl Th Up nr (λm=>?_) TF;obtain⟨o,e,_⟩:=la.kinds m;rw[nr] at e;cases e
theorem AIW(hP:P.given.tree=none)(T:Txt K mg t):A2 P w K mg AG FI 44 t.B8 t.E9 ["land","numbers"] (JV t K 9):=by
 have B7:=@UC P w K mg AG t hP T;refine T.GJ.ok AFe (λvs H Q E h=>?_) (λDM A AR s H vs Q E hr h=>?_)
 .obtain⟨_,_,_,_,_,rfl,_⟩:=h;rfl
 obtain⟨L,l,a,ns,c,rfl,ha,g,la,hc,na,TJ,q⟩:=h;refine⟨_,(AI (AV (Af B7 hr.m rfl T.F4 T.CF.kp T.F9 .nil AS (AA (pv 0) (AA (A9 A3 (pv 1) Ac (λ_ _=>rfl)) (AA (El rfl T.UL) AF)))))),?_⟩;clear B7;obtain⟨x,rfl,rfl⟩:∃x,ns=[x]/\c=.shares x:=by
  match ns,hc with
  |[x],hc=>exact⟨x,rfl,(j_ hc).symm⟩
  |[],hc=>cases hc
  |x::y::r,hc=>cases hc
 have e0:Aq [x]=[V.int ((x:Nat):Int)]:=rfl;rw[e0] at ha;clear hc;walk_at "rf";refine⟨L,l,x,t.Km,As,qC,rfl,(.inr (.inl ⟨rfl,rfl⟩)),λe he=>AK5 g he,g,la,λr H1 Th Up nr TF=>?_⟩;refine q r H1 L rfl Th Up nr (λm=>?_) TF;obtain⟨o,e,_⟩:=la.kinds m;rw[nr] at e;cases e
theorem ALl(hP:P.given.tree=none)(T:Txt K mg t):A2 P w K mg AG FI 44 t.Ct t.HG ["land","numbers"] (JV t K 10):=by
 have B7:=@UC P w K mg AG t hP T;refine T.IM.ok AHF (λvs H Q E h=>?_) (λDM A AR s H vs Q E hr h=>?_)
 .obtain⟨_,_,_,_,_,rfl,_⟩:=h;rfl
 obtain⟨L,l,a,ns,c,rfl,ha,g,la,hc,na,TJ,q⟩:=h;refine⟨_,(AI (AV (Af B7 hr.m rfl T.F4 T.CF.kp T.F9 .nil AS (AA (pv 0) (AA (A9 A3 (pv 1) Ac (λ_ _=>rfl)) (AA (El rfl T.X7) AF)))))),?_⟩;clear B7;obtain⟨x,rfl,rfl⟩:∃x,ns=[x]/\c=.kept x:=by
  match ns,hc with
  |[x],hc=>exact⟨x,rfl,(j_ hc).symm⟩
  |[],hc=>cases hc
  |x::y::r,hc=>cases hc
 have e0:Aq [x]=[V.int ((x:Nat):Int)]:=rfl;rw[e0] at ha;clear hc;walk_at "rf";refine⟨L,l,x,t.Pd,AZ,yr,rfl,(.inr (.inr ⟨rfl,rfl⟩)),λe he=>APB g he,g,la,λr H1 Th Up nr TF=>?_⟩;refine q r H1 L rfl Th Up nr (λm=>?_) TF;obtain⟨o,e,_⟩:=la.kinds m;rw[nr] at e;cases e
theorem ALn(hP:P.given.tree=none)(T:Txt K mg t):A2 P w K mg AG FI 44 t.Cv t.HJ ["land","numbers"] (JV t K 11):=by
 have AY:=@Ls P w K mg AG t T;have ASe:=@ATE P w K mg AG t hP T;have Wi:=@AOT P w K mg AG t T;refine T.IQ.ok AHG (λvs H Q E h=>?_) (λDM A AR s H vs Q E hr h=>?_)
 .obtain⟨_,_,_,_,_,rfl,_⟩:=h;rfl
 obtain⟨L,l,a,ns,c,rfl,ha,g,la,hc,na,TJ,q⟩:=h;refine⟨_,(AE (Bv (Gf (CD (Aj (AW K rfl (pv 0) rfl) T.AX T.A7 AY hr.m T.BI .nil AS (AA (A9 A3 (pv 1) Ac (λ_ _=>rfl)) AF)))) (AI (AV (EV (AA (An rfl T.Bg) AF)))) Ax)
  (AE (Bv (Cy Yr (A9 A3 (pv 1) Ac (λ_ _=>rfl)) (An rfl T.SM) (Cn _)) (AI (AV (EV (AA (An rfl T.Kp) AF)))) Ax)
  (AI (AV (Af Wi hr.m rfl T.X6 T.RO.kp T.YR .nil AS (AA (Af ASe hr.m rfl T.AOa T.TN.kp T.AO2 .nil AS (AA (pv 0) (AA (A9 A3 (pv 1) Ac (λ_ _=>rfl)) (AA (A9 A3 (pv 1) Ac (λ_ _=>rfl)) AF)))) AF)))))),?_⟩
 clear AY ASe Wi;have o1:=la.GW.obj;have o2:=la.GW.Fi.obj;have o3:=la.GW.Fi.lst;have ln:=la.GW.Fi.len;obtain⟨x,y,rfl,rfl⟩:∃x y,ns=[x,y]/\c=.ends x y:=by
  match ns,hc with
  |[x,y],hc=>exact⟨x,y,rfl,(j_ hc).symm⟩
  |[],hc=>cases hc
  |[_],hc=>cases hc
  |_::_::_::r,hc=>cases hc
 have e0:Aq [x,y]=[V.int ((x:Nat):Int),V.int ((y:Nat):Int)]:=rfl;rw[e0] at ha;clear hc;have Wm:f_ l (.ends x y)=(l,if x=0\/qz l (x-1)=false then qJ (-2) else if 99999<y then qJ (-1) else u5 l (wu l (x-1) y)):=rfl;rw[Wm] at q;have fin:∀{p : Ξ}{v:Int},H p=none->(outs (if x=0\/qz l (x-1)=false then qJ (-2) else if 99999<y then qJ (-1) else u5 l (wu l (x-1) y))=[V.int v])->Q (.ref p) (upd H p (.lst [V.int v])):=λ{p v} hp e=>by obtain⟨z1,z2,z3,z4⟩:=Gy (l:=l) (xs:=[V.int v]) la (.same (.refl H)) hp;exact q p _ L rfl z1 z2 z3 z4 (by rw[AD,e])
 walk_at "rf";by_cases c1:1<=x/\x<=l.persons.length
 .rw[ζ (by rw[zqt (show 1<=((x:Nat):Int)/\((x:Nat):Int)<=((L.F.as.map V.ref).length:Int) by rw[χ,ln];omega)];exact Λ)];have he:x-1<l.persons.length:=by omega
  have cc:¬ (x=0\/qz l (x-1)=false):=by
   unfold qz;rw[zqt he];rintro(z|z)
   .omega
   .cases z
  rw[ζ cc] at fin q;by_cases c2:99999<y
  .rw[η (zqt (by omega))];rw[η c2] at fin;exact λp hp=>fin hp rfl
  .rw[ζ (λz=>c2 (by have:=zod z;omega))];rw[ζ c2] at q;refine⟨L,l,x-1,y,by rw[show x-1+1=x by omega],g,la.GW,he,la.SX.dead,λr H1 kvs ds jj bg nr TF Ym mO=>?_⟩;obtain⟨Th,Up⟩:=APH T la jj bg;have am:=APC g he mO;refine⟨r,kvs,_,rfl,TF,Ym,am.nd,a_ am.GV (by lk),Th.SX.told,λr2 H2 d' b9 jI lN Yv pm fC=>?_⟩;have ed:=ANw am.lt am.k pm am.pm fC;obtain⟨iE,f6⟩:=AJY T Th b9 jI;rw[ed,ARG] at Yv;have n0:=Up.al _ lN;refine q r2 H2 L rfl iE (Up.AT4 f6) n0 (λm=>?_) Yv;obtain⟨o,e,_⟩:=la.kinds m;rw[n0] at e;cases e
 .rw[η (by rw[zdf (show¬ (1<=((x:Nat):Int)/\((x:Nat):Int)<=((L.F.as.map V.ref).length:Int)) by rw[χ,ln];omega)];rfl)];have cc:x=0\/qz l (x-1)=false:=by
   by_cases z:x=0
   .exact .inl z
   .exact .inr (zdf (show¬ x-1<l.persons.length by omega))
  rw[η cc] at fin;exact λp hp=>fin hp rfl
theorem AHY(T:Txt K mg t):A2 P w K mg AG FI 9 t.Be t.EM ["land","numbers"] (JV t K 12):=by
 have AY:=@Ls P w K mg AG t T;have ABN:=@ATB P w K mg AG t T;refine T.FW.ok ABd (λvs H Q E h=>?_) (λDM A AR s H vs Q E hr h=>?_)
 .obtain⟨_,_,_,_,_,rfl,_⟩:=h;rfl
 obtain⟨L,l,a,ns,c,rfl,ha,g,la,hc,na,TJ,q⟩:=h;refine⟨_,(AE (Bv (PW.pt (Pq (Gf (CD (Aj (AW K rfl (pv 0) rfl) T.AX T.A7 AY hr.m T.BI .nil AS (AA (A9 A3 (pv 1) Ac (λ_ _=>rfl)) AF)))) (O6 (Gf (CD (Aj (AW K rfl (pv 0) rfl) T.AX T.A7 AY hr.m T.BI .nil AS (AA (A9 A3 (pv 1) Ac (λ_ _=>rfl)) AF))))))) (AI (AV (EV (AA (An rfl T.Bg) AF)))) Ax)
  (AE (Al (i:=2) ABd.nd rfl (qh rfl) (Af ABN hr.m rfl T.AAx T.D8.kp T.AA3 .nil AS (AA (AW K rfl (pv 0) rfl) (AA (A9 A3 (pv 1) Ac (λ_ _=>rfl)) (AA (A9 A3 (pv 1) Ac (λ_ _=>rfl)) AF)))))
  (AE (Bv (KI (ARD (pv 2))) (AI (AV (EV (AA (An rfl T.AD7) AF)))) Ax)
  (AI (AV (F0 ARI (EV (AA (An rfl T.Qs) AF)) (Ju (AI8 K rfl) rfl T.SO Rc (AA (pv 2) AF)))))))),?_⟩
 clear AY ABN;have o1:=la.GW.obj;have o2:=la.GW.Fi.obj;have o3:=la.GW.Fi.lst;have ln:=la.GW.Fi.len;obtain⟨x,y,rfl,rfl⟩:∃x y,ns=[x,y]/\c=.related x y:=by
  match ns,hc with
  |[x,y],hc=>exact⟨x,y,rfl,(j_ hc).symm⟩
  |[],hc=>cases hc
  |[_],hc=>cases hc
  |_::_::_::r,hc=>cases hc
 have e0:Aq [x,y]=[V.int ((x:Nat):Int),V.int ((y:Nat):Int)]:=rfl;rw[e0] at ha;clear hc;have kk:∀n:Nat,decide (1<=((n:Nat):Int)/\((n:Nat):Int)<=((L.F.as.map V.ref).length:Int))=IF l n:=λn=>by unfold IF;rw[χ,ln];exact decide_eq_decide.mpr (by omega)
 walk_at "rf";have Wm:f_ l (.related x y)=(l,if x=0\/y=0\/qz l (x-1)=false\/qz l (y-1)=false then qJ (-2) else match wO l (x-1) (y-1) with
  |none=>qJ (-6)
  |some z=>⟨0,Si49.ints [z.1+1,z.2.1,z.2.2]⟩):=rfl
 rw[Wm] at q;have knz:∀n:Nat,IF l n = !decide (n=0\/qz l (n-1)=false):=λn=>by rw[qV];unfold IF qz;simp only[decide_eq_true_eq,v5,decide_eq_false_iff_not];omega
 have bad:(x=0\/y=0\/qz l (x-1)=false\/qz l (y-1)=false)->∀(p : Ξ),H p=none->Q (V.ref p) (upd H p (HO.lst [V.int (-2)])):=λc p hp=>by obtain⟨z1,z2,z3,z4⟩:=Gy (l:=l) (xs:=[V.int (-2)]) la (.same (.refl H)) hp;refine q p _ L rfl z1 z2 z3 z4 ?_;rw[AD,η c];rfl
 cases c1:IF l x with
 |false=>
  rw[η (show(!false)=true from rfl)];refine bad ?_;rw[knz] at c1;have:=zod (AJq c1:decide (x=0\/qz l (x-1)=false)=true);rcases this with z|z
  .exact .inl z
  .exact .inr (.inr (.inl z))
 |true=>
  rw[ζ (show¬ (!true)=true from Λ)];cases c2:IF l y with
  |false=>
   rw[η (show(!false)=true from rfl)];refine bad ?_;rw[knz] at c2;have:=zod (AJq c2:decide (y=0\/qz l (y-1)=false)=true);rcases this with z|z
   .exact .inr (.inl z)
   .exact .inr (.inr (.inr z))
  |true=>
   rw[ζ (show¬ (!true)=true from Λ)];have k1:1<=x/\x<=l.persons.length:=zod c1;have k2:1<=y/\y<=l.persons.length:=zod c2;have cc:¬ (x=0\/y=0\/qz l (x-1)=false\/qz l (y-1)=false):=by
    unfold qz;rw[zqt (show x-1<l.persons.length by omega),zqt (show y-1<l.persons.length by omega)];rintro(z|z|z|z)
    .omega
    .omega
    .cases z
    .cases z
   rw[ζ cc] at q;refine⟨L.F,l,x-1,y-1,by rw[show x-1+1=x by omega,show y-1+1=y by omega],g,la.GW.Fi,by omega,by omega,la.SX.near,λrn H1 jj bg=>?_,λpp aa bb rn r H1 jj bg nr TF=>?_⟩
   .show if decide (V.Es=V.Es)=true then _ else _;rw[η (zqt rfl)];intro p hp;obtain⟨Th,Up⟩:=AJZ T la jj bg;obtain⟨z1,z2,z3,z4⟩:=Gy (l:=l) (xs:=[V.int (-6)]) Th Up hp;refine q p _ L rfl z1 z2 z3 z4 ?_;rw[AD,rn];rfl
   .show if decide (V.ref r=V.Es)=true then _ else _;rw[ζ (by rw[zdf (show¬ V.ref r=V.Es from λz=>by cases z)];exact Λ)];intro p hp;obtain⟨Th,Up⟩:=AJZ T la jj bg;have s2:AM H1 (upd H1 p (HO.lst [V.int 0])):=AM.new hp;refine⟨r,rfl,_,.inr (J1.of (s2 _ _ TF)),λp2 W0=>?_⟩;have s3:=AM.new (o:=HO.lst [V.int (((pp+1:Nat)):Int),V.int ((aa:Nat):Int),V.int ((bb:Nat):Int)]) W0;refine⟨[V.int 0],s3 _ _ AD,by show 1+3<=pY;decide,λp3 jU=>?_⟩;have s23:=s2.trans s3;obtain⟨z1,z2,z3,z4⟩:=Gy (l:=l) (xs:=[V.int 0]++[V.int (((pp+1:Nat)):Int),V.int ((aa:Nat):Int),V.int ((bb:Nat):Int)]) (Th.same s23) (Up.ALB s23) jU;refine q p3 _ L rfl z1 z2 z3 z4 ?_;rw[AD,rn];rfl
set_option exponentiation.threshold 256
def bL(K : ξ)(H:Hp)(a : Ξ)(xs:List V):Prop:=(∃o,H a=some (.DK o (.lst xs))) \/
 ∃(o:sR) (Bc:Array Δ) (n:Nat),K.lookup a=some o/\o.cls=.type "list" /\ o.dict=none/\o.data=.seq Bc n/\Bc.size<=pY/\Vals xs Bc.toList
theorem bL.sq{H:Hp}{a : Ξ}{xs:List V}(h:bL K H a xs):Er K H a xs:=by
 rcases h with⟨o,h⟩|h
 .exact .inl (.inr ⟨o,h⟩)
 .exact .inr h
theorem bL.same{H H':Hp}{a : Ξ}{xs:List V}(h:bL K H a xs)(s:AM H H'):bL K H' a xs:=by
 rcases h with⟨o,h⟩|h
 .exact .inl ⟨o,s _ _ h⟩
 .exact .inr h
theorem bL.step{H H':Hp}{a : Ξ}{xs:List V}{l:e_}{L L':LA}(h:bL K H a xs)(A:A0 t K H l L)(st:Ei H H' L L'):bL K H' a xs:=by
 rcases h with⟨o,h⟩|h
 .refine .inl ⟨o,st.kp _ _ h trivial λm=>?_⟩;obtain⟨o',e,z⟩:=A.kinds m;rw[h] at e;cases e;exact z
 .exact .inr h
noncomputable def fB (t:Ad):List (Int × Δ):=[(0,.ref t.CB),(1,.ref t.Df),(2,.ref t.B9),(3,.ref t.Cw),(4,.ref t.CQ),(5,.ref t.Cs),(6,.ref t.BV),(7,.ref t.Cu),(8,.ref t.CA),(9,.ref t.B8),(10,.ref t.Ct),(11,.ref t.Cv),(12,.ref t.Be)]
def cP(t:Ad)(K : ξ)(f : Ξ)(sp:Sp):Prop:=∃k:Nat,WJ (fB t) (k:Int)=some (.ref f)/\sp=JV t K k
theorem AVo(hP:P.given.tree=none)(T:Txt K mg t){f : Ξ}{sp:Sp}(h:cP t K f sp):∃j fd ps,j<=44/\A2 P w K mg AG FI j f fd ps sp/\sP K (.ref f)=true/\Binds K fd ps []:=by
 obtain⟨k,e,rfl⟩:=h
 match k,e with
 |0,e=>cases e;exact⟨5,_,_,by lk,AIZ T,T.GN.kp,T.ACK⟩
 |1,e=>cases e;exact⟨3,_,_,by lk,ANJ T,T.JO.kp,T.AD8⟩
 |2,e=>cases e;exact⟨4,_,_,by lk,AIX T,T.GK.kp,T.ACI⟩
 |3,e=>cases e;exact⟨3,_,_,by lk,ALo T,T.IS.kp,T.ADT⟩
 |4,e=>cases e;exact⟨4,_,_,by lk,AKY T,T.G3.kp,T.ACh⟩
 |5,e=>cases e;exact⟨3,_,_,by lk,ALk T,T.IL.kp,T.ADP⟩
 |6,e=>cases e;exact⟨4,_,_,by lk,AGY T,T.EZ.kp,T.ABL⟩
 |7,e=>cases e;exact⟨38,_,_,by lk,ALm hP T,T.IP.kp,T.ADR⟩
 |8,e=>cases e;exact⟨44,_,_,by lk,AIY hP T,T.GL.kp,T.ACJ⟩
 |9,e=>cases e;exact⟨44,_,_,by lk,AIW hP T,T.GJ.kp,T.ACH⟩
 |10,e=>cases e;exact⟨44,_,_,by lk,ALl hP T,T.IM.kp,T.ADQ⟩
 |11,e=>cases e;exact⟨44,_,_,by lk,ALn hP T,T.IQ.kp,T.ADS⟩
 |12,e=>cases e;exact⟨9,_,_,by lk,AHY T,T.FW.kp,T.ABl⟩
 |k+13,e=>
  exfalso;have:WJ (fB t) (((k+13:Nat)):Int)=none:=by
   unfold WJ fB;rw[List.find?_eq_none.mpr]
   .rfl
   .intro x hx;simp only[pM,rO,or_false] at hx;rcases hx with rfl|rfl|rfl|rfl|rfl|rfl|rfl|rfl|rfl|rfl|rfl|rfl|rfl<;>(simp;omega)
  rw[this] at e;cases e
theorem AMN(dn rs:List C):flat (dn++rs)=flat dn++flat rs:=by
 unfold flat
 rw[List.flatMap_append]
theorem AOZ:∀{l:List Int},(∀z∈l,0<=z)->∃ns:List Nat,l=ns.map λn=>((n:Nat):Int)
 |[],_=>⟨[],rfl⟩
 |z::l,h=>by obtain⟨ns,e⟩:=AOZ (l:=l) λx hx=>h x (θ _ hx);have:=h z (υ ..);exact⟨z.toNat::ns,by rw[e,k_,Int.toNat_of_nonneg this]⟩
def outI(a:zG):List Int:=a.v::a.l
theorem AQt{l:e_}{c:C}{k:Nat}{ns:List Nat}{q:uH}(e1:c.1=((k:Nat):Int))(e2:c.2=ns.map λn=>((n:Nat):Int))(h:WV (k::ns)=some q)(rs:List C):
  run l (c::rs)=(((outI (f_ l q).2).length:Nat):Int)::(outI (f_ l q).2++run (f_ l q).1 rs):=by
 have hs:sj l [c.1::c.2]=((f_ l q).1,outI (f_ l q).2):=by
  unfold sj;have:uL (([c.1::c.2]:List (List Int)).headD [])=some q:=by rw[e1,e2];exact h
  rw[this];rfl
 show((sj l [c.1::c.2]).2.length:Int)::((sj l [c.1::c.2]).2++run (sj l [c.1::c.2]).1 rs)=_;rw[hs]
theorem ASS{pre post:List Int}{z i:Int}(h:i=(pre.length:Int)):WY ((pre++z::post).map V.int) i=some (.int z):=by refine at_of h ?_;rw[m_,sY (b_ _),wU];rfl
theorem ATs{pre mid post:List Int}{i j:Int}(hi:i=(pre.length:Int))(hj:j=((pre.length+mid.length:Nat):Int)):WT ((pre++(mid++post)).map V.int) (some i) (some j)=mid.map V.int:=by
 unfold WT;subst hi hj;rw[HT.U6,HT.U6];have l1:((pre++(mid++post)).map V.int).length=pre.length+(mid.length+post.length):=by rw[χ,pP,pP]
 rw[l1,wI (by omega),wI (by omega),<-List.map_drop,List.drop_left,<-yE,Nat.add_sub_cancel_left,List.take_left]
theorem AOS(l:e_)(s:tQ):(u5 l s).l.length=3*s.length:=by
 show(s.flatMap λx=>[if x.1<l.persons.length then(x.1:Int)+1 else 0,(x.2.n:Int),(x.2.d:Int)]).length=_
 induction s with
 |nil=>rfl
 |cons x s ih=>rw[tX,pP,ih,o_];show 3+3*s.length=3*(s.length+1);omega
theorem R5{l:e_}{e m:Nat}{s:tQ}(h:s.length<=17):(u7 l e s).l.length<=51:=by
 unfold u7;split
 .simp[qJ]
 .split
  .simp[qJ]
  .rw[AOS];omega
theorem ATz{l:e_}(g:Good l)(c:uH):(f_ l c).2.l.length<=51:=by
 cases c with
 |begins=>simp[f_,qJ]
 |law s k b=>unfold f_;dsimp only;split<;>simp[qJ]
 |person a b=>
  unfold f_;dsimp only
  repeat' split
  all_goals simp[qJ]
 |dies i d=>
  unfold f_;dsimp only
  repeat' split
  all_goals simp[qJ]
 |marry i j=>
  unfold f_;dsimp only
  repeat' split
  all_goals simp[qJ]
 |part i=>
  unfold f_;dsimp only
  repeat' split
  all_goals simp[qJ]
 |renounce i j=>
  unfold f_;dsimp only
  repeat' split
  all_goals simp[qJ]
 |gift a b c d e=>
  unfold f_;dsimp only
  repeat' split
  all_goals simp[qJ]
 |byLaw e=>
  show(if e=0 then qJ (-2) else u7 l (e-1) (zo l (e-1))).l.length<=51;split
  .simp[qJ]
  .exact R5 (m:=0) (a_ (Oi g _).2.2 (by lk))
 |shares e=>
  show(if e=0 then qJ (-2) else u7 l (e-1) (qC l (e-1))).l.length<=51;split
  .simp[qJ]
  .exact R5 (m:=0) (a_ (Q6 g _).len (by lk))
 |kept e=>
  show(if e=0 then qJ (-2) else u7 l (e-1) (yr l (e-1))).l.length<=51;split
  .simp[qJ]
  .exact R5 (m:=0) (a_ (YE g _).len (by lk))
 |ends e d=>
  show(if e=0\/qz l (e-1)=false then qJ (-2) else if 99999<d then qJ (-1) else u5 l (wu l (e-1) d)).l.length<=51;split
  .simp[qJ]
  .split
   .simp[qJ]
   .rw[AOS];have:(wu l (e-1) d).length<=17:=by
     unfold wu;split
     .simp
     .split
      .simp
      .exact(ATp g _ _ _).len
    omega
 |related i j=>
  show(if i=0\/j=0\/qz l (i-1)=false\/qz l (j-1)=false then qJ (-2) else match wO l (i-1) (j-1) with
   |none=>qJ (-6)
   |some x=>⟨0,Si49.ints [x.1+1,x.2.1,x.2.2]⟩:zG).l.length<=51
  split
  .simp[qJ]
  .split
   .simp[qJ]
   .simp[Si49.ints]
theorem ASM{k:Nat}{ns:List Nat}{c:uH}(h:WV (k::ns)=some c):k<13:=by unfold WV uL at h;rw[ALt] at h;refine Nat.lt_of_not_le λhk=>?_;obtain⟨j,rfl⟩:=Nat.exists_eq_add_of_le' hk;cases h
def Zg(n:Nat)(σ:L2.St):Nat:=match σ[3]? with
 |some (some (V.int i))=>n-i.toNat
 |_=>0
theorem ARb(t:Ad){k:Nat}(h:k<13):∃f,WJ (fB t) (k:Int)=some (.ref f):=by
 match k,h with
 |0,_=>exact⟨_,rfl⟩
 |1,_=>exact⟨_,rfl⟩
 |2,_=>exact⟨_,rfl⟩
 |3,_=>exact⟨_,rfl⟩
 |4,_=>exact⟨_,rfl⟩
 |5,_=>exact⟨_,rfl⟩
 |6,_=>exact⟨_,rfl⟩
 |7,_=>exact⟨_,rfl⟩
 |8,_=>exact⟨_,rfl⟩
 |9,_=>exact⟨_,rfl⟩
 |10,_=>exact⟨_,rfl⟩
 |11,_=>exact⟨_,rfl⟩
 |12,_=>exact⟨_,rfl⟩
 |k+13,h=>omega
inductive AG9(t:Ad)(K : ξ)(vs:List V)(H:Hp)(Q:VK)(Xk:XK):Prop
 |mk:∀a cs,vs=[.ref a]->bL K H a ((flat cs).map V.int)->cs.length<=100->(∀c∈cs,Ask c)->bK t H->(∀p H',H' p=some (.lst ((run ve cs).map V.int))->Q (.ref p) H')->AG9 t K vs H Q Xk
theorem ANI(hP:P.given.tree=none)(T:Txt K mg t):A2 P w K mg AG FI 45 t.Ih t.HE ["calls"] (AG9 t K):=by
 have AGS:=@AKW P w K mg AG t T;refine T.NB.ok Ga (λvs H Q E h=>?_) (λDM A AR s H vs Q E hr h=>?_)
 .obtain⟨_,_,rfl,_⟩:=h;rfl
 obtain⟨a,cs,rfl,ha,AYI,dB,tb,q⟩:=h;have hC:∀f sp,cP t K f sp->∃j fd ps,A2 P w K mg AG FI j f fd ps sp/\EI j (A.deeper (envOfC "answers" (AN Q8) s.heap.objs.size t.Ih DM))/\sP K (.ref f)=true/\Binds K fd ps []:=λf sp h=>by obtain⟨j,fd,ps,h1,h2,h3,h4⟩:=AVo (w:=w) (AG:=AG) hP T h;exact⟨j,fd,ps,h2,hr.mono (by omega),h3,h4⟩
 refine⟨_,(AE (Al (i:=1) Ga.nd rfl (qh rfl) (Vx T.X4 AGS hr.m rfl T.AOb T.AFO .nil AS))
  (AE (Al (i:=2) Ga.nd rfl (qh rfl) (EV AF))
  (AE (Al (i:=3) Ga.nd rfl (qh rfl) Ac)
  (AE (Vr qA (Cy AUM (pv 3) (CO (OB K rfl) rfl T.Ks IV (AA (pv 0) AF)) (Cn _)) (AE (Al (i:=4) Ga.nd rfl (qh rfl) (F0 O9 (pv 3) Ac))
   (AE (Al (i:=5) Ga.nd rfl (qh rfl) (F0 O9 (pv 4) (A9 (S9 K rfl) (pv 0) (F0 O9 (pv 3) Ac) (λ_ _=>rfl))))
   (AE (Al (i:=6) Ga.nd rfl (qh rfl) (AS6 (T.AOl _ _) (El rfl T.AO0) (A9 (S9 K rfl) (pv 0) (pv 3) (λ_ _=>rfl)) (λ_ _=>rfl)))
   (AE (Al (i:=7) Ga.nd rfl (qh rfl) (ALd (C:=cP t K) (pv 6) hC (AA (pv 1) (AA (Vv (Vg K rfl) (pv 0) (VB (pv 4)) (VB (pv 5))) AF))))
   (AE (FN (Vz rV tM tL OV (pv 2) (AA (CO FH rfl T.Ks IV (AA (pv 7) AF)) AF)))
   (AE (FN (Vz rV PySem.F.slot_list_extend PySem.F.type_list_extend APf (pv 2) (AA (pv 7) AF)))
   (AI (Al (i:=3) Ga.nd rfl (qh rfl) (F0 O9 (pv 5) Ac))))))))))
  (AI (AV (pv 2))))))),?_⟩
 clear AGS hC;unfold AEn;walk_at "rf";intro x dx hx ZE nd;refine⟨tb.same (AM.make hx ZE nd),λH1 L0 eL la0 kp gr p hp=>?_⟩;have WL:bL K H1 a ((flat cs).map V.int):=by
  rcases ha with⟨o,h⟩|h
  .refine .inl ⟨o,kp a _ ?_ (AO h hx)⟩;rw[AH (AO h hx),AH (AO h ZE)];exact h
  .exact .inr h
 have s1:AM H1 (upd H1 p (HO.lst [])):=AM.new hp;refine VY (λσ H=>∃(dn rs:List C) (L:LA) (l:e_) (acc:List Int) (o4 o5 o6 o7:Option V),cs=dn++rs/\σ=[some (.ref a),some (.ref x),some (.ref p),some (.int ((flat dn).length:Nat)),o4,o5,o6,o7]/\L.land=x/\A0 t K H l L/\Good l/\p∉GX L/\H p=some (.lst (acc.map V.int))/\run ve cs=acc++run l rs/\acc.length<=60*dn.length/\bL K H a ((flat cs).map V.int))
  (λσ _=>Zg (flat cs).length σ)
  ⟨[],cs,L0,ve,[],none,none,none,none,rfl,rfl,eL,la0.same s1,AJ5,VE la0 hp,AD,rfl,qG _,WL.same s1⟩ ?_ ?_
 .rintro σ H2 ⟨dn,rs,L,l,acc,o4,o5,o6,o7,ecs,rfl,eL',la,g,np,hacc,erun,hlen,hsq⟩;refine⟨a,rfl,_,.inl hsq.sq,_,_,rfl,rfl,_,rfl,?_⟩;rw[χ];cases rs with
  |nil=>rw[ζ (by rw[ecs,rC];intro h;have:=zod h;omega)];refine q p H2 ?_;rw[erun];show H2 p=some (.lst ((acc++[]).map V.int));rw[rC];exact hacc
  |cons c rs=>
   have mL:flat cs=flat dn++(c.1::(c.2.length:Int)::(c.2++(0::flat rs))):=by rw[ecs,AMN,AP6]
   have Na:((flat dn).length:Int)<((flat cs).length:Int):=by rw[mL,pP,o_];omega
   rw[η (zqt Na)];have cin:c∈cs:=by rw[ecs];exact p9 _ (υ ..)
   have ask:=dB c cin;obtain⟨ns,mK⟩:=AOZ λz hz=>(ask.ns z hz).1;obtain⟨k,ek⟩:∃k:Nat,c.1=(k:Int):=⟨c.1.toNat,by have:=ask.p0;omega⟩
   obtain⟨cl,aF⟩:∃cl,WV (k::ns)=some cl:=by have:=ask.AV9;rw[ek,mK] at this;exact uB.mp this
   have k7:k<13:=ASM aF;obtain⟨f,hf⟩:=ARb t k7;have AYE:WY ((flat cs).map V.int) ((flat dn).length:Nat)=some (.int c.1):=by rw[mL];exact ASS rfl
   have AYD:WY ((flat cs).map V.int) (((flat dn).length:Nat)+1)=some (.int (c.2.length:Int)):=by
    have e:flat dn++(c.1::(c.2.length:Int)::(c.2++(0::flat rs)))=(flat dn++[c.1])++((c.2.length:Int)::(c.2++(0::flat rs))):=by simp
    rw[mL,e];exact ASS (by rw[pP];rfl)
   have AYB:WT ((flat cs).map V.int) (some (((flat dn).length:Nat)+2)) (some (((flat dn).length:Nat)+2+(c.2.length:Int)))=Aq ns:=by
    have e:flat dn++(c.1::(c.2.length:Int)::(c.2++(0::flat rs)))=(flat dn++[c.1,(c.2.length:Int)])++(c.2++(0::flat rs)):=by simp
    rw[mL,e,ATs (by rw[pP];rfl) (by rw[pP];show _=(((flat dn).length+2+c.2.length:Nat):Int);omega),mK];unfold Aq;rw[p6];rfl
   refine⟨_,_,rfl,rfl,?_⟩;refine⟨_,_,rfl,rfl,a,_,_,_,rfl,rfl,hsq.sq,AYD,_,_,rfl,rfl,?_⟩;refine⟨a,_,_,_,rfl,rfl,hsq.sq,AYE,c.1,.ref f,.ref f,rfl,rfl,by rw[ek];exact hf,rfl,?_⟩;refine⟨f,rfl,⟨_,k,hf,rfl⟩,_,rfl,_,rfl,a,_,rfl,hsq.sq,λp2 W0=>⟨_,⟨k,hf,rfl⟩,?_⟩⟩;rw[AYB];have s2:AM H2 (upd H2 p2 (HO.lst (Aq ns))):=AM.new W0;have iE:=la.same s2;refine⟨L,l,p2,ns,cl,by rw[eL'],AD,g,iE,aF,VE la W0,(λn hn=>by have hz:=ask.ns ((n:Nat):Int) (by rw[mK];exact Θ.mpr ⟨n,hn,rfl⟩);omega),λr H3 L3 eL3 la3 st hr nr eK=>?_⟩
   have np3:p∉GX L3:=λm=>by
    rcases st.gr p m with z|z
    .exact np z
    .rw[s2 _ _ hacc] at z;cases z
   have aH:H3 p=some (.lst (acc.map V.int)):=st.kp _ _ (s2 _ _ hacc) trivial np;have nM:r≠p:=λe=>by rw[e,s2 _ _ hacc] at hr;cases hr
   have hl51:=ATz g cl;have hdn:dn.length<100:=by rw[ecs,pP,o_] at AYI;omega
   have AWf:(outs (f_ l cl).2).length=(outI (f_ l cl).2).length:=by unfold outs outI;rw[χ]
   have hol:(outI (f_ l cl).2).length<=52:=by unfold outI;rw[o_];omega
   refine⟨.inl ⟨rfl,_,Er.of aH⟩,r,rfl,_,eK,p,_,_,rfl,rfl,aH,(by rw[χ];exact pN (show acc.length<=6000 by omega) (by lk)),?_⟩;refine⟨.inl ⟨rfl,_,Er.of AD⟩,p,r,_,_,rfl,rfl,AD,(by rw[AH nM];exact eK),(by rw[pP,χ,tD,AWf];exact a_ (show acc.length+1+(outI (f_ l cl).2).length<=7000 by omega) (by lk)),?_⟩;rw[Q5];refine⟨_,_,rfl,rfl,?_⟩;have Wm:=Ei.AQq s2 st;have la4:A0 t K (upd H3 p (.lst (acc.map V.int++[V.int ((outs (f_ l cl).2).length:Nat)]++outs (f_ l cl).2))) (f_ l cl).1 L3:=la3.write aH np3;have AXm:=hsq.step la Wm;have AXl:bL K (upd H3 p (.lst (acc.map V.int++[V.int ((outs (f_ l cl).2).length:Nat)]++outs (f_ l cl).2))) a ((flat cs).map V.int):=by
    rcases AXm with⟨o,h⟩|h
    .exact .inl ⟨o,by rw[AH (D5 h aH (by intro z;cases z))];exact h⟩
    .exact .inr h
   have efd:flat (dn++[c])=flat dn++(c.1::(c.2.length:Int)::(c.2++[0])):=by rw[AMN];show flat dn++(Yz c++[])=_;rw[rC];rfl
   have AYM:(flat (dn++[c])).length=(flat dn).length+(c.2.length+3):=by rw[efd,pP,o_,o_,pP,tD]
   refine⟨⟨dn++[c],rs,L3,(f_ l cl).1,acc++(((outI (f_ l cl).2).length:Nat):Int)::outI (f_ l cl).2,some (.int ((((flat dn).length:Nat):Int)+2)),some (.int ((((flat dn).length:Nat):Int)+2+(c.2.length:Int))),some (.ref f),some (.ref r),by rw[ecs];simp,?_,eL3.trans eL',la4,AP5 g cl,np3,?_,?_,?_,AXl⟩,?_⟩
   .have e:(((flat dn).length:Nat):Int)+2+(c.2.length:Int)+1=(((flat (dn++[c])).length:Nat):Int):=by rw[AYM];omega
    rw[<-e];rfl
   .rw[AD,AWf];unfold outs outI;simp
   .rw[erun,AQt ek mK aF];simp
   .rw[pP,pP,o_,tD];omega
   .show Zg (flat cs).length [some (V.ref a),some (V.ref x),some (V.ref p),some (V.int ((((flat dn).length:Nat):Int)+2+(c.2.length:Int)+1)),some (.int ((((flat dn).length:Nat):Int)+2)),some (.int ((((flat dn).length:Nat):Int)+2+(c.2.length:Int))),some (.ref f),some (.ref r)]<Zg (flat cs).length [some (V.ref a),some (V.ref x),some (V.ref p),some (V.int (((flat dn).length:Nat):Int)),o4,o5,o6,o7];show(flat cs).length-((((flat dn).length:Nat):Int)+2+(c.2.length:Int)+1).toNat<(flat cs).length-((((flat dn).length:Nat):Int)).toNat
    omega
 .intro σ H Q Q' hq h;obtain⟨v,e,h⟩:=Tz h;obtain⟨v0,e0,p,e1,ys,h1,i,j,e2,e3,k,e4,q⟩:=Tz h;exact Tw e (Tw e0 ⟨p,e1,ys,h1,i,j,e2,e3,k,e4,hq _ _ q⟩)
end
end Hx
namespace L2
open PySem PySem.Spec PyProof.Rows
open PySem.W (WData Codec OpenSpec Well WellAll ReadsW ReadsAllW)
def AQW(K : ξ)(ts:List Ξ):Bool:=ts.all λP=>(K.lookup P).isNone&&K.any λq=>tF K q.1 P
theorem ASl{K : ξ}{ts:List Ξ}{h:qM}(e:AQW K ts=true)(KX:K.In h)(ht:∀P∈ts,h.get? P=some (w4 #[])):∀P∈ts,h.get? P=some {cls:=.none,data:=.fields #[]}/\K.lookup P=none/\isCodeTable h P:=λP hP=>by have e1:=tK.mp e P hP;rw[qm] at e1;obtain⟨q,_,hq⟩:=uc.mp e1.2;exact⟨ht P hP,Option.isNone_iff_eq_none.mp e1.1,((PySem.W.codeHd_of_K KX hq).tab (ht P hP)).isCodeTable⟩
theorem AMm{r:zI}{k:Nat}{q:pQ}{loose:List qf}{XP:(qf->Option Δ)->qM->Prop}{d:DefRec}{K:yU -> ξ}{as:List Ξ}{e:∀P,as=(K P).map (·.1)}{ts:List Ξ}{CX:Y6}{ps:List qf}{sp:List Ξ -> ξ -> Sp}
  (Yt:r.wellSaid=true) (hi:importsNone q=true) (l9:d.params.defaults=[]) (hlen:r.args.length=ps.length) (hr:EI k callerA)
  (hTK:∀p:yU,AQW (K p) ts=true)
  (F:∀(w:qt) (mg:qf->Option Δ) (fa : Ξ) (h:qM),(K w.params).In h->h.Ns h_ mg->mg d.name=some (.ref fa) ->
   ∃fd:tE,(∀(s : Ω) (us:List Δ),us.length=ps.length->wY s fd ⟨us,[]⟩ (ps.zip us)) /\
    ∀AG:qM,(K w.params).In AG->AG.Ns h_ mg->A2 r.prog w (K w.params) mg AG CX k fa fd ps (sp ts (K w.params)))
  (Yu:∀(K : ξ) (H:Hp) (xs:List V) (a:vC r.args),Wg ts H->ya r.args a=true->wZ r.args r.asked a=true->K2 K H xs (vm r.args a) ->
   sp ts K xs H (λv H'=>Dw K H' v (r.ret.enc (wZ r.args r.f a))) λ_ _ _=>False)
  (ir:∀(H:Hp) (s : Ω) (e : Δ) (s' : Ω),CX [] H s (λ_ _ _=>False) e s'->False):
  yi q loose XP (PySem.W.kmHook K as e ts).says r d [] (λf vs=>zv f vs):=
 AMn (K:=K) (CX:=CX) (sp:=sp ts) Yt hi l9 hlen hr (λw h Y=>PySem.W.km_in_of Y) ts (λw h Y=>ASl (hTK w.params) (PySem.W.km_in_of Y) (PySem.W.km_tabs_of Y)) (λw mg fa h _=>F w mg fa h) Yu ir
end L2
namespace Hx
open PySem PySem.Spec PyProof.Rows L2
inductive Z7(ts:List Ξ)(K : ξ)(vs:List V)(H:Hp)(Q:VK)(Xk:XK):Prop
 |mk:∀(a : Ξ) (ns:List Int),vs=[.ref a]->Wg ts H->Er K H a (ns.map V.int)->ns.length<=3000->wz ns=true->(∀(H':Hp) (p : Ξ),H' p=some (.lst ((ye ns).map V.int))->Q (.ref p) H')->Z7 ts K vs H Q Xk
theorem AUn{K : ξ}{H:Hp}{a : Ξ}{xs:List V}{ts:List Ξ}(hO:Wg ts H)(h:Er K H a xs):bL K H a xs:=by
 rcases h with(h|⟨o,h⟩)|h
 .rcases hO a with⟨_,z⟩|⟨_,z|⟨o,u,z⟩⟩
  .rw[h] at z;cases z
  .rw[h] at z;cases z
  .rw[h] at z;cases z
 .exact .inl ⟨o,h⟩
 .exact .inr h
theorem ok_all{P:pQ}{w:qt}{K : ξ}{mg:qf->Option Δ}{AG:qM}{t:Ad}{ts:List Ξ}(hP:P.given.tree=none)(T:Txt K mg t)(ht:t.BZ∈ts/\t.HV∈ts/\t.HU∈ts):A2 P w K mg AG FI 60 t.Ih t.HE ["calls"] (Z7 ts K):=by
 refine((ANI (w:=w) (AG:=AG) hP T).imp λvs H Q E h=>?_).mono (by decide);obtain⟨a,ns,rfl,hO,hs,hl,dB,q⟩:=h;obtain⟨cs,e1,e2,e3,e4⟩:=ANl dB;subst e1;have one:∀{P pos q},P∈ts->Hg H P pos q:=λ{P pos q} hp=>by
  rcases hO P with⟨_,z⟩|⟨n,_⟩
  .exact .inl z
  .exact absurd hp n
 refine⟨a,cs,rfl,AUn hO hs,e3,e4,⟨one ht.1,one ht.2.1,one ht.2.2⟩,λp H' hp=>q H' p ?_⟩;rw[e2];exact hp
theorem fin{P:pQ}{w:qt}{K : ξ}{mg:qf->Option Δ}{ts:List Ξ}{fa : Ξ}(hP:P.given.tree=none)(kI:mg "answers" = some (.ref fa))
  (T:∃t:Ad,Txt K mg t/\(∀(s : Ω) (us:List Δ),us.length=(["calls"]:List qf).length->wY s t.HE ⟨us,[]⟩ ((["calls"]:List qf).zip us))/\t.BZ∈ts/\t.HV∈ts/\t.HU∈ts):
  ∃fd:tE,(∀(s : Ω) (us:List Δ),us.length=(["calls"]:List qf).length->wY s fd ⟨us,[]⟩ ((["calls"]:List qf).zip us))/\∀AG:qM,K.In AG->AG.Ns h_ mg->A2 P w K mg AG FI 60 fa fd ["calls"] (Z7 ts K):=by
 obtain⟨t,T,hb,ht⟩:=T;have e0:=kI.symm.trans T.AHb;cases e0;exact⟨t.HE,hb,λAG _ _=>ok_all hP T ht⟩
end Hx
namespace L2
open PySem PySem.Spec PyProof.Rows
theorem BX.bto{K : ξ}{x qual:qf}{st:qX}{f : Ξ}{fd:tE}{ps:List qf}(F:BX K x qual st f fd)
  (h:∀(kV doc pm : Δ) (an:Option Ξ) (DM ct : Δ) (us:List Δ),us.length=ps.length->bindArgs (vf x qual (TX st) (Pe st) (AN st) .none kV doc pm an DM ct) ⟨us,[]⟩=pure (ps.zip us)) (s : Ω) (us:List Δ) (hu:us.length=ps.length):wY s fd ⟨us,[]⟩ (ps.zip us):=by
 obtain⟨oc,od,kV,doc,pm,an,DM,ct,bP,rfl,lk,WK⟩:=F.ex;exact .of_eq (h kV doc pm an DM ct us hu)
end L2
namespace Hx
open PySem PySem.Spec PyProof.Rows L2
open PySem.W in
theorem AUe{K:Frag}{mg:qf->Option Δ}{h:qM}(X:K.In h)(G:h.Ns h_ mg)
  {Au Aa JP Ay CS EH CJ Fx C5 B0 CG Fz Ed Cb C7 B4 B3 DV C8 BS CI DU Ec Fy C6 DR CY Jj Fv C4 SJ Pc Pa LS LR PZ ND By C3 Jk Eb Fw Gs CZ CH Bj BB BL Ca Bk Ft CU Dz Ea NC Pd Km SK IU BR DT Gr D3 DS IT Gu CB Pb Df B9 Cw CQ Cs BV Cu SI Bx CA B8 Ct Cv Be Ih Ip P0 BW Br BG BF BE BD BC Rg : Ξ}{HL Dt Ce DC HN GU DZ Dv Ci Cg Cf Dy Bq DF ER GS HM Du EL B5 LV HC Dr UW RX RV Mp Mn RT Og Cd Dq LW GQ HD Ik DX DE CL Ba Bf DY CM HB E7 E8 GP Oe UX Of UY Jx Bp EO Ij FG EN Jw Il FF RW Ii FD HK GR HF Ds HH Qm DW FE E9 HG HJ EM HE:tE}
  {ASk:xF}{AIP:xF}{AEk:xF}{ACz:xF}{ACV:xF}{AMs:xF}{AFd:xF}{AG4:xF}{APD:xF}{AGU:xF}{AK7:xF}{AKO AKN:xF}{ANK:Option Ξ}{APg:Nat}{AM8:Array (Option Δ)}{AQU AQT:xF}{AVA:Option Ξ}{AWW:Nat}{AUr:Array (Option Δ)}{AEl:xF}{AMt:xF}{ACy:xF}{AB1 AB0:xF}{ACn:Option Ξ}{AC7:Nat}{ACk:Array (Option Δ)}{ABt:Option Ξ}{AB4:Nat}{ABr:Array (Option Δ)}{AAu AAt:xF}{ABH:Option Ξ}{ABW:Nat}{ABC:Array (Option Δ)}{AAs AAr:xF}{ABG:Option Ξ}{ABV:Nat}{ABB:Array (Option Δ)}{AAq AAp:xF}{ABF:Option Ξ}{ABU:Nat}{ABA:Array (Option Δ)}{AAo AAn:xF}{ABE:Option Ξ}{ABT:Nat}{AA9:Array (Option Δ)}{AAm AAl:xF}{ABD:Option Ξ}{ABS:Nat}{AA8:Array (Option Δ)}{AIO:xF}{AM3 AM2 AM1 AM0 AMz AMy AMx AMw AMv AMu ALA AK9 AK8:xF}{AR7:Nat}{ts:List Ξ}{PV LD : Ξ}{AND : Δ}{ANd:Option Ξ}{AG2:Array Δ}{AM4:Array (Option Δ)}{VN RB : Ξ}{AS8 : Δ}{ATr:Option Ξ}{ANs:Array Δ}{ASo:Array (Option Δ)}{VM RA : Ξ}{AS7 : Δ}{ATq:Option Ξ}{ANr:Array Δ}{ASn:Array (Option Δ)}
  (Um:nsIn K h_ "Person" = some (some (.ref Au)))
  (DG:Tj K Au)
  (KP:findIn K (.ref Au) "parents" = some none)
  (Gg:findIn K (.ref Au) "day_of_death" = some none)
  (LG:findIn K (.ref Au) "spouse" = some none)
  (Uo:nsIn K h_ "Family" = some (some (.ref Aa)))
  (AX:Tj K Aa)
  (KQ:findIn K (.ref Aa) "persons" = some none)
  (JC:findIn K (.ref Aa) "renounced" = some none)
  (Z1:nsIn K h_ "Law" = some (some (.ref JP)))
  (WU:Tj K JP)
  (MI:findIn K (.ref JP) "steps_in" = some none)
  (LH:findIn K (.ref JP) "kept_part" = some none)
  (JB:findIn K (.ref JP) "spouse_parts" = some none)
  (Wf:nsIn K h_ "Lines" = some (some (.ref Ay)))
  (D9:Tj K Ay)
  (MH:findIn K (.ref Ay) "family" = some none)
  (PB:findIn K (.ref Ay) "law" = some none)
  (N2:findIn K (.ref Ay) "dead" = some none)
  (JA:findIn K (.ref Ay) "live_above" = some none)
  (Yb:nsIn K h_ "Gift" = some (some (.ref CS)))
  (Ng:Tj K CS)
  (N4:findIn K (.ref CS) "giver" = some none)
  (PD:findIn K (.ref CS) "whom" = some none)
  (MK:findIn K (.ref CS) "instead" = some none)
  (MJ:findIn K (.ref CS) "portion" = some none)
  (We:nsIn K h_ "Wills" = some (some (.ref EH)))
  (NG:Tj K EH)
  (M3:findIn K (.ref EH) "gifts" = some none)
  (YZ:nsIn K h_ "Land" = some (some (.ref CJ)))
  (Im:Tj K CJ)
  (QW:findIn K (.ref CJ) "law" = some none)
  (M4:findIn K (.ref CJ) "family" = some none)
  (N3:findIn K (.ref CJ) "wills" = some none)
  (UJ:Mk K Au Fx)
  (Ke:BX K "__init__" "Person.__init__" Ny Fx HL)
  (Bb:Meth K Au "has_died" C5)
  (Gk:BX K "has_died" "Person.has_died" J9 C5 Dt)
  (Em:Meth K Au "has_died_by" B0)
  (En:BX K "has_died_by" "Person.has_died_by" Hy B0 Ce)
  (Di:Meth K Au "is_married" CG)
  (FY:BX K "is_married" "Person.is_married" Iv CG DC)
  (UK:Mk K Aa Fz)
  (Kg:BX K "__init__" "Family.__init__" N1 Fz HN)
  (A7:Meth K Aa "knows" Ed)
  (JT:BX K "knows" "Family.knows" My Ed GU)
  (F3:Meth K Aa "knows_two" Cb)
  (F7:BX K "knows_two" "Family.knows_two" Ja Cb DZ)
  (Ah:Meth K Aa "numbered" C7)
  (Gp:BX K "numbered" "Family.numbered" KC C7 Dv)
  (BQ:Meth K Aa "all_numbers" B4)
  (Ep:BX K "all_numbers" "Family.all_numbers" IA B4 Ci)
  (HX:Meth K Aa "children_of" B3)
  (Eo:BX K "children_of" "Family.children_of" Hz B3 Cg)
  (KZ:Meth K Aa "dead_by" DV)
  (Hs:BX K "dead_by" "Family.dead_by" LB DV Cf)
  (DN:Meth K Aa "may_take" C8)
  (Gq:BX K "may_take" "Family.may_take" KD C8 Dy)
  (Fq:Meth K Aa "may_be_parents" BS)
  (De:BX K "may_be_parents" "Family.may_be_parents" GC BS Bq)
  (ID:Meth K Aa "add_person" CI)
  (Fb:BX K "add_person" "Family.add_person" Iz CI DF)
  (KY:Meth K Aa "let_die" DU)
  (Hr:BX K "let_die" "Family.let_die" K9 DU ER)
  (MM:Meth K Aa "marry" Ec)
  (JS:BX K "marry" "Family.marry" Mx Ec GS)
  (M7:Meth K Aa "part" Fy)
  (Kf:BX K "part" "Family.part" Nz Fy HM)
  (Je:Meth K Aa "renounce" C6)
  (Gm:BX K "renounce" "Family.renounce" KA C6 Du)
  (La:nsIn K h_ "generations_up" = some (some (.ref DR)))
  (Cz:BX K "generations_up" "generations_up" K5 DR EL)
  (Jo:nsIn K h_ "nearest_ancestor" = some (some (.ref CY)))
  (D8:BX K "nearest_ancestor" "nearest_ancestor" JX CY B5)
  (SS:nsIn K h_ "is_close" = some (some (.ref Jj)))
  (Lz:BX K "is_close" "is_close" Ru Jj LV)
  (OF:nsIn K h_ "may_be_told" = some (some (.ref Fv)))
  (EY:BX K "may_be_told" "may_be_told" Nn Fv HC)
  (Kw:nsIn K h_ "in_lowest_terms" = some (some (.ref C4)))
  (Bw:BX K "in_lowest_terms" "in_lowest_terms" J7 C4 Dr)
  (Zx:nsIn K h_ "plus" = some (some (.ref SJ)))
  (PY:BX K "plus" "plus" ZR SJ UW)
  (YY:nsIn K h_ "minus" = some (some (.ref Pc)))
  (Kd:BX K "minus" "minus" Xd Pc RX)
  (YW:nsIn K h_ "times" = some (some (.ref Pa)))
  (Ly:BX K "times" "times" Xb Pa RV)
  (Uk:nsIn K h_ "divided" = some (some (.ref LS)))
  (Ji:BX K "divided" "divided" T6 LS Mp)
  (Uj:nsIn K h_ "is_more" = some (some (.ref LR)))
  (IK:BX K "is_more" "is_more" T5 LR Mn)
  (YV:nsIn K h_ "total" = some (some (.ref PZ)))
  (Lw:BX K "total" "total" Xa PZ RT)
  (Wd:nsIn K h_ "add_to" = some (some (.ref ND)))
  (G9:BX K "add_to" "add_to" Vk ND Og)
  (IY:nsIn K h_ "add_in_equal_parts" = some (some (.ref By)))
  (CK:BX K "add_in_equal_parts" "add_in_equal_parts" Hw By Cd)
  (Kv:nsIn K h_ "without_nothing" = some (some (.ref C3)))
  (DO:BX K "without_nothing" "without_nothing" J6 C3 Dq)
  (X3:Mk K JP Jk)
  (Nc:BX K "__init__" "Law.__init__" Rv Jk LW)
  (NL:nsIn K h_ "law_at_first" = some (some (.ref Eb)))
  (G2:BX K "law_at_first" "law_at_first" Mv Eb GQ)
  (OG:nsIn K h_ "law_may_say" = some (some (.ref Fw)))
  (IJ:BX K "law_may_say" "law_may_say" Np Fw HD)
  (V9:Mk K Ay Gs)
  (Lm:BX K "__init__" "Lines.__init__" O3 Gs Ik)
  (JG:Meth K Ay "live_lines" CZ)
  (F5:BX K "live_lines" "Lines.live_lines" JY CZ DX)
  (FT:Meth K Ay "stepping_in" CH)
  (FZ:BX K "stepping_in" "Lines.stepping_in" Iw CH DE)
  (EE:Meth K Ay "parents_among" Bj)
  (EF:BX K "parents_among" "Lines.parents_among" HR Bj CL)
  (EW:Meth K Ay "one_generation_on" BB)
  (C1:BX K "one_generation_on" "Lines.one_generation_on" Ew BB Ba)
  (Ex:Meth K Ay "class_that_takes" BL)
  (DJ:BX K "class_that_takes" "Lines.class_that_takes" Fl BL Bf)
  (JH:Meth K Ay "give_above" Ca)
  (F6:BX K "give_above" "Lines.give_above" JZ Ca DY)
  (Gi:Meth K Ay "give_to_lines" Bk)
  (EG:BX K "give_to_lines" "Lines.give_to_lines" HS Bk CM)
  (OE:nsIn K h_ "spouse_part" = some (some (.ref Ft)))
  (II:BX K "spouse_part" "spouse_part" Nm Ft HB)
  (MO:nsIn K h_ "shared_by_law" = some (some (.ref CU)))
  (DP:BX K "shared_by_law" "shared_by_law" L8 CU E7)
  (MP:nsIn K h_ "given_by_will" = some (some (.ref Dz)))
  (GI:BX K "given_by_will" "given_by_will" MA Dz E8)
  (NK:nsIn K h_ "made_greater" = some (some (.ref Ea)))
  (G1:BX K "made_greater" "made_greater" Mu Ea GP)
  (Wb:nsIn K h_ "wished" = some (some (.ref NC)))
  (Od:BX K "wished" "wished" Vi NC Oe)
  (Zy:nsIn K h_ "kept" = some (some (.ref Pd)))
  (RQ:BX K "kept" "kept" ZS Pd UX)
  (Wc:nsIn K h_ "shares" = some (some (.ref Km)))
  (Mm:BX K "shares" "shares" Vj Km Of)
  (Zz:nsIn K h_ "ends" = some (some (.ref SK)))
  (TN:BX K "ends" "ends" ZT SK UY)
  (X5:Mk K CS IU)
  (Mf:BX K "__init__" "Gift.__init__" QM IU Jx)
  (Fp:Meth K CS "names_persons_of" BR)
  (Dd:BX K "names_persons_of" "Gift.names_persons_of" GB BR Bp)
  (KW:Meth K CS "who_takes" DT)
  (Hq:BX K "who_takes" "Gift.who_takes" K8 DT EO)
  (V8:Mk K EH Gr)
  (Ll:BX K "__init__" "Wills.__init__" O2 Gr Ij)
  (Ic:Meth K EH "will_of" D3)
  (Ig:BX K "will_of" "Wills.will_of" MF D3 FG)
  (KU:Meth K EH "add_gift" DS)
  (Ho:BX K "add_gift" "Wills.add_gift" K7 DS EN)
  (X4:Mk K CJ IT)
  (Me:BX K "__init__" "Land.__init__" QL IT Jw)
  (Lj:Meth K CJ "begin" Gu)
  (Ln:BX K "begin" "Land.begin" O4 Gu Il)
  (MT:nsIn K h_ "answer_begins" = some (some (.ref CB)))
  (GN:BX K "answer_begins" "answer_begins" ME CB FF)
  (YX:nsIn K h_ "pairs" = some (some (.ref Pb)))
  (Qi:BX K "pairs" "pairs" Xc Pb RW)
  (Pj:nsIn K h_ "answer_law" = some (some (.ref Df)))
  (JO:BX K "answer_law" "answer_law" O1 Df Ii)
  (MR:nsIn K h_ "answer_person" = some (some (.ref B9)))
  (GK:BX K "answer_person" "answer_person" MC B9 FD)
  (OM:nsIn K h_ "answer_dies" = some (some (.ref Cw)))
  (IS:BX K "answer_dies" "answer_dies" Nv Cw HK)
  (NN:nsIn K h_ "answer_marry" = some (some (.ref CQ)))
  (G3:BX K "answer_marry" "answer_marry" Mw CQ GR)
  (OH:nsIn K h_ "answer_part" = some (some (.ref Cs)))
  (IL:BX K "answer_part" "answer_part" Nq Cs HF)
  (Ky:nsIn K h_ "answer_renounce" = some (some (.ref BV)))
  (EZ:BX K "answer_renounce" "answer_renounce" J8 BV Ds)
  (OJ:nsIn K h_ "answer_gift" = some (some (.ref Cu)))
  (IP:BX K "answer_gift" "answer_gift" Nt Cu HH)
  (Zw:nsIn K h_ "told" = some (some (.ref SI)))
  (RO:BX K "told" "told" ZQ SI Qm)
  (Jp:nsIn K h_ "answer_of_estate" = some (some (.ref Bx)))
  (CF:BX K "answer_of_estate" "answer_of_estate" Gd Bx DW)
  (MS:nsIn K h_ "answer_by_law" = some (some (.ref CA)))
  (GL:BX K "answer_by_law" "answer_by_law" MD CA FE)
  (MQ:nsIn K h_ "answer_shares" = some (some (.ref B8)))
  (GJ:BX K "answer_shares" "answer_shares" MB B8 E9)
  (OI:nsIn K h_ "answer_kept" = some (some (.ref Ct)))
  (IM:BX K "answer_kept" "answer_kept" Nr Ct HG)
  (OL:nsIn K h_ "answer_ends" = some (some (.ref Cv)))
  (IQ:BX K "answer_ends" "answer_ends" Nu Cv HJ)
  (Lb:nsIn K h_ "answer_related" = some (some (.ref Be)))
  (FW:BX K "answer_related" "answer_related" K6 Be EM)
  (Ul:nsIn K h_ "answers" = some (some (.ref Ih)))
  (NB:BX K "answers" "answers" Q8 Ih HE)
  (Za:nsIn K h_ "DONE" = some (some (.int (0) ASk)))
  (PJ:nsIn K h_ "BAD_NUMBER" = some (some (.int (-1) AIP)))
  (LJ:nsIn K h_ "NO_SUCH_PERSON" = some (some (.int (-2) AEk)))
  (JF:nsIn K h_ "RENOUNCED_ALREADY" = some (some (.int (-3) ACz)))
  (HW:nsIn K h_ "NOT_AS_THINGS_STAND" = some (some (.int (-4) ACV)))
  (UE:nsIn K h_ "NO_ROOM" = some (some (.int (-5) AMs)))
  (ML:nsIn K h_ "MORE_THAN_ALL" = some (some (.int (-6) AFd)))
  (N6:nsIn K h_ "NO_ANCESTOR" = some (some (.int (-6) AG4)))
  (V6:nsIn K h_ "NOBODY" = some (some (.int (0) APD)))
  (M6:nsIn K h_ "MOST_PERSONS" = some (some (.int (16) AGU)))
  (R7:nsIn K h_ "LAST_DAY" = some (some (.int (99999) AK7)))
  (UG:nsIn K h_ "NOTHING" = some (some (.ref Ip)))
  (UN:K.lookup Ip=some ⟨.type "tuple",ANK,.seq #[.int (0) AKO,.int (1) AKN] APg,AM8⟩)
  (cG:nsIn K h_ "ALL" = some (some (.ref P0)))
  (cK:K.lookup P0=some ⟨.type "tuple",AVA,.seq #[.int (1) AQU,.int (1) AQT] AWW,AUr⟩)
  (LK:nsIn K h_ "GREATEST_BELOW" = some (some (.int (100) AEl)))
  (UH:nsIn K h_ "CLASSES" = some (some (.int (5) AMt)))
  (JE:nsIn K h_ "STEPS_IN_AT_FIRST" = some (some (.int (1) ACy)))
  (IC:nsIn K h_ "KEPT_PART_AT_FIRST" = some (some (.ref BW)))
  (IE:K.lookup BW=some ⟨.type "tuple",ACn,.seq #[.int (1) AB1,.int (2) AB0] AC7,ACk⟩)
  (GF:nsIn K h_ "SPOUSE_PARTS_AT_FIRST" = some (some (.ref Br)))
  (GH:K.lookup Br=some ⟨.type "tuple",ABt,.seq #[.ref BG,.ref BF,.ref BE,.ref BD,.ref BC] AB4,ABr⟩)
  (E5:K.lookup BG=some ⟨.type "tuple",ABH,.seq #[.int (1) AAu,.int (4) AAt] ABW,ABC⟩)
  (E4:K.lookup BF=some ⟨.type "tuple",ABG,.seq #[.int (1) AAs,.int (2) AAr] ABV,ABB⟩)
  (E3:K.lookup BE=some ⟨.type "tuple",ABF,.seq #[.int (3) AAq,.int (4) AAp] ABU,ABA⟩)
  (Ez:K.lookup BD=some ⟨.type "tuple",ABE,.seq #[.int (1) AAo,.int (1) AAn] ABT,AA9⟩)
  (Ey:K.lookup BC=some ⟨.type "tuple",ABD,.seq #[.int (1) AAm,.int (1) AAl] ABS,AA8⟩)
  (PF:nsIn K h_ "MOST_GIFTS" = some (some (.int (10) AIO)))
  (Xz:nsIn K h_ "CALLS" = some (some (.ref Rg)))
  (YD:K.lookup Rg=some ⟨.type "dict",none,.dict #[⟨0,.int 0 AM3,.ref CB⟩,⟨1,.int 1 AM2,.ref Df⟩,⟨2,.int 2 AM1,.ref B9⟩,⟨3,.int 3 AM0,.ref Cw⟩,⟨4,.int 4 AMz,.ref CQ⟩,⟨5,.int 5 AMy,.ref Cs⟩,⟨6,.int 6 AMx,.ref BV⟩,⟨7,.int 7 AMw,.ref Cu⟩,⟨8,.int 8 AMv,.ref CA⟩,⟨9,.int 9 AMu,.ref B8⟩,⟨10,.int 10 ALA,.ref Ct⟩,⟨11,.int 11 AK9,.ref Cv⟩,⟨12,.int 12 AK8,.ref Be⟩] AR7,#[]⟩)
  (bY:nsIn K h_ "all" = some none)
  (ZI:nsIn K h_ "dict" = some none)
  (bX:nsIn K h_ "len" = some none)
  (ZH:nsIn K h_ "list" = some none)
  (bW:nsIn K h_ "min" = some none)
  (XO:nsIn K h_ "range" = some none)
  (Rp:nsIn K h_ "reversed" = some none)
  (VW:nsIn K h_ "sorted" = some none)
  (Rz:Cf.code=.ref PV)
  (AHl:K.lookup PV=some ⟨AND,ANd,.fields AG2,AM4⟩)
  (AHK:AG2[11]?=some (.ref LD))
  (Ry:codeHdIn K PV LD=true)
  (Rx:LD∈ts)
  (Xl:B5.code=.ref VN)
  (AOg:K.lookup VN=some ⟨AS8,ATr,.fields ANs,ASo⟩)
  (AOH:ANs[11]?=some (.ref RB))
  (Xi:codeHdIn K VN RB=true)
  (Xg:RB∈ts)
  (Xj:Qm.code=.ref VM)
  (AOf:K.lookup VM=some ⟨AS7,ATq,.fields ANr,ASn⟩)
  (AOG:ANr[11]?=some (.ref RA))
  (Xh:codeHdIn K VM RA=true)
  (Xf:RA∈ts)
  (qn:LD≠RB/\LD≠RA/\RB≠RA)
  : ∃t:Ad,Txt K mg t/\(∀(s : Ω) (us:List Δ),us.length=(["calls"]:List qf).length->wY s t.HE ⟨us,[]⟩ ((["calls"]:List qf).zip us))/\t.BZ∈ts/\t.HV∈ts/\t.HU∈ts:=
 ⟨{Au,Aa,JP,Ay,CS,EH,CJ,Fx,HL,C5,Dt,B0,Ce,CG,DC,Fz,HN,Ed,GU,Cb,DZ,C7,Dv,B4,Ci,B3,Cg,DV,Cf,C8,Dy,BS,Bq,CI,DF,DU,ER,Ec,GS,Fy,HM,C6,Du,DR,EL,CY,B5,Jj,LV,Fv,HC,C4,Dr,SJ,UW,Pc,RX,Pa,RV,LS,Mp,LR,Mn,PZ,RT,ND,Og,By,Cd,C3,Dq,Jk,LW,Eb,GQ,Fw,HD,Gs,Ik,CZ,DX,CH,DE,Bj,CL,BB,Ba,BL,Bf,Ca,DY,Bk,CM,Ft,HB,CU,E7,Dz,E8,Ea,GP,NC,Oe,Pd,UX,Km,Of,SK,UY,IU,Jx,BR,Bp,DT,EO,Gr,Ij,D3,FG,DS,EN,IT,Jw,Gu,Il,CB,FF,Pb,RW,Df,Ii,B9,FD,Cw,HK,CQ,GR,Cs,HF,BV,Ds,Cu,HH,SI,Qm,Bx,DW,CA,FE,B8,E9,Ct,HG,Cv,HJ,Be,EM,Ih,HE,Ip,P0,BW,Br,BG,BF,BE,BD,BC,Rg,UQ:=PV,BZ:=LD,Zl:=VN,HV:=RB,WI:=VM,HU:=RA},{
  DG,
  AJt:=qW X G Um,
  ABg:=KP,
  Gh:=Gg,
  AB2:=LG,
  AX,
  AJu:=qW X G Uo,
  KS:=KQ,
  AAw:=JC,
  WU,
  Zb:=qW X G Z1,
  ACZ:=MI,
  LI:=LH,
  JD:=JB,
  D9,
  ALz:=qW X G Wf,
  ACY:=MH,
  AEt:=PB,
  N5:=N2,
  D6:=JA,
  Ng,
  AOc:=qW X G Yb,
  AD3:=N4,
  AEu:=PD,
  ACa:=MK,
  G0:=MJ,
  NG,
  ALy:=qW X G We,
  M5:=M3,
  Im,
  AOb:=qW X G YZ,
  Lv:=QW,
  IB:=M4,
  Li:=N3,
  UJ,
  Ke,
  ADU:=Ke.binds (λ_ _ _ _ _ _=>z2z λ_ _=>rfl),
  Bb,
  Gk,
  B6:=Gk.binds (λ_ _ _ _ _ _=>z1z λ_=>rfl),
  Em,
  En,
  Hf:=En.binds (λ_ _ _ _ _ _=>z2z λ_ _=>rfl),
  Di,
  FY,
  Fd:=FY.binds (λ_ _ _ _ _ _=>z1z λ_=>rfl),
  UK,
  Kg,
  ADW:=Kg.binds (λ_ _ _ _ _ _=>z1z λ_=>rfl),
  A7,
  JT,
  BI:=JT.binds (λ_ _ _ _ _ _=>z2z λ_ _=>rfl),
  F3,
  F7,
  JJ:=F7.binds (λ_ _ _ _ _ _=>z3z λ_ _ _=>rfl),
  Ah,
  Gp,
  Ai:=Gp.binds (λ_ _ _ _ _ _=>z2z λ_ _=>rfl),
  BQ,
  Ep,
  Bl:=Ep.binds (λ_ _ _ _ _ _=>z1z λ_=>rfl),
  HX,
  Eo,
  AAa:=Eo.binds (λ_ _ _ _ _ _=>z2z λ_ _=>rfl),
  KZ,
  Hs,
  ABp:=Hs.binds (λ_ _ _ _ _ _=>z2z λ_ _=>rfl),
  DN,
  Gq,
  Eh:=Gq.binds (λ_ _ _ _ _ _=>z3z λ_ _ _=>rfl),
  Fq,
  De,
  AAM:=De.binds (λ_ _ _ _ _ _=>z3z λ_ _ _=>rfl),
  ID,
  Fb,
  AAi:=Fb.binds (λ_ _ _ _ _ _=>z3z λ_ _ _=>rfl),
  KY,
  Hr,
  ABo:=Hr.binds (λ_ _ _ _ _ _=>z3z λ_ _ _=>rfl),
  MM,
  JS,
  ACi:=JS.binds (λ_ _ _ _ _ _=>z3z λ_ _ _=>rfl),
  M7,
  Kf,
  ADV:=Kf.binds (λ_ _ _ _ _ _=>z2z λ_ _=>rfl),
  Je,
  Gm,
  ABM:=Gm.binds (λ_ _ _ _ _ _=>z3z λ_ _ _=>rfl),
  Hl:=qW X G La,
  Cz,
  Ht:=Cz.binds (λ_ _ _ _ _ _=>z2z λ_ _=>rfl),
  AAx:=qW X G Jo,
  D8,
  AA3:=D8.binds (λ_ _ _ _ _ _=>z3z λ_ _ _=>rfl),
  AGM:=qW X G SS,
  Lz,
  AGQ:=Lz.binds (λ_ _ _ _ _ _=>z3z λ_ _ _=>rfl),
  Ka:=qW X G OF,
  EY,
  Kr:=EY.binds (λ_ _ _ _ _ _=>z1z λ_=>rfl),
  EX:=qW X G Kw,
  Bw,
  Eg:=Bw.binds (λ_ _ _ _ _ _=>z2z λ_ _=>rfl),
  VH:=qW X G Zx,
  PY,
  VR:=PY.binds (λ_ _ _ _ _ _=>z2z λ_ _=>rfl),
  OW:=qW X G YY,
  Kd,
  Oj:=Kd.binds (λ_ _ _ _ _ _=>z2z λ_ _=>rfl),
  QY:=qW X G YW,
  Ly,
  Qu:=Ly.binds (λ_ _ _ _ _ _=>z2z λ_ _=>rfl),
  PL:=qW X G Uk,
  Ji,
  Pf:=Ji.binds (λ_ _ _ _ _ _=>z2z λ_ _=>rfl),
  M8:=qW X G Uj,
  IK,
  NJ:=IK.binds (λ_ _ _ _ _ _=>z2z λ_ _=>rfl),
  QX:=qW X G YV,
  Lw,
  Qt:=Lw.binds (λ_ _ _ _ _ _=>z1z λ_=>rfl),
  LM:=qW X G Wd,
  G9,
  LY:=G9.binds (λ_ _ _ _ _ _=>z3z λ_ _ _=>rfl),
  HY:=qW X G IY,
  CK,
  HZ:=CK.binds (λ_ _ _ _ _ _=>z3z λ_ _ _=>rfl),
  Jf:=qW X G Kv,
  DO,
  Jm:=DO.binds (λ_ _ _ _ _ _=>z1z λ_=>rfl),
  X3,
  Nc,
  Qv:=Nc.binds (λ_ _ _ _ _ _=>z4z λ_ _ _ _=>rfl),
  ACc:=qW X G NL,
  G2,
  ACg:=G2.binds (λ_ _ _ _ _ _=>z0z rfl),
  AC6:=qW X G OG,
  IJ,
  ADO:=IJ.binds (λ_ _ _ _ _ _=>z2z λ_ _=>rfl),
  V9,
  Lm,
  AEA:=Lm.binds (λ_ _ _ _ _ _=>z4z λ_ _ _ _=>rfl),
  JG,
  F5,
  AA4:=F5.binds (λ_ _ _ _ _ _=>z1z λ_=>rfl),
  FT,
  FZ,
  IX:=FZ.binds (λ_ _ _ _ _ _=>z3z λ_ _ _=>rfl),
  EE,
  EF,
  Gx:=EF.binds (λ_ _ _ _ _ _=>z3z λ_ _ _=>rfl),
  EW,
  C1,
  AAA:=C1.binds (λ_ _ _ _ _ _=>z2z λ_ _=>rfl),
  Ex,
  DJ,
  AAI:=DJ.binds (λ_ _ _ _ _ _=>z1z λ_=>rfl),
  JH,
  F6,
  AA5:=F6.binds (λ_ _ _ _ _ _=>z3z λ_ _ _=>rfl),
  Gi,
  EG,
  AAV:=EG.binds (λ_ _ _ _ _ _=>z2z λ_ _=>rfl),
  AC5:=qW X G OE,
  II,
  ADN:=II.binds (λ_ _ _ _ _ _=>z3z λ_ _ _=>rfl),
  Ie:=qW X G MO,
  DP,
  Io:=DP.binds (λ_ _ _ _ _ _=>z2z λ_ _=>rfl),
  AB3:=qW X G MP,
  GI,
  ACG:=GI.binds (λ_ _ _ _ _ _=>z2z λ_ _=>rfl),
  ACb:=qW X G NK,
  G1,
  ACf:=G1.binds (λ_ _ _ _ _ _=>z1z λ_=>rfl),
  AJs:=qW X G Wb,
  Od,
  AKG:=Od.binds (λ_ _ _ _ _ _=>z2z λ_ _=>rfl),
  X7:=qW X G Zy,
  RQ,
  YS:=RQ.binds (λ_ _ _ _ _ _=>z2z λ_ _=>rfl),
  UL:=qW X G Wc,
  Mm,
  Ue:=Mm.binds (λ_ _ _ _ _ _=>z2z λ_ _=>rfl),
  AOa:=qW X G Zz,
  TN,
  AO2:=TN.binds (λ_ _ _ _ _ _=>z3z λ_ _ _=>rfl),
  X5,
  Mf,
  AFP:=Mf.binds (λ_ _ _ _ _ _=>z5z λ_ _ _ _ _=>rfl),
  Fp,
  Dd,
  AAL:=Dd.binds (λ_ _ _ _ _ _=>z2z λ_ _=>rfl),
  KW,
  Hq,
  ABn:=Hq.binds (λ_ _ _ _ _ _=>z2z λ_ _=>rfl),
  V8,
  Ll,
  AD9:=Ll.binds (λ_ _ _ _ _ _=>z1z λ_=>rfl),
  Ic,
  Ig,
  LZ:=Ig.binds (λ_ _ _ _ _ _=>z2z λ_ _=>rfl),
  KU,
  Ho,
  ABm:=Ho.binds (λ_ _ _ _ _ _=>z3z λ_ _ _=>rfl),
  X4,
  Me,
  AFO:=Me.binds (λ_ _ _ _ _ _=>z1z λ_=>rfl),
  Lj,
  Ln,
  OC:=Ln.binds (λ_ _ _ _ _ _=>z1z λ_=>rfl),
  AFm:=qW X G MT,
  GN,
  ACK:=GN.binds (λ_ _ _ _ _ _=>z2z λ_ _=>rfl),
  ALx:=qW X G YX,
  Qi,
  AMb:=Qi.binds (λ_ _ _ _ _ _=>z1z λ_=>rfl),
  AIc:=qW X G Pj,
  JO,
  AD8:=JO.binds (λ_ _ _ _ _ _=>z2z λ_ _=>rfl),
  AFk:=qW X G MR,
  GK,
  ACI:=GK.binds (λ_ _ _ _ _ _=>z2z λ_ _=>rfl),
  AHg:=qW X G OM,
  IS,
  ADT:=IS.binds (λ_ _ _ _ _ _=>z2z λ_ _=>rfl),
  AGZ:=qW X G NN,
  G3,
  ACh:=G3.binds (λ_ _ _ _ _ _=>z2z λ_ _=>rfl),
  AHc:=qW X G OH,
  IL,
  ADP:=IL.binds (λ_ _ _ _ _ _=>z2z λ_ _=>rfl),
  AEM:=qW X G Ky,
  EZ,
  ABL:=EZ.binds (λ_ _ _ _ _ _=>z2z λ_ _=>rfl),
  AHe:=qW X G OJ,
  IP,
  ADR:=IP.binds (λ_ _ _ _ _ _=>z2z λ_ _=>rfl),
  X6:=qW X G Zw,
  RO,
  YR:=RO.binds (λ_ _ _ _ _ _=>z1z λ_=>rfl),
  F4:=qW X G Jp,
  CF,
  F9:=CF.binds (λ_ _ _ _ _ _=>z3z λ_ _ _=>rfl),
  AFl:=qW X G MS,
  GL,
  ACJ:=GL.binds (λ_ _ _ _ _ _=>z2z λ_ _=>rfl),
  AFj:=qW X G MQ,
  GJ,
  ACH:=GJ.binds (λ_ _ _ _ _ _=>z2z λ_ _=>rfl),
  AHd:=qW X G OI,
  IM,
  ADQ:=IM.binds (λ_ _ _ _ _ _=>z2z λ_ _=>rfl),
  AHf:=qW X G OL,
  IQ,
  ADS:=IQ.binds (λ_ _ _ _ _ _=>z2z λ_ _=>rfl),
  AEv:=qW X G Lb,
  FW,
  ABl:=FW.binds (λ_ _ _ _ _ _=>z2z λ_ _=>rfl),
  AHb:=qW X G Ul,
  NB,
  ANk:=NB.binds (λ_ _ _ _ _ _=>z1z λ_=>rfl),
  Qs:=⟨_,qW X G Za⟩,
  Kp:=⟨_,qW X G PJ⟩,
  Bg:=⟨_,qW X G LJ⟩,
  AA2:=⟨_,qW X G JF⟩,
  CN:=⟨_,qW X G HW⟩,
  Uc:=⟨_,qW X G UE⟩,
  ACe:=⟨_,qW X G ML⟩,
  AD7:=⟨_,qW X G N6⟩,
  Fc:=⟨_,qW X G V6⟩,
  ADK:=⟨_,qW X G M6⟩,
  SM:=⟨_,qW X G R7⟩,
  Jy:=qW X G UG,
  AJ1:=Ox UN (by show 2<=pY;decide) (.cons ⟨_,rfl⟩ (.cons ⟨_,rfl⟩ .nil)),
  XI:=qW X G cG,
  AUP:=Ox cK (by show 2<=pY;decide) (.cons ⟨_,rfl⟩ (.cons ⟨_,rfl⟩ .nil)),
  ACE:=⟨_,qW X G LK⟩,
  RZ:=⟨_,qW X G UH⟩,
  AA1:=⟨_,qW X G JE⟩,
  AAh:=qW X G IC,
  AAe:=Ox IE (by show 2<=pY;decide) (.cons ⟨_,rfl⟩ (.cons ⟨_,rfl⟩ .nil)),
  AAR:=qW X G GF,
  AAO:=Ox GH (by show 5<=pY;decide) (.cons rfl (.cons rfl (.cons rfl (.cons rfl (.cons rfl .nil))))),
  AAG:=Ox E5 (by show 2<=pY;decide) (.cons ⟨_,rfl⟩ (.cons ⟨_,rfl⟩ .nil)),
  AAF:=Ox E4 (by show 2<=pY;decide) (.cons ⟨_,rfl⟩ (.cons ⟨_,rfl⟩ .nil)),
  AAE:=Ox E3 (by show 2<=pY;decide) (.cons ⟨_,rfl⟩ (.cons ⟨_,rfl⟩ .nil)),
  AAD:=Ox Ez (by show 2<=pY;decide) (.cons ⟨_,rfl⟩ (.cons ⟨_,rfl⟩ .nil)),
  AAC:=Ox Ey (by show 2<=pY;decide) (.cons ⟨_,rfl⟩ (.cons ⟨_,rfl⟩ .nil)),
  AFK:=⟨_,qW X G PF⟩,
  AO0:=qW X G Xz,
  AOl:=λP w=>ATc YD (.cons ⟨_,rfl⟩ (.cons ⟨_,rfl⟩ (.cons ⟨_,rfl⟩ (.cons ⟨_,rfl⟩ (.cons ⟨_,rfl⟩ (.cons ⟨_,rfl⟩ (.cons ⟨_,rfl⟩ (.cons ⟨_,rfl⟩ (.cons ⟨_,rfl⟩ (.cons ⟨_,rfl⟩ (.cons ⟨_,rfl⟩ (.cons ⟨_,rfl⟩ (.cons ⟨_,rfl⟩ .nil))))))))))))),
  dR:=vE X G bY,
  Zv:=vE X G ZI,
  Ks:=vE X G bX,
  SO:=vE X G ZH,
  dQ:=vE X G bW,
  VT:=vE X G XO,
  Pg:=vE X G Rp,
  WX:=vE X G VW,
  AH5:=Rz,
  AHz:=Ry,
  AOz:=Xl,
  AOs:=Xi,
  AOy:=Xj,
  AOr:=Xh,
  Yl:=qn},NB.bto (λ_ _ _ _ _ _=>z1z λ_=>rfl),Rx,Xg,Xf⟩
end Hx
open PySem PySem.W PyProof.Rows
local macro_rules | `(tactic|o_headS ($f:ident $k $a $e))=>`(tactic|o_headS (PySem.W.kmHook $k $a $e [169,577,105]))
structure PySem.W.Fast:Prop where(tw6773375603149244346 tw1436622659526603091 tw8033367620921687273 tw16577242550250628815 tw9220485851140731974 tw2789083043570540585 tw4255070309151531420 tw9323739272194583994 tw9744239127744027018 tw12000599243021331256 tw15496446639176021204 tw12719341748117283777 tw15463993733820729924 tw6747187480402014286 tw8526493969314833262 tw12104520419615948207 tw6967804440934665392 tw4181999779991983797 tw13766830422193206216 tw6181658672890804133 tw3663157123480283402 tw6913389471463212344 tw3102713825081434299 tw9081883263020712113 tw1926816037420751877 tw3320924058495918660 tw3836776269157763121 tw9554137683090343220 tw3093529866494750030 tw8117674431441713488 tw14908926782339388883 tw6250111228628281419 tw15635673984603977009 tw12850830872409513007 tw16861961999481349494 tw6218719057798561602 tw13812780043993856767 tw16339256299690652017 tw13694844862842123552 tw829228185884992451 tw2630577196251832267 tw1215570166561759148 tw11899222141459684031 tw4922696487995937575 tw4462748916389079983 tw7634800112386814303 tw3341903842013563731 tw2246281212378848731 tw7032619090723613907 tw14251505299005364914 tw10785182154073595359 tw17179239938165639603 tw8781132906440095437 tw5691633167389097919 tw6493748124831846391 tw4089803333640455946 tw7500560731957164040 tw18182887549209168206 tw5603800828039976269 tw3269242772643130957 tw7366688417290378257 tw6977178022038339895 tw4291883409162602428 tw2462299792592838440 tw15712365694881705527 tw2149223510076942875 tw13817955097276430925 tw9981333666065279638 tw3713877028497389170 tw8252720935515136450 tw17663045482637581489 tw13087100458753219962 tw4159982511850812713 tw2559407157453573175 tw4745170071013890230 tw6702526508957307599 tw14710709303150224256 tw1917562899759747055 tw17153974911712978923 tw10493619783129093961 tw8597369608587246596 tw5817059291099324621 tw5039770766228013346 tw15563799356198295583 tw15871282561926264373 tw9116513822625536992 tw1431115893492955564 tw10692796490059308329 tw5172023311106852392 tw6945373222732588647 tw11559978813367210081 tw8801833635537764221 tw16154971772000424280 tw17220368028555240946 tw11563957013131456127 tw6870156579706209680 tw16713759396006227321 tw14951384515414825249 tw5778947097780839897 tw12845472861703661506 tw4159817127169149401 tw16748365996237305238 tw4756163082495045902 tw1178709379331537770 tw1503660734470749195 tw1954968931698934024 tw6877395680055887842 tw2218151354021227415 tw11757618786819900654 tw642400765449896195 tw10069308049243583014 tw3491607086763743834 tw12038861134148523585 tw15660976376266002421 tw5402991589382327346 tw12243323321240466270 tw5221732430962483458 tw6872862285400059276 tw2870499699192612626 tw9925485091395307594 tw3443518361920693914 tw6860012599994132725 tw3874371408125289210 tw4485615630806371439 tw3823913919554673827 tw14850757351530209835 tw15328306065407620374 tw12080069677315591190 tw613354314208226425 tw5344517006092381549 tw16981418957662447887 tw12638531186561479515 tw16069486843510453654 tw17763823089268404071 tw9148739908018025858 tw1553029418454483064 tw10238654729732563870 tw13507029186265906397 tw1980478972135333690 tw11002047811467616018 tw16656355664015039074 tw8630382358153675237 tw5338420230422194420 tw2688683773147840163 tw4794382447472378815 tw4833964446497270446 tw7297718312645693724 tw9472418608519383459 tw10606598616997235895 tw4112146008870151203 tw7692790739157240477 tw15032887597293064041 tw11200265449607424770 tw15502058063503873710 tw6401071278926177195 tw16532743125901140717 tw8136383621637454525 tw2014958233682201076 tw5864081709745268121 tw7977816400332036579 tw1531530838291313604 tw4106276546422370281 tw7062359722059542542 tw14350072980051455278 tw2829078816770844712 tw9442208847903867283 tw1610427065686604892 tw8005088822908505655 tw17681223396037243523 tw354163012317148201 tw13536312042060461470 tw14177588941502300599 tw2223634373895114798 tw16284553694388703269 tw6807587082874662665 tw9843543715230141330 tw649560037995210791 tw5156809351064002332 tw15987247020515186820 tw2798917682427428126 tw11742865715983920804 tw9625280959913130903 tw4027823264580175398 tw14211860497102502667 tw14322246015044006324 tw6610725493042750572 tw9883503063686138187 tw16537963208949391796 tw16330315954290016750 tw13382881519555211337 tw14864694835266500860 tw13566852563886251661 tw5259404735111119757 tw16752252204091252919 tw15602276200497107754 tw2918188032510554496 tw9696367548118125487 tw17467456413793417139 tw16837921267396105446 tw16130294400998413725 tw7115106319418317308 tw4693416659813747327 tw14523616371245917631 tw1957900085064160785 tw3626878323658869327 tw8891136386642718399 tw6710182643545363855 tw2870641516995636717 tw5445779458481364634 tw10343112133125810415 tw11884389366965641090 tw7554514177301641981 tw69663293802766874 tw5014517310701790559 tw1247028147284591889 tw12120527427967599979 tw8281085713729819246 tw14621563350356095290 tw15998654412151973979 tw8764152625692494315 tw14320896661846955890 tw15068923399877414592 tw5844781619205910610 tw7643495173155508342 tw1728473500076733451 tw15890720333697386140 tw11482777178498427311 tw14137521998759740919 tw8336693451004734360 tw12643056518437301867 tw7990803812275288403 tw16139490459530925008 tw18233545505969256616:True)
set_option maxRecDepth 100000 in
set_option maxHeartbeats 0 in
theorem PySem.Challenge.cw_heirshares_s01_answers_holds : PySem.Challenge.rw_heirshares_s01_answers.Holds := by
 w_on;k_headS;(case hw=>exact⟨[.list [.int 0,.int 0,.int 0]],by decide +kernel,by decide +kernel⟩)
 k_fillS
 refine L2.AMm (r:=PySem.Challenge.rw_heirshares_s01_answers) (k:=60) (CX:=L2.FI) (ps:=["calls"]) (sp:=Hx.Z7) (by decide +kernel) (by decide +kernel) rfl rfl ⟨rfl,by decide,by decide⟩ (λ_=>by kernel_rfl) ?F ?S (λ_ _ _ _ z=>z)
 case F=>
  intro w mg fa h KX G kI;refine Hx.fin (K:=L2.KOf KX) rfl kI ?_;dsimp only[L2.KOf];refine' Hx.AUe KX G ?Um ⟨?APU,?AP2,?APQ,?APM⟩ ?KP ?Gg ?LG ?Uo ⟨?APV,?AP3,?APR,?APN⟩ ?KQ ?JC ?Z1 ⟨?AU3,?AVc,?AU2,?AUv⟩ ?MI ?LH ?JB ?Wf ⟨?AQ6,?ARu,?AQ3,?AQs⟩ ?MH ?PB ?N2 ?JA ?Yb ⟨?AS3,?ATo,?AS0,?ASw⟩ ?N4 ?PD ?MK ?MJ ?We ⟨?AQ5,?ARt,?AQ2,?AQr⟩ ?M3 ?YZ ⟨?AS2,?ATn,?ASz,?ASv⟩ ?QW ?M4 ?N3 ⟨?APh,?AJK,?AIy,?APt⟩ (L2.Ag ?AIl ?AJH ?AIw) ⟨?AFQ,?AE7,?ABh⟩ (L2.Ag ?AEz ?AFJ ?ABh) ⟨?ADX,?ADF,?AAd⟩ (L2.Ag ?AC9 ?ADJ ?AAd) ⟨?ADs,?ADm,?AAy⟩ (L2.Ag ?ADj ?ADp ?AAy) ⟨?APi,?AJM,?AI0,?APu⟩ (L2.Ag ?AIn ?AJJ ?AIx) ⟨?AIH,?AHy,?ADE⟩ (L2.Ag ?AHr ?AIC ?ADE) ⟨?AEe,?AEW,?ABK⟩ (L2.Ag ?AER ?AEb ?ABK) ⟨?AFS,?AE9,?ABj⟩ (L2.Ag ?AE1 ?AFM ?ABj) ⟨?ADZ,?ADH,?AAg⟩ (L2.Ag ?ADB ?ADM ?AAg) ⟨?ADY,?ADG,?AAf⟩ (L2.Ag ?ADA ?ADL ?AAf) ⟨?AF8,?AFy,?ACA⟩ (L2.Ag ?AFs ?AF4 ?ACA) ⟨?AFT,?AFA,?ABk⟩ (L2.Ag ?AE2 ?AFN ?ABk) ⟨?ACN,?ACC,?AAQ⟩ (L2.Ag ?AB6 ?ACF ?AAQ) ⟨?ADu,?ADo,?AA0⟩ (L2.Ag ?ADl ?ADr ?AA0) ⟨?AF7,?AFx,?AB9⟩ (L2.Ag ?AFr ?AF3 ?AB9) ⟨?AIF,?AHx,?ADD⟩ (L2.Ag ?AHq ?AIB ?ADD) ⟨?AJL,?AIz,?AD6⟩ (L2.Ag ?AIm ?AJI ?AD6) ⟨?AFR,?AE8,?ABi⟩ (L2.Ag ?AE0 ?AFL ?ABi) ?La (L2.Ag ?AFn ?AFz ?AFt) ?Jo (L2.Ag ?AEN ?AEX ?AES) ?SS (L2.Ag ?ANT ?ANh ?ANW) ?OF (L2.Ag ?AIe ?AJA ?AIp) ?Kw (L2.Ag ?AEx ?AFH ?AE4) ?Zx (L2.Ag ?AVN ?AVk ?AVW) ?YY (L2.Ag ?ATb ?ATw ?ATl) ?YW (L2.Ag ?ATZ ?ATu ?ATj) ?Uk (L2.Ag ?APo ?AQF ?APw) ?Uj (L2.Ag ?APn ?AQE ?APv) ?YV (L2.Ag ?ATY ?ATt ?ATi) ?Wd (L2.Ag ?ARi ?ASP ?ARo) ?IY (L2.Ag ?AC8 ?ADI ?ADC) ?Kv (L2.Ag ?AEw ?AFG ?AE3) ⟨?AVI,?ANm,?ANZ,?AVV⟩ (L2.Ag ?ANU ?ANi ?ANX) ?NL (L2.Ag ?AHo ?AH9 ?AHv) ?OG (L2.Ag ?AIf ?AJB ?AIq) ⟨?ARY,?AKs,?AKi,?ARl⟩ (L2.Ag ?AKc ?AKp ?AKg) ⟨?AEc,?AEU,?ABI⟩ (L2.Ag ?AEP ?AEZ ?ABI) ⟨?ADt,?ADn,?AAz⟩ (L2.Ag ?ADk ?ADq ?AAz) ⟨?ACu,?ACq,?AAY⟩ (L2.Ag ?ACo ?ACs ?AAY) ⟨?ABa,?ABY,?AAH⟩ (L2.Ag ?ABX ?ABZ ?AAH) ⟨?ABx,?ABv,?AAK⟩ (L2.Ag ?ABu ?ABw ?AAK) ⟨?AEd,?AEV,?ABJ⟩ (L2.Ag ?AEQ ?AEa ?ABJ) ⟨?ACv,?ACr,?AAZ⟩ (L2.Ag ?ACp ?ACt ?AAZ) ?OE (L2.Ag ?AId ?AI9 ?AIo) ?MO (L2.Ag ?AGb ?AGp ?AGi) ?MP (L2.Ag ?AGc ?AGq ?AGj) ?NK (L2.Ag ?AHn ?AH8 ?AHu) ?Wb (L2.Ag ?ARg ?ASN ?ARm) ?Zy (L2.Ag ?AVO ?AVl ?AVX) ?Wc (L2.Ag ?ARh ?ASO ?ARn) ?Zz (L2.Ag ?AVP ?AVm ?AVY) ⟨?ATP,?AMe,?AMG,?ATh⟩ (L2.Ag ?AL8 ?AMZ ?AME) ⟨?ACL,?ACB,?AAP⟩ (L2.Ag ?AB5 ?ACD ?AAP) ⟨?AF6,?AFw,?AB8⟩ (L2.Ag ?AFq ?AF2 ?AB8) ⟨?ARX,?AKr,?AKh,?ARk⟩ (L2.Ag ?AKb ?AKo ?AKf) ⟨?AGw,?AGo,?ACd⟩ (L2.Ag ?AGh ?AGv ?ACd) ⟨?AF5,?AFv,?AB7⟩ (L2.Ag ?AFp ?AF1 ?AB7) ⟨?ATO,?AMd,?AMF,?ATg⟩ (L2.Ag ?AL7 ?AMY ?AMD) ⟨?AKt,?AKj,?AE6⟩ (L2.Ag ?AKd ?AKq ?AE6) ?MT (L2.Ag ?AGg ?AGu ?AGn) ?YX (L2.Ag ?ATa ?ATv ?ATk) ?Pj (L2.Ag ?AKa ?AKn ?AKe) ?MR (L2.Ag ?AGe ?AGs ?AGl) ?OM (L2.Ag ?AIk ?AJG ?AIv) ?NN (L2.Ag ?AHp ?AIA ?AHw) ?OH (L2.Ag ?AIg ?AJC ?AIr) ?Ky (L2.Ag ?AEy ?AFI ?AE5) ?OJ (L2.Ag ?AIi ?AJE ?AIt) ?Zw (L2.Ag ?AVM ?AVj ?WI) ?Jp (L2.Ag ?AEO ?AEY ?AET) ?MS (L2.Ag ?AGf ?AGt ?AGm) ?MQ (L2.Ag ?AGd ?AGr ?AGk) ?OI (L2.Ag ?AIh ?AJD ?AIs) ?OL (L2.Ag ?AIj ?AJF ?AIu) ?Lb (L2.Ag ?AFo ?AF0 ?AFu) ?Ul (L2.Ag ?APp ?AQG ?APx) ?Za ?PJ ?LJ ?JF ?HW ?UE ?ML ?N6 ?V6 ?M6 ?R7 ?UG ?UN ?cG ?cK ?LK ?UH ?JE ?IC ?IE ?GF ?GH ?E5 ?E4 ?E3 ?Ez ?Ey ?PF ?Xz ?YD ?bY ?ZI ?bX ?ZH ?bW ?XO ?Rp ?VW ?Rz ?AHl ?AHK ?Ry ?Rx ?Xl ?AOg ?AOH ?Xi ?Xg ?Xj ?AOf ?AOG ?Xh ?Xf ?qn
  (case Um|APU|AP2|APQ|APM|APh|APt|KP|Gg|LG|Uo|APV|AP3|APR|APN|APi|APu|KQ|JC|Z1|AU3|AVc|AU2|AUv|AVI|AVV|MI|LH|JB|Wf|AQ6|ARu|AQ3|AQs|ARY|ARl|MH|PB|N2|JA|Yb|AS3|ATo|AS0|ASw|ATP|ATh|N4|PD|MK|MJ|We|AQ5|ARt|AQ2|AQr|ARX|ARk|M3|YZ|AS2|ATn|ASz|ASv|ATO|ATg|QW|M4|N3|AJK|AIy|AIl|AJH|AIw|AFQ|AE7|AEz|AFJ|ABh|ADX|ADF|AC9|ADJ|AAd|ADs|ADm|ADj|ADp|AAy|AJM|AI0|AIn|AJJ|AIx|AIH|AHy|AHr|AIC|ADE|AEe|AEW|AER|AEb|ABK|AFS|AE9|AE1|AFM|ABj|ADZ|ADH|ADB|ADM|AAg|ADY|ADG|ADA|ADL|AAf|AF8|AFy|AFs|AF4|ACA|AFT|AFA|AE2|AFN|ABk|ACN|ACC|AB6|ACF|AAQ|ADu|ADo|ADl|ADr|AA0|AF7|AFx|AFr|AF3|AB9|AIF|AHx|AHq|AIB|ADD|AJL|AIz|AIm|AJI|AD6|AFR|AE8|AE0|AFL|ABi|La|AFn|AFz|AFt|Jo|AEN|AEX|AES|SS|ANT|ANh|ANW|OF|AIe|AJA|AIp|Kw|AEx|AFH|AE4|Zx|AVN|AVk|AVW|YY|ATb|ATw|ATl|YW|ATZ|ATu|ATj|Uk|APo|AQF|APw|Uj|APn|AQE|APv|YV|ATY|ATt|ATi|Wd|ARi|ASP|ARo|IY|AC8|ADI|ADC|Kv|AEw|AFG|AE3|ANm|ANZ|ANU|ANi|ANX|NL|AHo|AH9|AHv|OG|AIf|AJB|AIq|AKs|AKi|AKc|AKp|AKg|AEc|AEU|AEP|AEZ|ABI|ADt|ADn|ADk|ADq|AAz|ACu|ACq|ACo|ACs|AAY|ABa|ABY|ABX|ABZ|AAH|ABx|ABv|ABu|ABw|AAK|AEd|AEV|AEQ|AEa|ABJ|ACv|ACr|ACp|ACt|AAZ|OE|AId|AI9|AIo|MO|AGb|AGp|AGi|MP|AGc|AGq|AGj|NK|AHn|AH8|AHu|Wb|ARg|ASN|ARm|Zy|AVO|AVl|AVX|Wc|ARh|ASO|ARn|Zz|AVP|AVm|AVY|AMe|AMG|AL8|AMZ|AME|ACL|ACB|AB5|ACD|AAP|AF6|AFw|AFq|AF2|AB8|AKr|AKh|AKb|AKo|AKf|AGw|AGo|AGh|AGv|ACd|AF5|AFv|AFp|AF1|AB7|AMd|AMF|AL7|AMY|AMD|AKt|AKj|AKd|AKq|AE6|MT|AGg|AGu|AGn|YX|ATa|ATv|ATk|Pj|AKa|AKn|AKe|MR|AGe|AGs|AGl|OM|AIk|AJG|AIv|NN|AHp|AIA|AHw|OH|AIg|AJC|AIr|Ky|AEy|AFI|AE5|OJ|AIi|AJE|AIt|Zw|AVM|AVj|WI|Jp|AEO|AEY|AET|MS|AGf|AGt|AGm|MQ|AGd|AGr|AGk|OI|AIh|AJD|AIs|OL|AIj|AJF|AIu|Lb|AFo|AF0|AFu|Ul|APp|AQG|APx|Za|PJ|LJ|JF|HW|UE|ML|N6|V6|M6|R7|UG|UN|cG|cK|LK|UH|JE|IC|IE|GF|GH|E5|E4|E3|Ez|Ey|PF|Xz|YD|bY|ZI|bX|ZH|bW|XO|Rp|VW=>k_is)
  (case Rz=>exact rfl)
  (case AHl=>k_is)
  (case AHK=>exact rfl)
  (case Ry=>kernel_rfl)
  (case Rx=>first|decide|simp)
  (case Xl=>exact rfl)
  (case AOg=>k_is)
  (case AOH=>exact rfl)
  (case Xi=>kernel_rfl)
  (case Xg=>first|decide|simp)
  (case Xj=>exact rfl)
  (case AOf=>k_is)
  (case AOG=>exact rfl)
  (case Xh=>kernel_rfl)
  (case Xf=>first|decide|simp)
  (case qn=>decide)
 case S=>
  intro K H xs a hO Wy dB hx;cases hx with
  |cons h1 h2=>
   cases h2;cases h1 with
   |lst hs ha=>have e:=L2.AOn a.1 _ ha;subst e;have q:((Codec.inLen 0 3000 a.1&&a.1.all (Codec.inInt 0 4294967295))&&true)=true:=Wy;rw[qm,qm] at q;exact⟨_,a.1,rfl,hO,hs,(Codec.inNat_iff.mp q.1.1).2,dB,λH' p hp=>.lst (L2.Er.of hp) (L2.AOt _)⟩
