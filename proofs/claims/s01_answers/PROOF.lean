import PyProof.Rows.All
import Wide.All
import OpenK.AllK
import Wide.FinOn
import PyProof.EqAt
import PyProof.EqKinds
import PyProof.TupleCall
import KE.BitLaws
import Open.SpecLaws
import KE.OsHead
import KE.OsGo
import PyProof.Rows.SortShellAny
import PyProof.Rows.SetFrom
import KE.KDictSum
import PySem.Challenge.RW_truthstore_s01_answers
set_option Elab.async false
set_option linter.all false
set_option maxRecDepth 100000
set_option maxHeartbeats 3200000
noncomputable section
theorem VW{p:Prop}(h:p:=by decide):p:=h
theorem VX{p:Prop}(h:p:=by lia):p:=h
theorem VY{p:Prop}(h:p:=by decide+kernel):p:=h
abbrev ae:=@PySem.wpAny_bind
abbrev af:=@List.getElem?_eq_getElem
abbrev ah:=@if_neg
abbrev aj:=@Bool.false_ne_true
abbrev ao:=@if_pos
abbrev au:=@decide_eq_true
abbrev ay:=@List.length_map
abbrev aA:=@PySem.wpAny_pure
abbrev aD:=@of_decide_eq_true
abbrev aE:=@List.length_append
abbrev aG:=@PySem.Heap.get?_push_of_some
abbrev aH:=@Nat.le_refl
abbrev aL:=@List.mem_cons_of_mem
abbrev aM:=@PySem.sizeLine_eq
abbrev aQ:=@decide_eq_false
abbrev aR:=@List.getElem?_map
abbrev aT:=@List.length_cons
abbrev aV:=@List.mem_cons_self
abbrev aW:=@PySem.Heap.get?_push_size
abbrev aY:=@PySem.Heap.lt_size
abbrev aZ:=@Nat.lt_of_lt_of_le
abbrev bc:=@Int.toNat_natCast
abbrev be:=@Nat.le_trans
abbrev bf:=@PySem.boot_len
abbrev bh:=@Ne.symm
abbrev bj:=@PySem.F.plainAttrs_list
abbrev br:=@Nat.zero_le
abbrev bz:=@List.size_toArray
abbrev bA:=@List.getElem?_append_right
abbrev bB:=@List.take_succ_eq_append_getElem
abbrev bC:=@PySem.Heap.get?_update_other
abbrev bE:=@List.mem_of_getElem?
abbrev bD:=@List.append_nil
abbrev bJ:=@congrArg
abbrev bK:=@List.append_assoc
abbrev bL:=@PySem.F.slot_list_append
abbrev bM:=@PySem.F.type_list_append
abbrev bN:=@PySem.PassesOwn.leaving
abbrev bO:=@List.getElem?_append_left
abbrev bU:=@List.length_drop
abbrev bP:=@Bool.and_eq_true
abbrev bW:=@List.map_cons
abbrev bX:=@Option.some.inj
abbrev bY:=@Array.length_toList
abbrev bZ:=@Nat.ne_of_lt
abbrev b7:=@List.getElem?_eq_none
abbrev b9:=@List.drop_drop
abbrev cb:=@List.map_append
abbrev cg:=@PySem.mem_of_lookup
abbrev ck:=@List.length_set
abbrev cy:=@List.length_range
abbrev cz:=@List.length_take
abbrev cG:=@PySem.Heap.size_push
abbrev cK:=@Nat.lt_of_le_of_lt
abbrev cO:=@List.take_length
abbrev cS:=@List.map_map
abbrev cV:=@Nat.lt_irrefl
abbrev cW:=@PySem.Heap.get?_update_self
abbrev cY:=@List.mem_append_left
abbrev cZ:=@Nat.pow_le_pow_right
abbrev c8:=@List.find?_cons
abbrev de:=@List.takeWhile_cons
abbrev di:=@Array.getElem?_toList
abbrev dj:=@List.length_filter_le
abbrev dq:=@PySem.wpAny_setField
abbrev dE:=@Nat.testBit_and
abbrev dM:=@Nat.pow_succ
abbrev dN:=@PySem.wpAny_mono
abbrev dO:=@Array.getElem?_eq_getElem
abbrev dP:=@PySem.wpAny_holding
abbrev dW:=@List.drop_succ_cons
abbrev dZ:=@List.mem_append_right
abbrev d8:=@Bool.eq_iff_iff
abbrev ej:=@List.contains_cons
abbrev eC:=@Rat.mkRat_eq_iff
abbrev eM:=@Nat.ne_of_gt
abbrev eO:=@Nat.sub_self
abbrev eP:=@Nat.one_shiftLeft
abbrev eQ:=@List.map_congr_left
abbrev eS:=@Nat.pow_pos
abbrev eW:=@Classical.byContradiction
abbrev eY:=@List.drop_eq_getElem_cons
abbrev fb:=@PySem.wpAny_truthy_bool
abbrev fc:=@List.length_singleton
abbrev fe:=@PySem.wpAny_newObj_type
abbrev fg:=@PySem.wpAny_setState_of
abbrev fm:=@Bool.false_eq_true
abbrev fw:=@List.drop_zero
abbrev fF:=@PySem.wpAny_call_entry
abbrev fG:=@List.ext_getElem?
abbrev fX:=@List.getElem?_set_self
abbrev fY:=@Nat.one_mul
abbrev f7:=@Nat.lt_of_not_le
abbrev f9:=@Bool.toNat_false
abbrev gr:=@Bool.false_and
abbrev gu:=@Nat.pos_of_ne_zero
abbrev gw:=@List.filter_append
abbrev gx:=@Nat.testBit_shiftLeft
abbrev gO:=@Bool.toNat_true
abbrev gQ:=@List.getElem?_set_ne
abbrev gR:=@Nat.le_of_eq
abbrev gS:=@PySem.wpAny_Call_Name_kw
abbrev gT:=@decide_eq_true_eq
abbrev iD:=@Rat.mkRat_mul_mkRat
abbrev iG:=@List.lookup_cons
abbrev iH:=@List.getElem?_cons_succ
abbrev iI:=@PySem.wpAny_loadPart_at
abbrev iJ:=@List.filter_cons
abbrev jg:=@beq_iff_eq
abbrev jh:=@Bool.or_true
abbrev ji:=@Int.natAbs_natCast
abbrev jr:=@PySem.wpAny_callSpecial?_slot
abbrev js:=@Bool.true_and
abbrev aJ:=@PySem.W.mg_of
abbrev jN:=@List.length_replicate
abbrev jO:=@List.take_append_drop
abbrev jP:=@Nat.lt_succ_of_lt
abbrev jQ:=@PySem.wpAny_typeNameOfWhole_keyiter
abbrev jR:=@Nat.or_lt_two_pow
abbrev jT:=@PySem.codeAny_mono
abbrev kr:=@PySem.wpAny_passesOwn
abbrev ku:=@PySem.W.looks_findIn
abbrev kx:=@if_false
abbrev kz:=@Bool.and_false
abbrev kC:=@PySem.F.slot_dict_keyiterator_next
abbrev kD:=@List.findIdx?_append
abbrev ll:=@Nat.le_of_lt
abbrev lp:=@List.getElem?_eq_none_iff
abbrev lV:=@PyProof.Rows.F.plain_set_update_loop
abbrev lW:=@List.getElem?_range
abbrev lX:=@Rat.mkRat_add_mkRat
abbrev mh:=@PySem.Around.under_plainId
abbrev mn:=@Int.natCast_mul
abbrev mo:=@Nat.testBit_xor
abbrev mq:=@Nat.and_le_left
abbrev nH:=@PySem.W.callWith_K
abbrev nI:=@decide_eq_true_iff
abbrev nJ:=@UInt8.toNat_ofNat'
abbrev nM:=@Nat.and_lt_two_pow
abbrev nO:=@Nat.xor_lt_two_pow
abbrev nP:=@Nat.add_sub_cancel
abbrev nQ:=@Nat.le_succ
abbrev nU:=@List.getElem?_replicate
abbrev nV:=@List.getElem?_cons_zero
abbrev nX:=@PySem.wpAny_isSubtype_exc
abbrev pJ:=@PySem.Paired.length
abbrev pK:=@PySem.wpAny_standAt
abbrev pL:=@PySem.wpAny_typeNameOf_keyiter
abbrev pM:=@Nat.add_zero
abbrev pN:=@Nat.zero_add
abbrev pO:=@Nat.testBit_or
abbrev pP:=@List.filter_eq_nil_iff
abbrev pQ:=@PyProof.Rows.boot_list
abbrev pS:=@PySem.wpAny_execs_nil
abbrev pT:=@PySem.codeAny_builtin
abbrev qP:=@List.takeWhile_append_dropWhile
abbrev sj:=@Nat.le_of_not_lt
abbrev sq:=@Nat.mod_eq_of_lt
abbrev tw:=@List.all_cons
abbrev tz:=@List.any_cons
abbrev tD:=@Bool.and_true
abbrev tP:=@PySem.fits_of_scanBound
abbrev tQ:=@List.getElem?_of_mem
abbrev vo:=@List.foldl_cons
abbrev vH:=@PySem.W.looks_clsIn
abbrev vI:=@List.dropWhile_cons
abbrev vJ:=@List.getElem_of_mem
abbrev vK:=@PySem.builtinLookup_eq_fast
abbrev vV:=@Nat.testBit_two_pow_sub_one
abbrev vW:=@Nat.zero_mul
abbrev xG:=@List.getD_eq_getElem?_getD
abbrev xH:=@Rat.sub_eq_add_neg
abbrev xI:=@List.perm_ext_iff_of_nodup
abbrev zc:=@Nat.shiftRight_eq_div_pow
abbrev zd:=@if_true
abbrev ze:=@Nat.le_of_succ_le
abbrev zf:=@PySem.Heap.SameBut.update
abbrev zg:=@Option.some.injEq
abbrev zh:=@List.pairwise_map
abbrev zi:=@List.nodup_append
abbrev zj:=@Nat.mul_pos
abbrev zk:=@List.getElem?_set
abbrev Ah:=@Bool.or_false
abbrev Ai:=@Bool.false_or
abbrev Aj:=@Int.ofNat.inj
abbrev Ba:=@PySem.W.any_some
abbrev Bb:=@Nat.lt_succ_self
abbrev Bc:=@PySem.F.slot_list_index
abbrev Bd:=@PySem.tupleKind_room_in1
abbrev Be:=@beq_self_eq_true
abbrev Bf:=@Bool.not_eq_true
abbrev Bg:=@List.nodup_range
abbrev C8:=@PySem.W.cellsFrom_some
abbrev C9:=@List.map_nil
abbrev Dc:=@Array.getElem?_eq_none
abbrev Dd:=@Nat.mul_comm
abbrev De:=@Nat.testBit_lt_two_pow
abbrev Df:=@Nat.testBit_shiftRight
abbrev Dg:=@List.of_mem_zip
abbrev Dh:=@PySem.wpAny_pyIter_slot
abbrev Di:=@PySem.wpAny_dictEntries
abbrev Dj:=@Nat.min_eq_left
abbrev Dk:=@List.filter_map
abbrev Dl:=@List.nil_append
abbrev DS:=@PySem.W.methodCall_KW
abbrev DT:=@PySem.wpAny_attempt
abbrev DU:=@PySem.plainId_quiet
abbrev DV:=@List.contains_iff_mem
abbrev F4:=@PySem.wpAny_execs_cons
abbrev F5:=@PySem.wpAny_askSetting
abbrev F6:=@Bool.not_false
abbrev F7:=@Nat.pow_lt_pow_right
abbrev F8:=@Rat.mkRat_self
abbrev HD:=@List.filterMap_cons
abbrev HE:=@PySem.W.plainGet_of
abbrev HF:=@PySem.wpAny_call
abbrev HG:=@PySem.W.callWith_K0
abbrev HH:=@PySem.Calls.callWith_builtin
abbrev HI:=@PySem.W.looks_mroIn
abbrev HJ:=@PyProof.Rows.F.entry_set_update_loop
abbrev HK:=@beq_eq_false_iff_ne
abbrev HR:=@PySem.pushCells_keeps
abbrev HS:=@PySem.typeLookup_type
abbrev HU:=@List.map_drop
abbrev HV:=@List.map_take
abbrev HW:=@Rat.neg_mkRat
abbrev JH:=@PySem.W.Looks.here
abbrev JI:=@PySem.W.check_slot
abbrev JJ:=@Nat.mod_lt
abbrev LO:=@PySem.W.set_plain
abbrev LP:=@PySem.Within.cons
abbrev LQ:=@List.all_map
abbrev LR:=@Option.isSome_map
abbrev LS:=@PySem.wpAny_fieldsOf
abbrev LU:=@PySem.wpAny_field
abbrev LV:=@PySem.codeAny_call_builtin
abbrev LW:=@Nat.le_succ_of_le
abbrev LY:=@Bool.not_eq_true'
abbrev LZ:=@PySem.isSubtype_type
abbrev L5:=@List.foldl_append
abbrev L6:=@Int.le_of_lt
abbrev L7:=@Nat.testBit_eq_decide_div_mod_eq
abbrev L8:=@Nat.add_comm
abbrev L9:=@List.filter_congr
abbrev Ma:=@List.flatMap_cons
abbrev Mc:=@List.eraseIdx_eq_take_drop_succ
abbrev OI:=@PySem.F.excBase_Exception
abbrev OJ:=@Nat.shiftLeft_eq
abbrev OK:=@List.flatMap_map
abbrev OL:=@List.map_flatMap
abbrev Bh:=@List.not_mem_nil
abbrev OO:=@Nat.pow_add
abbrev Qt:=@List.length_nil
abbrev Qu:=@PySem.W.length_le_weightAllW
abbrev Qv:=@PySem.Code.quiet_builtin
abbrev Q5:=@PyProof.Rows.callWith_type1
abbrev Q6:=@Nat.testBit_two_pow_mul_add
abbrev Q7:=@Nat.mul_lt_mul_of_pos_right
abbrev Q8:=@Int.mul_lt_mul_of_pos_right
theorem Xa{A:Sort _}{p:A->Prop}{G:Prop}(k:∀a,p a->G):(∃a,p a)->G:=λh=>h.elim k
theorem W6{A B:Sort _}{p:A->B->Prop}{G:Prop}(k:∀a b,p a b->G):(∃a b,p a b)->G:=Xa λa=>Xa (k a)
theorem Xc{A B C:Sort _}{p:A->B->C->Prop}{G:Prop}(k:∀a b c,p a b c->G):(∃a b c,p a b c)->G:=Xa λa=>W6 (k a)
theorem W7{A B C D:Sort _}{p:A->B->C->D->Prop}{G:Prop}(k:∀a b c d,p a b c d->G):(∃a b c d,p a b c d)->G:=Xa λa=>Xc (k a)
theorem W9{p q G:Prop}(k:p->q->G):p/\q->G:=λh=>k h.1 h.2
theorem W8{p q r G:Prop}(k:p->q->r->G):p/\q/\r->G:=W9 λa=>W9 (k a)
theorem Xd{p q r s G:Prop}(k:p->q->r->s->G):p/\q/\r/\s->G:=W9 λa=>W8 (k a)
theorem Xe{p q r s t G:Prop}(k:p->q->r->s->t->G):p/\q/\r/\s/\t->G:=W9 λa=>Xd (k a)
theorem Xb{p q r s t u G:Prop}(k:p->q->r->s->t->u->G):p/\q/\r/\s/\t/\u->G:=W9 λa=>Xe (k a)
namespace L2
open PySem PySem.Spec PyProof.Rows
abbrev Key:=Sum Int Str
noncomputable def Ak:Key->Value->Bool
 | .inl k,v=>Value.isInt k v
 | .inr x,v=>Value.isStrOf x v
noncomputable def OP(w:World):Key->Int
 | .inl k=>hashInt k
 | .inr x=>hashStr w x
theorem eU:∀{k:Key}{v:Value},Ak k v=true->(∃i t,k=Sum.inl i/\v=Value.int i t)\/(∃x t,k=Sum.inr x/\v=Value.str x t)
 | .inl i,v,h=>by
   obtain⟨t,e⟩:=Value.isInt_shape (k:=i) (v:=v) h;exact .inl ⟨i,t,rfl,e⟩
 | .inr x,v,h=>by
   obtain⟨t,e⟩:=Value.isStrOf_shape (x:=x) (v:=v) h;exact .inr ⟨x,t,rfl,e⟩
theorem KJ(i:Int)(t:Tok):Ak (.inl i) (.int i t)=true:=by simp[Ak,Value.isInt]
theorem KL(x:Str)(t:Tok):Ak (.inr x) (.str x t)=true:=by simp[Ak,Value.isStrOf]
theorem Q9(a b:Int):decide ((Sum.inl a:Key)=Sum.inl b)=(a==b):=by
 by_cases e:a=b
 ·subst e;simp
 ·have h:¬(Sum.inl a:Key)=Sum.inl b:=λq=>e (Sum.inl.inj q);rw[aQ h];exact(beq_eq_false_iff_ne.mpr e).symm
theorem Ra(a b:Str):decide ((Sum.inr a:Key)=Sum.inr b)=decide (a=b):=by
 by_cases e:a=b
 ·subst e;simp
 ·have h:¬(Sum.inr a:Key)=Sum.inr b:=λq=>e (Sum.inr.inj q);rw[aQ h,aQ e]
theorem Rb(a:Int)(b:Str):decide ((Sum.inl a:Key)=Sum.inr b)=false:=aQ (λq=>nomatch q)
theorem Rc(a:Str)(b:Int):decide ((Sum.inr a:Key)=Sum.inl b)=false:=aQ (λq=>nomatch q)
noncomputable def dG(prog:Program)(w:World):PySem.KeyKind prog w Key where
 is:=Ak
 hash:=OP w
 inj:=λv a b ha hb=>by
  rcases eU ha with⟨i,t,rfl,rfl⟩|⟨x,t,rfl,rfl⟩
  ·rcases eU hb with⟨j,u,rfl,e⟩|⟨y,u,rfl,e⟩
   ·injection e with e1 _;rw[e1]
   ·exact nomatch e
  ·rcases eU hb with⟨j,u,rfl,e⟩|⟨y,u,rfl,e⟩
   ·exact nomatch e
   ·injection e with e1 _;rw[e1]
 byValue:=λk v h=>by
  rcases eU h with⟨i,t,rfl,rfl⟩|⟨x,t,rfl,rfl⟩<;>rfl
 pyHash:=λhv h=>by
  rcases eU hv with⟨i,t,rfl,rfl⟩|⟨x,t,rfl,rfl⟩
  ·exact wpAny_pyHash_int h
  ·exact wpAny_pyHash_str h
 eqBool:=λhu hv h=>by
  rcases eU hu with⟨i,t,rfl,rfl⟩|⟨x,t,rfl,rfl⟩
  ·rcases eU hv with⟨j,u,rfl,rfl⟩|⟨y,u,rfl,rfl⟩
   ·rw[Q9]at h;exact wpAny_eqBool_int h
   ·rw[Rb]at h;exact SeqAt.EqAt.int_str i t y u _ _ _ _ h
  ·rcases eU hv with⟨j,u,rfl,rfl⟩|⟨y,u,rfl,rfl⟩
   ·rw[Rc]at h;exact SeqAt.EqAt.str_int x t j u _ _ _ _ h
   ·rw[Ra]at h;exact wpAny_eqBool_str h
 «strs»:=λk x t v h=>by
  rcases eU h with⟨i,u,rfl,e⟩|⟨y,u,rfl,e⟩
  ·exact nomatch e
  ·injection e with e1 _
   subst e1;cases v<;>rfl
theorem Al(prog:Program)(w:World)(i:Int)(t:Tok):(dG prog w).is (.inl i) (.int i t)=true:=KJ i t
theorem Gc(prog:Program)(w:World)(x:Str)(t:Tok):(dG prog w).is (.inr x) (.str x t)=true:=KL x t
inductive V where
 |gb|bl (b:Bool)|int (i:Int)|str (x:Str)|F9 (b:Array UInt8)|Uo (b:UInt64)|ref (a:Addr)|ty (n:String)
 deriving DecidableEq
def RelV:V->Value->Prop
 | .gb,u=>u=Value.none
 | .bl b,u=>u=Value.bool b
 | .int i,u=>∃t,u=Value.int i t
 | .str x,u=>∃t,u=Value.str x t
 | .F9 b,u=>∃t,u=Value.bytes b t
 | .Uo b,u=>∃t,u=Value.float b t
 | .ref a,u=>u=Value.ref a
 | .ty n,u=>u=Value.type n
abbrev cE:List V->List Value->Prop:=Paired RelV
theorem cE.length{xs:List V}{us:List Value}(r:cE xs us):xs.length=us.length:=pJ r
theorem cE.get:∀{xs:List V}{us:List Value}{i:Nat}{x:V},cE xs us->xs[i]?=some x->∃u,us[i]?=some u/\RelV x u
 |_,_,_,_,.nil,e=>by simp at e
 |_,_,0,_,.cons r _,e=>by simp at e;subst e;exact⟨_,rfl,r⟩
 |_,_,i+1,x,.cons _ t,e=>by
  obtain⟨u,h1,h2⟩:=cE.get (i:=i) (x:=x) t (by simpa using e);exact⟨u,by simpa using h1,h2⟩
theorem cE.set{x:V}{u:Value}(r:RelV x u):∀{xs:List V}{us:List Value}(i:Nat),cE xs us->cE (xs.set i x) (us.set i u)
 |_,_,_,.nil=>.nil
 |_,_,0,.cons _ t=>.cons r t
 |_,_,i+1,.cons q t=>.cons q (cE.set r i t)
theorem cE.append:∀{xs ys:List V}{us ws:List Value},cE xs us->cE ys ws->cE (xs++ys) (us++ws)
 |_,_,_,_,.nil,s=>s
 |_,_,_,_,.cons r t,s=>.cons r (cE.append t s)
theorem cE.take:∀{xs:List V}{us:List Value}(n:Nat),cE xs us->cE (xs.take n) (us.take n)
 |_,_,0,_=>.nil
 |_,_,_+1,.nil=>.nil
 |_,_,n+1,.cons r t=>.cons r (cE.take n t)
theorem cE.drop:∀{xs:List V}{us:List Value}(n:Nat),cE xs us->cE (xs.drop n) (us.drop n)
 |_,_,0,r=>r
 |_,_,_+1,.nil=>.nil
 |_,_,n+1,.cons _ t=>cE.drop n t
def lZ:Option V->Option Value->Prop
 |some v,some u=>RelV v u
 |none,none=>True
 |_,_=>False
def KV{κ:Type}:List (κ×V)->List (κ×Value)->Prop:=Paired λ(p:κ×V) (q:κ×Value)=>p.1=q.1/\RelV p.2 q.2
noncomputable def kV:Key->V
 | .inl i=>.int i
 | .inr x=>.str x
inductive HO where
 |lst (xs:List V)
 |tup (xs:List V)
 |dK (kvs:List (Key×V))|dT (kvs:List (List Key×V))
 |set (S:Int->Bool) (n:Nat)
 |ins (C dx:Addr) (fs:List (Str×V))
 |own (x:Addr)
 |xd (fs:List (Str×V))
 |met (f x:Addr)
 |JK (lo hi:Int)
 |j0 (o:Obj) (u:HO)
 |Rf (ps:Array Value)
 |ext (φ:Heap->Prop)
abbrev Hp:=Addr->Option HO
noncomputable def upd(H:Hp)(a:Addr)(o:HO):Hp:=λb=>if b=a then some o else H b
theorem aC{H:Hp}{a:Addr}{o:HO}:upd H a o a=some o:=by unfold upd;rw[ao rfl]
theorem bt{H:Hp}{a b:Addr}{o:HO}(h:b≠a):upd H a o b=H b:=by unfold upd;rw[ah h]
theorem cn{H:Hp}{a b:Addr}{o u:HO}(h:H a=some o)(h':H b=some u)(d:o≠u):a≠b:=by
 intro e;subst e;rw[h]at h';exact d (bX h')
theorem aq{H:Hp}{a b:Addr}{o:HO}(h:H a=some o)(h':H b=none):a≠b:=by
 intro e;subst e;rw[h]at h';cases h'
section
variable(P:Program)(w:World)
def eI(H:Hp)(h:Heap)(a:Addr):HO->Prop
 | .lst xs=>xs.length<=sizeLine/\∃(its:List Value)(n:Nat),cE xs its/\h.get? a=some {cls:= .type "list",data:= .seq its.toArray n}
 | .tup xs=>xs.length<=sizeLine/\∃its:List Value,cE xs its/\IsTup h a its.toArray
 | .dK kvs=>kvs.length<=sizeLine/\(a==sysModules)=false/\∃vs,KV kvs vs/\h.DictOf (dG P w) a vs
 | .dT kvs=>kvs.length<=sizeLine/\(a==sysModules)=false/\∃xs:List (List Key×Addr×Value),
  Paired (λ(p:List Key×V) (q:List Key×Addr×Value)=>p.1=q.1/\H q.2.1=some (.tup (p.1.map kV))/\RelV p.2 q.2.2) kvs xs/\
  ∃o es ep,h.get? a=some o/\o.ExactDict/\o.data= .dict es ep/\es.toList=xs.map (entryOfKey (tupleKind (dG P w)))/\(xs.map (·.1)).Nodup
 | .set S n=>h.SetOf (intKind P w) a S n
 | .ins C dx fs=>H dx=some (.own a)/\fs.length<=1000/\dx≠a/\h.get? a=some (PySem.W.instObj C dx)/\
  ∃mA,h.Ns1 dx mA/\(∀f,lZ (fs.lookup f) (mA f))/\PySem.Within mA (fs.map (·.1))
 | .own _=>∃o,h.get? a=some o
 | .xd fs=>∃mA,h.Ns1 a mA/\∀f,lZ (fs.lookup f) (mA f)
 | .JK lo hi=>∃t u v,h.get? a=some {cls:= .type "range",data:= .fields #[.int lo t,.int hi u,.int 1 v]}
 | .j0 o u=>h.get? a=some o/\eI H h a u
 | .Rf ps=>h.get? a=some {cls:= .none,data:= .fields ps}
 | .met f x=>h.get? a=some (PySem.W.methodObj (.ref f) (.ref x))
 | .ext φ=>φ h/\(∃o,h.get? a=some o)/\∀h1 h2:Heap,φ h1->(∀o,h1.get? a=some o->h2.get? a=some o)->φ h2
def sr(H:Hp)(h:Heap):Prop:=∀a o,H a=some o->eI P w H h a o
end
section
variable{P:Program}{w:World}{H H':Hp}{h h':Heap}{a:Addr}{o:HO}
theorem eI.lt(x:eI P w H h a o):a<h.objs.size:=by
 cases o with
 |lst xs=>obtain⟨_,_,_,_,e⟩:=x;exact aY e
 |tup xs=>obtain⟨_,_,_,p⟩:=x;exact p.lt
 |dK kvs=>obtain⟨_,_,_,_,o,_,_,e,_⟩:=x;exact aY e
 |dT kvs=>obtain⟨_,_,_,_,o,_,_,e,_⟩:=x;exact aY e
 |set S n=>obtain⟨o,_,_,_,e,_⟩:=x;exact aY e
 |ins C dx fs=>obtain⟨_,_,_,e,_⟩:=x;exact aY e
 |own y=>obtain⟨_,e⟩:=x;exact aY e
 |xd fs=>obtain⟨_,⟨_,_,_,e,_⟩,_⟩:=x;exact aY e
 |JK lo hi=>obtain⟨_,_,_,e⟩:=x;exact aY e
 |j0 ob u=>obtain⟨e,_⟩:=x;exact aY e
 |Rf ps=>exact aY (show h.get? a=some _ from x)
 |met f y=>exact aY (show h.get? a=some _ from x)
 |ext φ=>obtain⟨_,⟨_,e⟩,_⟩:=x;exact aY e
theorem Paired.Rg{α β:Type}{F G:α->β->Prop}:∀{l₁:List α}{l₂:List β},Paired F l₁ l₂->(∀a b,F a b->G a b)->Paired G l₁ l₂
 |_,_,.nil,_=>.nil
 |_,_,.cons r t,f=>.cons (f _ _ r) (Paired.Rg t f)
theorem eI.tE(x:eI P w H h a o)(k:∀b u,(b=a\/H b=some (.own a))->h.get? b=some u->h'.get? b=some u)
 (ho:∀b,H b=some (.own a)->H' b=some (.own a)) (ht:∀b xs,H b=some (.tup xs)->H' b=some (.tup xs)):eI P w H' h' a o:=by
 induction o with
 |lst xs=>obtain⟨z,its,n,r,e⟩:=x;exact⟨z,its,n,r,k _ _ (.inl rfl) e⟩
 |tup xs=>obtain⟨z,its,r,ob,e,c⟩:=x;exact⟨z,its,r,ob,k _ _ (.inl rfl) e,c⟩
 |dK kvs=>obtain⟨z,y,vs,r,ob,es,ep,e,c⟩:=x;exact⟨z,y,vs,r,ob,es,ep,k _ _ (.inl rfl) e,c⟩
 |dT kvs=>
  obtain⟨z,y,xs,r,ob,es,ep,e,c⟩:=x;exact⟨z,y,xs,Paired.Rg r λp q z=>⟨z.1,ht _ _ z.2.1,z.2.2⟩,ob,es,ep,k _ _ (.inl rfl) e,c⟩
 |set S n=>obtain⟨ob,es,ep,t,e,c⟩:=x;exact⟨ob,es,ep,t,k _ _ (.inl rfl) e,c⟩
 |ins C dx fs=>
  obtain⟨d,z,ne,e,mA,⟨od,es,ep,e2,c⟩,r⟩:=x;exact⟨ho _ d,z,ne,k _ _ (.inl rfl) e,mA,⟨od,es,ep,k _ _ (.inr d) e2,c⟩,r⟩
 |own y=>obtain⟨ob,e⟩:=x;exact⟨ob,k _ _ (.inl rfl) e⟩
 |xd fs=>obtain⟨mA,⟨od,es,ep,e,c⟩,r⟩:=x;exact⟨mA,⟨od,es,ep,k _ _ (.inl rfl) e,c⟩,r⟩
 |JK lo hi=>obtain⟨t,u,v,e⟩:=x;exact⟨t,u,v,k _ _ (.inl rfl) e⟩
 |j0 ob u ih=>obtain⟨e,q⟩:=x;exact⟨k _ _ (.inl rfl) e,ih q⟩
 |Rf ps=>
  have e:h.get? a=some {cls:= .none,data:= .fields ps}:=x;show h'.get? a=some {cls:= .none,data:= .fields ps};exact k a _ (.inl rfl) e
 |met f y=>
  have e:h.get? a=some (PySem.W.methodObj (.ref f) (.ref y)):=x;show h'.get? a=some (PySem.W.methodObj (.ref f) (.ref y));exact k a _ (.inl rfl) e
 |ext φ=>obtain⟨p,⟨o,e⟩,st⟩:=x;exact⟨st _ _ p λo q=>k _ _ (.inl rfl) q,⟨o,k _ _ (.inl rfl) e⟩,st⟩
theorem sr.lt(x:sr P w H h)(e:H a=some o):a<h.objs.size:=(x a o e).lt
theorem sr.fresh(x:sr P w H h)(e:h.objs.size<=a):H a=none:=by
 cases q:H a with
 |none=>rfl
 |some u=>exact absurd (aZ (x.lt q) e) (cV _)
theorem sr.kept(x:sr P w H h)(k:∀b u,h.get? b=some u->h'.get? b=some u):sr P w H h':=λa o e=>
 (x a o e).tE (λb u _ q=>k b u q) (λ_ q=>q) λ_ _ q=>q
theorem sr.laid(x:sr P w H h)(k:∀b u,h.get? b=some u->h'.get? b=some u)(hp:h.objs.size<=a)(new:eI P w (upd H a o) h' a o):sr P w (upd H a o) h':=λb u e=>by
 have hn:=x.fresh hp;by_cases hb:b=a
 ·subst hb;rw[aC]at e;cases e;exact new
 ·rw[bt hb]at e;exact(x b u e).tE (λc v _ q=>k c v q) (λc q=>by rw[bt (aq q hn)];exact q) λc xs q=>by rw[bt (aq q hn)];exact q
end
def Rd(H:Hp)(a:Addr)(u:HO):Prop:=H a=some u\/∃o,H a=some (.j0 o u)
theorem Rd.ok{P:Program}{w:World}{H:Hp}{h:Heap}{a:Addr}{u:HO}(r:Rd H a u)(x:sr P w H h):eI P w H h a u:=by
 rcases r with r|⟨o,r⟩
 ·exact x a u r
 ·obtain⟨_,q⟩:=x a _ r;exact q
def Qw:Option HO->Prop
 |some (.lst _)=>True
 |some (.dK _)=>True
 |some (.dT _)=>True
 |some (.set _ _)=>True
 |some (.ins _ _ _)=>True
 |some (.ext _)=>True
 |_=>False
section
variable{P:Program}{w:World}{H:Hp}{h h':Heap}{x e:Addr}{o':HO}
theorem sr.write(ok:sr P w H h)(mu:Qw (H x))(he:e=x\/H e=some (.own x))(k:∀b u,b≠e->h.get? b=some u->h'.get? b=some u)(heo:∃u,h'.get? e=some u)
 (new:eI P w (upd H x o') h' x o'):sr P w (upd H x o') h':=λb u q=>by
 have nown:∀c y,H c=some (.own y)->c≠x:=λc y r z=>by subst z;rw[r]at mu;exact mu
 have ntup:∀c xs,H c=some (.tup xs)->c≠x:=λc xs r z=>by subst z;rw[r]at mu;exact mu
 by_cases hb:b=x
 ·subst hb;rw[aC]at q;cases q;exact new
 ·rw[bt hb]at q;by_cases hbe:b=e
  ·have q':H b=some (.own x):=by
    rcases he with z|z
    ·exact absurd (hbe.trans z) hb
    ·rw[hbe];exact z
   rw[q]at q';cases q';obtain⟨v,hv⟩:=heo;exact⟨v,by rw[hbe];exact hv⟩
  ·refine(ok b u q).tE (λc v hc r=>k c v ?_ r) (λc r=>by rw[bt (nown c b r)];exact r) λc xs r=>by rw[bt (ntup c xs r)];exact r
   rcases hc with rfl|hc
   ·exact hbe
   ·rintro rfl;rcases he with z|z
    ·exact nown c b hc z
    ·rw[hc]at z;cases z;exact hb rfl
end
structure Un(fs ex:List Addr)(H H':Hp)(h h':Heap):Prop where
 keep:∀b o,h.get? b=some o->H b=none->b∉fs->b∉ex->h'.get? b=some o
 slot:∀b o,h.get? b=some o->H b=none->b∈fs->b∉ex->∃sl,h'.get? b=some {o with slots:=sl}
 free:∀b o,h.get? b=some o->H b=none->b∉ex->H' b=none
 there:∀b o,h.get? b=some o->b∉ex->∃o',h'.get? b=some o'
 By:∀b xs,H b=some (.tup xs)->H' b=some (.tup xs)
 zl:∀b o u,H b=some (.j0 o u)->H' b=some (.j0 o u)
 Bz:∀b ps,H b=some (.Rf ps)->∃more,H' b=some (.Rf (ps++more))
section
variable{fs fs' ex ex':List Addr}{H H1 H2:Hp}{h h1 h2 h':Heap}{a x e:Addr}{o:HO}
theorem Un.any(u:Un fs ex H H1 h h1){b:Addr}{ob:Obj}(q:h.get? b=some ob)(n:H b=none)(hx:b∉ex):∃sl,h1.get? b=some {ob with slots:=sl}:=by
 by_cases hb:b∈fs
 ·exact u.slot b ob q n hb hx
 ·exact⟨ob.slots,u.keep b ob q n hb hx⟩
theorem Un.kept(k:∀b u,h.get? b=some u->h'.get? b=some u):Un fs ex H H h h':=
 ⟨λb ob q _ _ _=>k b ob q,λb ob q _ _ _=>⟨ob.slots,k b ob q⟩,λ_ _ _ n _=>n,λb ob q _=>⟨ob,k b ob q⟩,λ_ _ q=>q,λ_ _ _ q=>q,λ_ ps q=>⟨#[],by rw[q];simp⟩⟩
theorem Un.refl:Un fs ex H H h h:=Un.kept λ_ _ q=>q
theorem Un.laid(k:∀b u,h.get? b=some u->h'.get? b=some u)(hp:h.objs.size<=a)(hn:H a=none):Un fs ex H (upd H a o) h h' where
 keep:=λb u q _ _ _=>k b u q
 slot:=λb u q _ _ _=>⟨u.slots,k b u q⟩
 free:=λb u q n _=>by rw[bt (bZ (aZ (aY q) hp))];exact n
 there:=λb u q _=>⟨u,k b u q⟩
 By:=λb xs q=>by rw[bt (aq q hn)];exact q
 zl:=λb u xs q=>by rw[bt (aq q hn)];exact q
 Bz:=λb ps q=>⟨#[],by rw[bt (aq q hn),q];simp⟩
theorem Un.write(mu:Qw (H x))(he:e=x\/H e=some (.own x))(k:∀b u,b≠e->h.get? b=some u->h'.get? b=some u)(heo:∃u,h'.get? e=some u):Un fs ex H (upd H x o) h h':=by
 have hx:∀b,H b=none->b≠x:=λb n z=>by subst z;rw[n]at mu;exact mu
 have hb:∀b,H b=none->b≠e:=λb n z=>by
  subst z;rcases he with r|r
  ·exact hx b n r
  ·rw[n]at r;cases r
 have hm:∀b u,H b=some u->¬Qw (some u)->b≠x:=λb u q nm z=>by subst z;rw[q]at mu;exact nm mu
 refine⟨λb u q n _ _=>k b u (hb b n) q,λb u q n _ _=>⟨u.slots,k b u (hb b n) q⟩,λb u q n _=>by rw[bt (hx b n)];exact n,λb u q _=>?_,
  λb xs q=>by rw[bt (hm b _ q λz=>z)];exact q,λb u xs q=>by rw[bt (hm b _ q λz=>z)];exact q,λb ps q=>⟨#[],by rw[bt (hm b _ q λz=>z),q];simp⟩⟩
 by_cases hbe:b=e
 ·subst hbe;exact heo
 ·exact⟨u,k b u hbe q⟩
end
noncomputable def Up(h:Heap)(H:Hp):List Addr:=(List.range h.objs.size).filter λa=>(H a).isSome
noncomputable def ES(h:Heap)(H:Hp):Heap:=PySem.W.hideAll h (Up h H)
theorem KN(h:Heap)(H:Hp):(ES h H).objs.size=h.objs.size:=PySem.W.hideAll_size _ _
theorem Md{h:Heap}{H:Hp}{b:Addr}{o:Obj}(e:h.get? b=some o)(n:H b=none):(ES h H).get? b=some o:=
 PySem.W.hideAll_get _ e λhm=>by
  have q:(H b).isSome=true:=(List.mem_filter.mp hm).2;rw[n]at q;simp at q
theorem OQ{h:Heap}{H:Hp}{b:Addr}{o:Obj}(e:(ES h H).get? b=some o):h.get? b=some o/\H b=none:=by
 have e':h.get? b=some o:=PySem.W.of_hideAll (Up h H) e;refine⟨e',?_⟩;cases q:H b with
 |none=>rfl
 |some x=>
  have hm:b∈Up h H:=List.mem_filter.mpr ⟨List.mem_range.mpr (aY e'),by simp[q]⟩;have z:(ES h H).get? b=none:=PySem.W.hideAll_none (Up h H) hm;rw[z]at e;cases e
structure Mod(K:PySem.W.Frag)(mg:Str->Option Value)(base:Heap):Prop where
 Qx:K.In base
 glob:base.Ns mainGlobals mg
 blt:∃mb,base.Ns builtinsNs mb/\∀x:Str,x≠"__name__"->mb x=bootBuiltins x
 nolimit:base.NoLimit
structure Cx where
 prog:Program
 w:World
 K:PySem.W.Frag
 mg:Str->Option Value
 base:Heap
 A:Around
 N:List Str
 xJ:Shared
 Rh:Hp
 env:Env
 outer:List Env
 stack:List Env
 ex:List Addr
 fn:Str->Bool
 calm:Bool
 pn:List (Addr×Obj)
 xe:Value->Shared->Prop
noncomputable def xM(l:List Env):List Addr:=l.filterMap (·.frame)
abbrev Cx.fs(X:Cx):List Addr:=xM X.outer
def SG(sc:Scope)(x:Str):Prop:=sc.names.lookup x=some .local\/sc.names.lookup x=some .cell\/sc.names.lookup x=some .free
def Loc(sc:Scope)(x:Str):Prop:=sc.names.lookup x=some .local\/sc.names.lookup x=some .cell
def Look(env:Env)(h:Heap)(m:Str->Option Value)(x:Str)(u:Value):Prop:=
 (env.kindOf x=some .local/\m x=some u)\/((env.kindOf x=some .cell\/env.kindOf x=some .free)/\∃c,env.cells.lookup x=some c/\h.IsCell c (some u))
structure Cx.Ok(X:Cx):Prop where
 mod:Mod X.K X.mg X.base
 kind:X.env.scope.kind= .function
 glob:X.env.globals=mainGlobals
 blt:X.env.builtins=builtinsNs
 above:X.xJ.heap.objs.size<=X.env.locals
 inj:∀x y c,X.env.cells.lookup x=some c->X.env.cells.lookup y=some c->x=y
 has:∀x,(X.env.kindOf x=some .cell\/X.env.kindOf x=some .free)->∃c,X.env.cells.lookup x=some c
 Ri:∀x c,X.fn x=true->X.env.cells.lookup x=some c->X.xJ.heap.objs.size<=c
 hd:X.calm=true->X.A.handled=none
 frames:X.A.frames=some X.stack
 SH:X.stack=X.outer\/(X.stack=X.env::X.outer/\X.env.frame=some X.env.locals)
 SI:∀b∈X.ex,b≠X.env.locals/\∀x c,X.env.cells.lookup x=some c->c≠b
 bs:∀b o,X.base.get? b=some o->X.xJ.heap.get? b=some o/\X.Rh b=none
 Me:X.base.objs.size<=X.xJ.heap.objs.size
 HX:∀b o,X.base.get? b=some o->b∉X.ex
 HY:∀b∈X.ex,b∉X.fs
 wZ:X.xJ.heap.FunFrames X.base X.outer
 OR:∀b∈X.fs,X.Rh b=none
structure Inv(X:Cx)(pins:List (Addr×Obj))(σ:List (Option V))(H:Hp)(s:Shared):Prop where
 ok:X.Ok
 os:s.os=X.xJ.os
 bare:AllBare s.gens
 base:Un X.fs X.ex X.Rh H X.xJ.heap s.heap
 loc:∃m,s.heap.Ns X.env.locals m/\∀(i:Nat)(x:Str)(v:V),X.N[i]?=some x->σ[i]?=some (some v)->SG X.env.scope x->∃u,RelV v u/\Look X.env s.heap m x u
 cell:∀x c,X.env.cells.lookup x=some c->∃v,s.heap.IsCell c v
 free:H X.env.locals=none
 kJ:∀x c,X.env.cells.lookup x=some c->H c=none
 pin:∀p∈X.pn++pins,s.heap.get? p.1=some p.2/\H p.1=none/\p.1≠X.env.locals/\p.1∉X.fs/\∀v,p.2.data≠ .cell v
 dI:sr X.prog X.w H s.heap
 len:σ.length=X.N.length
section
variable{X:Cx}{pins:List (Addr×Obj)}{σ:List (Option V)}{H H':Hp}{s:Shared}{h':Heap}
theorem Cx.Ok.UE(ok:X.Ok){b:Addr}{o:Obj}(e:X.base.get? b=some o):b∉X.fs:=λhb=>by
 have:=(ok.wZ.mem hb).1;rw[e]at this;cases this
theorem Inv.bs(I:Inv X pins σ H s):∀b o,X.base.get? b=some o->s.heap.get? b=some o/\H b=none:=λb o e=>
 ⟨I.base.keep b o (I.ok.bs b o e).1 (I.ok.bs b o e).2 (I.ok.UE e) (I.ok.HX b o e),I.base.free b o (I.ok.bs b o e).1 (I.ok.bs b o e).2 (I.ok.HX b o e)⟩
theorem Inv.bk(I:Inv X pins σ H s):∀b o,X.base.get? b=some o->s.heap.get? b=some o:=λb o e=>(I.bs b o e).1
theorem Inv.mod(I:Inv X pins σ H s):Mod X.K X.mg X.base:=I.ok.mod
theorem Inv.vL(I:Inv X pins σ H s):X.K.In s.heap:=I.ok.mod.Qx.keeps I.bk
theorem Inv.lt(I:Inv X pins σ H s):X.env.locals<s.heap.objs.size:=let⟨_,hn,_⟩:=I.loc;hn.lt
theorem Inv.sz(I:Inv X pins σ H s):X.xJ.heap.objs.size<=s.heap.objs.size:=be I.ok.above (ll I.lt)
theorem Inv.UG(I:Inv X pins σ H s){a:Addr}(h:s.heap.objs.size<=a):a∉X.fs:=λhb=>by
 obtain⟨_,o,ho,_⟩:=I.ok.wZ.mem hb;exact absurd (aZ (aY ho) (be I.sz h)) (cV _)
theorem Inv.Qy(I:Inv X pins σ H s):∀x c,X.env.cells.lookup x=some c->c≠X.env.locals:=λx c e z=>by
 obtain⟨v,o,ho,hd⟩:=I.cell x c e;obtain⟨m,⟨o',es,ep,ho',hd',_⟩,_⟩:=I.loc;rw[z,ho']at ho;cases ho;rw[hd']at hd;cases hd
theorem Inv.wZ(I:Inv X pins σ H s):s.heap.FunFrames X.base X.outer:=by
 have all:∀(l:List Env),(∀b∈xM l,b∈X.fs)->X.xJ.heap.FunFrames X.base l->s.heap.FunFrames X.base l:=by
  intro l
  induction l with
  |nil=>intro _ _;trivial
  |cons env r ih=>
   intro hs hl;obtain⟨hk,⟨L,o,hf,hn,ho,hd⟩,hr⟩:=hl;have hL:L∈X.fs:=hs L (by unfold xM;rw[HD,hf];exact aV);obtain⟨sl,e⟩:=I.base.slot L o ho (I.ok.OR L hL) hL λz=>I.ok.HY L z hL;exact⟨hk,⟨L,_,hf,hn,e,hd⟩,ih (λb hb=>hs b (by unfold xM;rw[HD,hf];exact aL _ hb)) hr⟩
 exact all X.outer (λ_ hb=>hb) I.ok.wZ
theorem Inv.stack(I:Inv X pins σ H s):s.heap.FunFrames X.base X.stack:=by
 rcases I.ok.SH with e|⟨e,hf⟩
 ·rw[e];exact I.wZ
 ·rw[e];obtain⟨m,hn,_⟩:=I.loc;refine .cons (by rw[I.ok.kind];decide) hf hn ?_ I.wZ;exact Heap.get?_none_of_le (be I.ok.Me I.ok.above)
theorem Inv.ET(I:Inv X pins σ H s):∀b∈xM X.stack,b∈X.env.locals::X.fs:=λb hb=>by
 rcases I.ok.SH with e|⟨e,hf⟩
 ·rw[e]at hb;exact aL _ hb
 ·rw[e]at hb;unfold xM at hb;rw[HD,hf]at hb;exact hb
theorem Inv.Bi(I:Inv X pins σ H s):∀b∈xM X.stack,H b=none:=λb hb=>by
 rcases List.mem_cons.mp (I.ET b hb)with e|hb
 ·rw[e];exact I.free
 ·obtain⟨_,o,ho,_⟩:=I.ok.wZ.mem hb;exact I.base.free b o ho (I.ok.OR b hb) λz=>I.ok.HY b z hb
theorem Inv.step{g':Array GenState}{t':Nat}{d':Drawn}{ch:List Addr}(I:Inv X pins σ H s)
 (hch:∀b∈ch,(b∈X.ex\/X.xJ.heap.objs.size<=b)/\b≠X.env.locals/\(∀x c,X.env.cells.lookup x=some c->c≠b)/\∀p∈X.pn++pins,p.1≠b)
 (keep:∀b o,b≠X.env.locals->b∉X.fs->b∉ch->s.heap.get? b=some o->H b=none->h'.get? b=some o)
 (slot:∀b o,b≠X.env.locals->b∈X.fs->b∉ch->s.heap.get? b=some o->H b=none->∃sl,h'.get? b=some {o with slots:=sl}) (free:∀b o,b∉ch->s.heap.get? b=some o->H b=none->H' b=none)
 (there:∀b o,b∉ch->s.heap.get? b=some o->∃o',h'.get? b=some o')
 (By:∀b xs,H b=some (.tup xs)->H' b=some (.tup xs)) (zl:∀b o u,H b=some (.j0 o u)->H' b=some (.j0 o u)) (Bz:∀b ps,H b=some (.Rf ps)->∃more,H' b=some (.Rf (ps++more)))
 (ns:∀m,s.heap.Ns X.env.locals m->h'.Ns X.env.locals m) (dI:sr X.prog X.w H' h') (hg:AllBare g'):
 Inv X pins σ H' {s with heap:=h',gens:=g',drawn:=d',toks:=t'}:=by
 have neL:∀b o,X.xJ.heap.get? b=some o->b≠X.env.locals:=λb o e=>bZ (aZ (aY e) I.ok.above);have neC:∀b o,X.xJ.heap.get? b=some o->b∉X.ex->b∉ch:=λb o e hx hb=>by
  rcases(hch b hb).1 with z|z
  ·exact hx z
  ·exact absurd (aZ (aY e) z) (cV _)
 have cellK:∀x c,X.env.cells.lookup x=some c->∀v,s.heap.IsCell c v->h'.IsCell c v:=λx c e v ⟨o,ho,hd⟩=>by
  have nch:c∉ch:=λz=>(hch c z).2.2.1 x c e rfl;by_cases hc:c∈X.fs
  ·obtain⟨sl,q⟩:=slot c o (I.Qy x c e) hc nch ho (I.kJ x c e);exact⟨_,q,hd⟩
  ·exact⟨o,keep c o (I.Qy x c e) hc nch ho (I.kJ x c e),hd⟩
 refine⟨I.ok,I.os,hg,⟨λb o e n hb hx=>?_,λb o e n hb hx=>?_,λb o e n hx=>?_,λb o e hx=>?_,λb xs e=>By b xs (I.base.By b xs e),λb o xs e=>zl b o xs (I.base.zl b o xs e),λb ps e=>?_⟩,?_,λx c e=>?_,?_,λx c e=>?_,λp hp=>?_,dI,I.len⟩
 ·exact keep b o (neL b o e) hb (neC b o e hx) (I.base.keep b o e n hb hx) (I.base.free b o e n hx)
 ·obtain⟨sl,e1⟩:=I.base.slot b o e n hb hx;obtain⟨sl',e2⟩:=slot b _ (neL b o e) hb (neC b o e hx) e1 (I.base.free b o e n hx);exact⟨sl',e2⟩
 ·obtain⟨o',e1⟩:=I.base.there b o e hx;exact free b o' (neC b o e hx) e1 (I.base.free b o e n hx)
 ·obtain⟨o',e1⟩:=I.base.there b o e hx;exact there b o' (neC b o e hx) e1
 ·obtain⟨m1,e1⟩:=I.base.Bz b ps e;obtain⟨m2,e2⟩:=Bz b _ e1;exact⟨m1++m2,by rw[e2,Array.append_assoc]⟩
 ·obtain⟨m,hn,hl⟩:=I.loc;refine⟨m,ns m hn,λi x v e1 e2 e3=>?_⟩;obtain⟨u,r,l⟩:=hl i x v e1 e2 e3;refine⟨u,r,?_⟩;rcases l with l|⟨k,c,e,z⟩
  ·exact .inl l
  ·exact .inr ⟨k,c,e,cellK x c e _ z⟩
 ·obtain⟨v,z⟩:=I.cell x c e;exact⟨v,cellK x c e v z⟩
 ·obtain⟨m,⟨o,_,_,ho,_⟩,_⟩:=I.loc;exact free _ o (λz=>(hch _ z).2.1 rfl) ho I.free
 ·obtain⟨v,o,ho,hd⟩:=I.cell x c e;exact free c o (λz=>(hch c z).2.2.1 x c e rfl) ho (I.kJ x c e)
 ·obtain⟨e,n,ne,nf,d⟩:=I.pin p hp;have nch:p.1∉ch:=λz=>(hch p.1 z).2.2.2 p hp rfl;exact⟨keep p.1 p.2 ne nf nch e n,free p.1 p.2 nch e n,ne,nf,d⟩
theorem Inv.un{t':Nat}(I:Inv X pins σ H s)(u:Un X.fs [] H H' s.heap h')(dI:sr X.prog X.w H' h'):Inv X pins σ H' {s with heap:=h',toks:=t'}:=by
 obtain⟨m,⟨o,es,ep,ho,r⟩,_⟩:=id I.loc;obtain⟨sl,hL⟩:=u.any ho I.free (by simp);exact I.step (g':=s.gens) (d':=s.drawn) (ch:=[]) (λ_ z=>nomatch z) (λb o _ hb _ e n=>u.keep b o e n hb (by simp)) (λb o _ hb _ e n=>u.slot b o e n hb (by simp)) (λb o _ e n=>u.free b o e n (by simp)) (λb o _ e=>u.there b o e (by simp)) u.By u.zl u.Bz (λm' hm=>by
  obtain⟨o',es',ep',ho',r'⟩:=hm;rw[ho]at ho';cases ho';exact⟨_,es',ep',hL,r'⟩) dI I.bare
theorem Inv.call{g':Array GenState}{t':Nat}{d':Drawn}{ch:List Addr}(I:Inv X pins σ H s)(u:Un (xM X.stack) ch H H' s.heap h')(dI:sr X.prog X.w H' h')(hg:AllBare g')
 (hch:∀b∈ch,(b∈X.ex\/X.xJ.heap.objs.size<=b)/\b≠X.env.locals/\(∀x c,X.env.cells.lookup x=some c->c≠b)/\∀p∈X.pn++pins,p.1≠b):
 Inv X pins σ H' {s with heap:=h',gens:=g',drawn:=d',toks:=t'}:=by
 obtain⟨m,⟨o,es,ep,ho,r⟩,_⟩:=id I.loc;obtain⟨sl,hL⟩:=u.any ho I.free λz=>(hch _ z).2.1 rfl;exact I.step (ch:=ch) hch (λb o hL hb hc e n=>u.keep b o e n (λz=>(List.mem_cons.mp (I.ET b z)).elim hL hb) hc) (λb o _ _ hc e n=>u.any e n hc) (λb o hc e n=>u.free b o e n hc) (λb o hc e=>u.there b o e hc) u.By u.zl u.Bz (λm' hm=>by
  obtain⟨o',es',ep',ho',r'⟩:=hm;rw[ho]at ho';cases ho';exact⟨_,es',ep',hL,r'⟩) dI hg
theorem Inv.turned{t':Nat}{it:Addr}(I:Inv X pins σ H s)(k:∀b o,b≠it->s.heap.get? b=some o->h'.get? b=some o)(hn:H it=none)(hL:it≠X.env.locals)
 (h1:it∈X.ex\/X.xJ.heap.objs.size<=it) (h2:∀x c,X.env.cells.lookup x=some c->c≠it) (h3:∀p∈X.pn++pins,p.1≠it):Inv X pins σ H {s with heap:=h',toks:=t'}:=by
 have nit:∀b u,H b=some u->b≠it:=λb u e z=>by rw[z,hn]at e;cases e
 refine I.step (g':=s.gens) (d':=s.drawn) (ch:=[it]) (λb hb=>?_) (λb o _ _ hc e _=>k b o (λz=>hc (by simp[z])) e) (λb o _ _ hc e _=>⟨o.slots,k b o (λz=>hc (by simp[z])) e⟩) (λ_ _ _ _ n=>n)
  (λb o hc e=>⟨o,k b o (λz=>hc (by simp[z])) e⟩) (λ_ _ e=>e) (λ_ _ _ e=>e) (λb ps e=>⟨#[],by rw[e];simp⟩) (λm hm=>?_) (λb u e=>?_) I.bare
 ·have e:b=it:=by simpa using hb
  subst e;exact⟨h1,hL,h2,h3⟩
 ·obtain⟨o,es,ep,ho,r⟩:=hm;exact⟨o,es,ep,k _ o (bh hL) ho,r⟩
 ·refine(I.dI b u e).tE (λc v hc q=>k c v ?_ q) (λ_ q=>q) λ_ _ q=>q;rcases hc with z|z
  ·rw[z];exact nit b u e
  ·exact nit c _ z
theorem Inv.tok(I:Inv X pins σ H s)(t:Nat):Inv X pins σ H {s with toks:=t}:=I.un (h':=s.heap) (t':=t) Un.refl I.dI
theorem Inv.kept{t':Nat}(I:Inv X pins σ H s)(k:∀b u,s.heap.get? b=some u->h'.get? b=some u):Inv X pins σ H {s with heap:=h',toks:=t'}:=I.un (Un.kept k) (I.dI.kept k)
theorem Inv.laid{a:Addr}{o:HO}{t':Nat}(I:Inv X pins σ H s)(k:∀b u,s.heap.get? b=some u->h'.get? b=some u)(hp:s.heap.objs.size<=a)(new:eI X.prog X.w (upd H a o) h' a o):
 Inv X pins σ (upd H a o) {s with heap:=h',toks:=t'}:=I.un (Un.laid k hp (I.dI.fresh hp)) (I.dI.laid k hp new)
theorem Inv.write{x e:Addr}{o:HO}{t':Nat}(I:Inv X pins σ H s)(mu:Qw (H x))(he:e=x\/H e=some (.own x))(k:∀b u,b≠e->s.heap.get? b=some u->h'.get? b=some u)(heo:∃u,h'.get? e=some u)
 (new:eI X.prog X.w (upd H x o) h' x o):Inv X pins σ (upd H x o) {s with heap:=h',toks:=t'}:=I.un (Un.write mu he k heo) (I.dI.write mu he k heo new)
theorem Inv.weak{σ':List (Option V)}(I:Inv X pins σ H s)(hl:σ'.length=σ.length)(w:∀(i:Nat) v,σ'[i]?=some (some v)->σ[i]?=some (some v)):Inv X pins σ' H s:=
 ⟨I.ok,I.os,I.bare,I.base,let⟨m,hn,hl'⟩:=I.loc;⟨m,hn,λi x v e1 e2 e3=>hl' i x v e1 (w i v e2) e3⟩,I.cell,I.free,I.kJ,I.pin,I.dI,hl.trans I.len⟩
theorem Inv.EU{pins':List (Addr×Obj)}(I:Inv X pins σ H s)(h:∀p∈pins',s.heap.get? p.1=some p.2/\H p.1=none/\p.1≠X.env.locals/\p.1∉X.fs/\∀v,p.2.data≠ .cell v):Inv X pins' σ H s:=
 ⟨I.ok,I.os,I.bare,I.base,I.loc,I.cell,I.free,I.kJ,λp hp=>(List.mem_append.mp hp).elim (λz=>I.pin p (cY _ z)) (h p),I.dI,I.len⟩
theorem BA{N:List Str}(hN:N.Nodup){i j:Nat}{x:Str}(a:N[i]?=some x)(b:N[j]?=some x):i=j:=by
 obtain⟨h1,e1⟩:=List.getElem?_eq_some_iff.mp a;obtain⟨h2,e2⟩:=List.getElem?_eq_some_iff.mp b;exact(List.getElem_inj hN).mp (e1.trans e2.symm)
theorem DW{M:Model}{A:Around}{E:Value->Shared->Prop}{i:Nat}{x:Str}{v:V}{u:Value}{Q:Unit->Shared->Prop}(I:Inv X pins σ H s)(hN:X.N.Nodup)(hi:X.N[i]?=some x)(hx:Loc X.env.scope x)(r:RelV v u)
 (h:∀s',Inv X pins (σ.set i (some v)) H s'->(∃a,Heap.SameBut a s.heap s'.heap/\(a=X.env.locals\/X.env.cells.lookup x=some a))->Q () s') (hf:X.fn x=true\/X.env.scope.names.lookup x=some .local:=by first|exact .inl rfl|exact .inr rfl|assumption):wpAny M A (storeName X.env x u) Q E s:=by
 obtain⟨m,hn,hl⟩:=id I.loc;have hcls:(X.env.scope.kind== .class||(X.env.scope.kind== .module&&X.env.locals !=X.env.globals))=false:=by rw[I.ok.kind];rfl
 have hiσ:i<σ.length:=by rw[I.len];exact(List.getElem?_eq_some_iff.mp hi).1
 have Qy:=I.Qy;have tracked:∀{a:Addr}{h':Heap},(∃o,s.heap.get? a=some o/\H a=none)->Heap.SameBut a s.heap h'->sr X.prog X.w H h':=λ{a h'} ha hs b ob e=>by
  obtain⟨_,_,hfree⟩:=ha;refine(I.dI b ob e).tE (λc w' hc q=>(hs.2 c ?_).trans q) (λ_ q=>q) λ_ _ q=>q;rintro rfl;rcases hc with rfl|hc
  ·rw[hfree]at e;cases e
  ·rw[hfree]at hc;cases hc
 rcases hx with hk|hk
 ·refine wpAny_storeName_local hk hn (λh' hn' hs=>?_) hcls;obtain⟨oL,_,_,hoL,_⟩:=id hn;refine h _ ⟨I.ok,I.os,I.bare,⟨λb o e n hb hx=>?_,λb o e n hb hx=>?_,I.base.free,λb o e hx=>?_,I.base.By,I.base.zl,I.base.Bz⟩,⟨_,hn',λj y v' e1 e2 e3=>?_⟩,λy c e=>?_,I.free,I.kJ,λp hp=>?_,tracked ⟨oL,hoL,I.free⟩ hs,by simpa using I.len⟩ ⟨_,hs,.inl rfl⟩
  ·exact(hs.2 b (bZ (aZ (aY e) I.ok.above))).trans (I.base.keep b o e n hb hx)
  ·obtain⟨sl,e1⟩:=I.base.slot b o e n hb hx;exact⟨sl,(hs.2 b (bZ (aZ (aY e) I.ok.above))).trans e1⟩
  ·obtain⟨o',e1⟩:=I.base.there b o e hx;exact⟨o',(hs.2 b (bZ (aZ (aY e) I.ok.above))).trans e1⟩
  ·by_cases hj:j=i
   ·subst hj;rw[hi]at e1;cases e1;rw[fX hiσ]at e2;cases e2;exact⟨u,r,.inl ⟨hk,by simp⟩⟩
   ·rw[gQ (bh hj)]at e2;obtain⟨u',r',q⟩:=hl j y v' e1 e2 e3;refine⟨u',r',?_⟩;rcases q with⟨k,e⟩|⟨k,c,e,z⟩
    ·refine .inl ⟨k,?_⟩;have:y≠x:=λe=>hj (BA hN e1 (e▸hi));simp[this,e]
    ·exact .inr ⟨k,c,e,z.sameBut hs (Qy y c e)⟩
  ·obtain⟨w',z⟩:=I.cell y c e;exact⟨w',z.sameBut hs (Qy y c e)⟩
  ·obtain⟨e,n,ne,nf,d⟩:=I.pin p hp;exact⟨(hs.2 p.1 ne).trans e,n,ne,nf,d⟩
 ·have hfn:X.fn x=true:=by
   rcases hf with z|z
   ·exact z
   ·rw[z]at hk;cases hk
  obtain⟨c,hc⟩:=I.ok.has x (.inl hk);obtain⟨w',z⟩:=I.cell x c hc;refine wpAny_storeName_cell I.ok.kind hk hc z (λh' hc' hs=>?_);obtain⟨oc,hoc,hocd⟩:=id z;refine h {s with heap:=h'} ⟨I.ok,I.os,I.bare,⟨λb o e n hb hx=>?_,λb o e n hb hx=>?_,I.base.free,λb o e hx=>?_,I.base.By,I.base.zl,I.base.Bz⟩,⟨m,hn.sameBut hs (bh (Qy x c hc)),λj y v' e1 e2 e3=>?_⟩,λy c' e=>?_,I.free,I.kJ,λp hp=>?_,tracked ⟨oc,hoc,I.kJ x c hc⟩ hs,by simpa using I.len⟩ ⟨c,hs,.inr hc⟩
  ·exact(hs.2 b (bZ (aZ (aY e) (I.ok.Ri x c hfn hc)))).trans (I.base.keep b o e n hb hx)
  ·obtain⟨sl,e1⟩:=I.base.slot b o e n hb hx;exact⟨sl,(hs.2 b (bZ (aZ (aY e) (I.ok.Ri x c hfn hc)))).trans e1⟩
  ·obtain⟨o',e1⟩:=I.base.there b o e hx;exact⟨o',(hs.2 b (bZ (aZ (aY e) (I.ok.Ri x c hfn hc)))).trans e1⟩
  ·by_cases hj:j=i
   ·subst hj;rw[hi]at e1;cases e1;rw[fX hiσ]at e2;cases e2;exact⟨u,r,.inr ⟨.inl hk,c,hc,hc'⟩⟩
   ·rw[gQ (bh hj)]at e2;obtain⟨u',r',q⟩:=hl j y v' e1 e2 e3;refine⟨u',r',?_⟩;rcases q with q|⟨k,c',e,z'⟩
    ·exact .inl q
    ·refine .inr ⟨k,c',e,z'.sameBut hs ?_⟩;rintro rfl;exact hj (BA hN e1 (I.ok.inj _ _ _ e hc▸hi))
  ·by_cases hcc:c'=c
   ·subst hcc;exact⟨_,hc'⟩
   ·obtain⟨w2,z2⟩:=I.cell y c' e;exact⟨w2,z2.sameBut hs hcc⟩
  ·obtain⟨e,n,ne,nf,d⟩:=I.pin p hp;refine⟨(hs.2 p.1 ?_).trans e,n,ne,nf,d⟩;intro q;rw[q,hoc]at e;have q':oc=p.2:=bX e;exact d w' (by rw[<-q'];exact hocd)
theorem xN{M:Model}{A:Around}{E:Value->Shared->Prop}{i:Nat}{x:Str}{v:V}{u:Value}{Q:Unit->Shared->Prop}(I:Inv X pins σ H s)(hN:X.N.Nodup)(hi:X.N[i]?=some x)(hx:Loc X.env.scope x)(r:RelV v u)
 (h:∀s',Inv X pins (σ.set i (some v)) H s'->Q () s') (hf:X.fn x=true\/X.env.scope.names.lookup x=some .local:=by first|exact .inl rfl|exact .inr rfl|assumption):wpAny M A (storeName X.env x u) Q E s:=
 DW I hN hi hx r (λs' I' _=>h s' I') hf
theorem Inv.Qz{s':Shared}{ch:List Addr}(I:Inv X pins σ H s)(ho:s'.os=s.os)(u:Un (xM X.stack) ch H H' s.heap s'.heap)(dI:sr X.prog X.w H' s'.heap)(hg:AllBare s'.gens)
 (hch:∀b∈ch,(b∈X.ex\/X.xJ.heap.objs.size<=b)/\b≠X.env.locals/\(∀x c,X.env.cells.lookup x=some c->c≠b)/\∀p∈X.pn++pins,p.1≠b):Inv X pins σ H' s':=by
 obtain⟨h',g',d',t',o'⟩:=s';have e:o'=s.os:=ho;subst e;exact I.call (g':=g') (t':=t') (d':=d') u dI hg hch
end
abbrev XK:=Value->Option Addr->Hp->Prop
abbrev St:=List (Option V)
abbrev VK:=V->Hp->Prop
abbrev TE:=St->Hp->VK->Prop
abbrev TT:=St->Hp->(Bool->Hp->Prop)->Prop
abbrev TA:=St->Hp->(List V->Hp->Prop)->Prop
structure Ends where
 nx:St->Hp->Prop
 rt:VK
 bk:St->Hp->Prop:=λ_ _=>False
 ct:St->Hp->Prop:=λ_ _=>False
abbrev TS:=Ends->St->Hp->Prop
def EP(X:Cx)(pins:List (Addr×Obj))(σ:St)(Q:VK)(u:Value)(s':Shared):Prop:=∃v H',Inv X pins σ H' s'/\RelV v u/\Q v H'
def TP(X:Cx)(pins:List (Addr×Obj))(σ:St)(Q:Bool->Hp->Prop)(b:Bool)(s':Shared):Prop:=∃H',Inv X pins σ H' s'/\Q b H'
def AP(X:Cx)(pins:List (Addr×Obj))(σ:St)(Q:List V->Hp->Prop)(us:List Value)(s':Shared):Prop:=∃vs H',Inv X pins σ H' s'/\cE vs us/\Q vs H'
def SP(X:Cx)(pins:List (Addr×Obj))(D:Ends)(f:Flow)(s':Shared):Prop:=
 match f with
 | .next=>∃σ' H',Inv X pins σ' H' s'/\D.nx σ' H'
 | .brk=>∃σ' H',Inv X pins σ' H' s'/\D.bk σ' H'
 | .cont=>∃σ' H',Inv X pins σ' H' s'/\D.ct σ' H'
 | .ret u=>∃v σ' H',Inv X pins σ' H' s'/\RelV v u/\D.rt v H'
def PE(X:Cx)(e:Expr)(t:TE):Prop:=
 ∀(pins:List (Addr×Obj))(s:Shared)(σ:St)(H:Hp)(Q:VK),Inv X pins σ H s->t σ H Q->wpAny (model X.prog X.w) X.A (eval e X.env) (EP X pins σ Q) X.xe s
def PT(X:Cx)(e:Expr)(t:TT):Prop:=
 ∀(pins:List (Addr×Obj))(s:Shared)(σ:St)(H:Hp)(Q:Bool->Hp->Prop),Inv X pins σ H s->t σ H Q->wpAny (model X.prog X.w) X.A (isTrue e X.env (eval e X.env)) (TP X pins σ Q) X.xe s
def PW(X:Cx)(e:Expr)(t:TT):Prop:=
 ∀(whole:Sem Value)(pins:List (Addr×Obj))(s:Shared)(σ:St)(H:Hp)(Q:Bool->Hp->Prop),Inv X pins σ H s->t σ H Q->wpAny (model X.prog X.w) X.A (isTrue e X.env whole) (TP X pins σ Q) X.xe s
theorem PW.pt{X:Cx}{e:Expr}{t:TT}(h:PW X e t):PT X e t:=h _
def PA(X:Cx)(es:List Expr)(t:TA):Prop:=
 ∀(pos:Pos)(pins:List (Addr×Obj))(s:Shared)(σ:St)(H:Hp)(Q:List V->Hp->Prop),Inv X pins σ H s->t σ H Q->wpAny (model X.prog X.w) X.A (spliced (backTo pos (starEach es X.env))) (AP X pins σ Q) X.xe s
def PS(X:Cx)(st:Stmt)(t:TS):Prop:=
 ∀(pins:List (Addr×Obj))(s:Shared)(σ:St)(H:Hp)(D:Ends),Inv X pins σ H s->t D σ H->wpAny (model X.prog X.w) X.A (exec st X.env) (SP X pins D) X.xe s
def Gd(X:Cx)(st:List Stmt)(t:TS):Prop:=
 ∀(pins:List (Addr×Obj))(s:Shared)(σ:St)(H:Hp)(D:Ends),Inv X pins σ H s->t D σ H->wpAny (model X.prog X.w) X.A (execs st X.env) (SP X pins D) X.xe s
theorem eu{α:Type}{t:Sem α}{Q Q':α->Shared->Prop}{M:Model}{A:Around}{E:Value->Shared->Prop}{s:Shared}(h:wpAny M A t Q E s)(hQ:∀a s,Q a s->Q' a s):wpAny M A t Q' E s:=dN h hQ λ_ _ x=>x
section
variable{X:Cx}
def SO(i:Nat):TE:=λσ H Q=>∃v,σ[i]?=some (some v)/\Q v H
def tC(v:V):TE:=λ_ H Q=>Q v H
theorem Rj{i:Nat}{x:Str}{pos:Pos}(hN:X.N[i]?=some x)(hv:SG X.env.scope x)(hd:(x==("__debug__":Str))=false:=by decide)(hcd:(x==("__classdict__":Str))=false:=by decide):PE X (.Name x pos) (SO i):=by
 intro pins s σ H Q I h;obtain⟨v,e,h⟩:=h;obtain⟨m,hn,hl⟩:=I.loc;obtain⟨u,r,l⟩:=hl i x v hN e hv;have fin:EP X pins σ Q u s:=⟨v,H,I,r,h⟩;rcases l with⟨hk,hm⟩|⟨hk,c,hc,hcell⟩
 ·exact wpAny_Name (wpAny_loadName_local I.ok.kind hk hn hm fin) hd
 ·rcases hk with hk|hk
  ·exact wpAny_Name (wpAny_loadName_cell I.ok.kind hk hc hcell fin) hd
  ·exact wpAny_Name (wpAny_loadName_free I.ok.kind hk hc hcell fin hcd) hd
theorem aK{i j pos}:PE X (.Constant (.int i) j pos) (tC (.int i)):=λ_ _ _ H _ I h=>wpAny_Constant_int ⟨.int i,H,I.tok _,⟨_,rfl⟩,h⟩
theorem xO{b j pos}:PE X (.Constant (.bool b) j pos) (tC (.bl b)):=λ_ _ _ H _ I h=>Constant_bool ⟨.bl b,H,I,rfl,h⟩
theorem Mf{j pos}:PE X (.Constant .none j pos) (tC .gb):=λ_ _ _ H _ I h=>Constant_none ⟨.gb,H,I,rfl,h⟩
theorem fN{x j pos}:PE X (.Constant (.str x) j pos) (tC (.str x)):=λ_ _ _ H _ I h=>Calls.Constant_str ⟨.str x,H,I.tok _,⟨_,rfl⟩,h⟩
def Gl(X:Cx)(x:Str):Prop:=X.env.kindOf x=some .globalImplicit
theorem nY{E:Value->Shared->Prop}{pins:List (Addr×Obj)}{s:Shared}{σ:St}{H:Hp}{x:Str}{u:Value}{pos:Pos}{Q:Value->Shared->Prop}(I:Inv X pins σ H s)(hg:Gl X x)(hm:X.mg x=some u)(h:Q u s)
 (hd:(x==("__debug__":Str))=false:=by decide):wpAny (model X.prog X.w) X.A (eval (.Name x pos) X.env) Q E s:=
 Calls.Name_function_global I.ok.kind hg (Calls.loadGlobal_global (by rw[I.ok.glob];exact I.mod.glob.keeps I.bk) hm h) hd
theorem HZ{E:Value->Shared->Prop}{pins:List (Addr×Obj)}{s:Shared}{σ:St}{H:Hp}{x:Str}{u:Value}{pos:Pos}{Q:Value->Shared->Prop}(I:Inv X pins σ H s)(hg:Gl X x)(hm:X.mg x=none)(hv:bootBuiltins x=some u)(h:Q u s)
 (hn:x≠"__name__":=by decide) (hd:(x==("__debug__":Str))=false:=by decide):wpAny (model X.prog X.w) X.A (eval (.Name x pos) X.env) Q E s:=by
 obtain⟨mb,h1,h2⟩:=I.mod.blt;exact Calls.Name_function_global I.ok.kind hg (Calls.loadGlobal_builtin (by rw[I.ok.glob];exact I.mod.glob.keeps I.bk) hm (by rw[I.ok.blt];exact h1.keeps I.bk) ((h2 x hn).trans hv) h) hd
theorem OS{x:Str}{v:V}{u:Value}{pos:Pos}(hg:Gl X x)(hm:X.mg x=some u)(r:RelV v u)(hd:(x==("__debug__":Str))=false:=by decide):PE X (.Name x pos) (tC v):=
 λ_ _ _ H _ I h=>nY I hg hm ⟨v,H,I,r,h⟩ hd
variable{a b:Expr}{ta tb:TE}{pos:Pos}
def PC(X:Cx)(op:CmpOp)(a b:Expr)(t:TE):Prop:=
 ∀(pins:List (Addr×Obj))(s:Shared)(σ:St)(H:Hp)(Q:VK),Inv X pins σ H s->t σ H Q->
  wpAny (model X.prog X.w) X.A (eval a X.env) (λv s₁=>wpAny (model X.prog X.w) X.A (eval b X.env) (λu s₂=>wpAny (model X.prog X.w) X.A (compareOp op v u) (EP X pins σ Q) X.xe s₂) X.xe s₁) X.xe s
def tB(t:TE):TT:=λσ H Q=>t σ H λx H1=>∃c,x= .bl c/\Q c H1
theorem BB{op:CmpOp}{t:TE}(h:PC X op a b t)(h1:behindInMarks op b=false:=by first|exact SQ _ VW VW|rfl):PT X (.Compare a [op] [b] pos) (tB t):=by
 intro pins s σ H Q I hw;refine wpAny_isTrue_Compare1 (eu (h pins s σ H _ I hw) λv s1 h1=>eu h1 λu s2 h2=>eu h2 λc s3=>W6 λx H1=>W8 λI1 r1=>Xa λd=>W9 λe0_ q=>?_) h1;subst e0_;cases r1;exact fb ⟨H1,I1,q⟩
theorem iW{e:Expr}{t:TE}(h:PE X e t)(he:∀whole,isTrue e X.env whole=(do let v<-whole;standAt e.pos;holding [v] (truthy v)):=by intro _;rfl):PT X e (tB t):=by
 intro pins s σ H Q I hw;refine isTrue_plain (eu (h pins s σ H _ I hw) λv s1=>W6 λx H1=>W8 λI1 r1=>Xa λd=>W9 λe0_ q=>?_) (he _);subst e0_;cases r1;exact fb ⟨H1,I1,q⟩
variable{tA tB':TT}{rest:List Expr}
def UH(t u:TT):TT:=λσ H Q=>t σ H λc H1=>if c=true then u σ H1 Q else Q false H1
def Vz(t u:TT):TT:=λσ H Q=>t σ H λc H1=>if c=true then Q true H1 else u σ H1 Q
def UI(t:TT):TT:=λσ H Q=>t σ H λc H1=>Q (!c) H1
theorem vp(ha:PT X a tA):PW X (.BoolOp .And [a] pos) tA:=by
 intro wh pins s σ H Q I h;refine isTrue_and (eu (ha pins s σ H Q I h) λc s1 e=>?_);cases c with
 |true=>exact isTrue_and_nil e
 |false=>exact e
theorem tR(ha:PT X a tA):PW X (.BoolOp .Or [a] pos) tA:=by
 intro wh pins s σ H Q I h;refine isTrue_or (eu (ha pins s σ H Q I h) λc s1 e=>?_);cases c with
 |false=>exact isTrue_or_nil e
 |true=>exact e
theorem zm(ha:PT X a tA)(hb:PW X (.BoolOp .And (b::rest) pos) tB'):PW X (.BoolOp .And (a::b::rest) pos) (UH tA tB'):=by
 intro wh pins s σ H Q I h;refine isTrue_and (eu (ha pins s σ H _ I h) λc s1=>Xa λH1=>W9 λI1 q1=>?_);cases c with
 |true=>exact hb wh pins s1 σ H1 Q I1 q1
 |false=>exact⟨H1,I1,q1⟩
theorem Am(ha:PT X a tA)(hb:PW X (.BoolOp .Or (b::rest) pos) tB'):PW X (.BoolOp .Or (a::b::rest) pos) (Vz tA tB'):=by
 intro wh pins s σ H Q I h;refine isTrue_or (eu (ha pins s σ H _ I h) λc s1=>Xa λH1=>W9 λI1 q1=>?_);cases c with
 |true=>exact⟨H1,I1,q1⟩
 |false=>exact hb wh pins s1 σ H1 Q I1 q1
theorem qR(ha:PT X a tA):PT X (.UnaryOp .Not a pos) (UI tA):=by
 intro pins s σ H Q I h;exact isTrue_not (ha pins s σ H (λc H1=>Q (!c) H1) I h)
def SR(ta tb:TE):TE:=λσ H Q=>ta σ H λx H1=>∃c,x= .bl c/\if c=true then tb σ H1 Q else Q (.bl false) H1
def SS(ta:TE):TE:=λσ H Q=>ta σ H λx H1=>∃c,x= .bl c/\Q (.bl (!c)) H1
theorem Ia{op}{t:TE}(h:PE X a t):PE X (.BoolOp op [a] pos) t:=λpins s σ H Q I hw=>BoolOp_one (h pins s σ H Q I hw)
theorem Ib(ha:PE X a ta)(hb:PE X (.BoolOp .And (b::rest) pos) tb):PE X (.BoolOp .And (a::b::rest) pos) (SR ta tb):=by
 intro pins s σ H Q I h;refine BoolOp_and (eu (ha pins s σ H _ I h) λv s1 h_0=>?_);obtain⟨x,H1,I1,r1,q1⟩:=h_0;obtain⟨c,rfl,q1⟩:=q1;cases r1;refine fb ?_;cases c with
 |true=>exact hb pins s1 σ H1 Q I1 q1
 |false=>exact⟨.bl false,H1,I1,rfl,q1⟩
theorem Rk(ha:PE X a ta):PE X (.UnaryOp .Not a pos) (SS ta):=by
 intro pins s σ H Q I h;refine UnaryOp_ (eu (ha pins s σ H _ I h) λv s1 h_0=>?_);obtain⟨x,H1,I1,r1,q1⟩:=h_0;obtain⟨c,rfl,q1⟩:=q1;cases r1;exact not_of (fb ⟨.bl (!c),H1,I1,rfl,q1⟩)
def VA(t:TT)(ta tb:TE):TE:=λσ H Q=>t σ H λc H1=>if c=true then ta σ H1 Q else tb σ H1 Q
theorem tS{c:Expr}(hc:PT X c tA)(ha:PE X a ta)(hb:PE X b tb):PE X (.IfExp c a b pos) (VA tA ta tb):=by
 intro pins s σ H Q I h;refine wpAny_IfExp (eu (hc pins s σ H _ I h) λd s1=>Xa λH1=>W9 λI1 q1=>?_);cases d with
 |true=>exact ha pins s1 σ H1 Q I1 q1
 |false=>exact hb pins s1 σ H1 Q I1 q1
end
def cN(K:PySem.W.Frag)(H:Hp)(a:Addr)(xs:List V):Prop:=
 Rd H a (.lst xs)\/
  ∃(o:Obj)(its:Array Value)(n:Nat),K.lookup a=some o/\o.cls= .type "list"/\o.dict=none/\o.data= .seq its n/\its.size<=sizeLine/\cE xs its.toList
def iK(K:PySem.W.Frag)(H:Hp)(a:Addr)(xs:List V):Prop:=
 Rd H a (.tup xs)\/
  ∃(o:Obj)(its:Array Value)(n:Nat),K.lookup a=some o/\o.cls= .type "tuple"/\o.data= .seq its n/\its.size<=sizeLine/\cE xs its.toList
noncomputable def UJ:Value->Option V
 | .none=>some .gb
 | .bool b=>some (.bl b)
 | .int i _=>some (.int i)
 | .str x _=>some (.str x)
 | .bytes b _=>some (.F9 b)
 | .float b _=>some (.Uo b)
 | .ref a=>some (.ref a)
 | .type n=>some (.ty n)
 |_=>none
theorem RelV.abs{x:V}{u:Value}(r:RelV x u):UJ u=some x:=by
 cases x with
 |gb=>cases r;rfl
 |bl _=>cases r;rfl
 |int _=>obtain⟨t,rfl⟩:=r;rfl
 |str _=>obtain⟨t,rfl⟩:=r;rfl
 |F9 _=>obtain⟨t,rfl⟩:=r;rfl
 |Uo _=>obtain⟨t,rfl⟩:=r;rfl
 |ref _=>cases r;rfl
 |ty _=>cases r;rfl
theorem RelV.inj{x y:V}{u:Value}(r:RelV x u)(q:RelV y u):x=y:=bX (r.abs.symm.trans q.abs)
theorem cE.inj:∀{xs ys:List V}{us:List Value},cE xs us->cE ys us->xs=ys
 |_,_,_,.nil,.nil=>rfl
 |_,_,_,.cons r t,.cons r' t'=>by rw[r.inj r',cE.inj t t']
section
variable{X:Cx}{pins:List (Addr×Obj)}{σ:St}{H:Hp}{s:Shared}{a:Addr}{xs ys:List V}
theorem cN.of{K:PySem.W.Frag}(h:H a=some (.lst xs)):cN K H a xs:= .inl (.inl h)
theorem iK.of{K:PySem.W.Frag}(h:H a=some (.tup xs)):iK K H a xs:= .inl (.inl h)
theorem Inv.list(I:Inv X pins σ H s)(h:cN X.K H a xs):∃its:List Value,cE xs its/\PlainL s.heap a its.toArray/\xs.length<=sizeLine:=by
 rcases h with h|⟨o,its,n,hk,hc,hd,hs,hz,r⟩
 ·obtain⟨z,its,n,r,e⟩:=h.ok I.dI;exact⟨its,r,⟨_,n,e,rfl,rfl,rfl⟩,z⟩
 ·refine⟨its.toList,r,⟨o,n,I.vL a o hk,hc,hd,by simpa using hs⟩,?_⟩;have e:=r.length;simp only[bY]at e;lia
theorem Inv.tuple(I:Inv X pins σ H s)(h:iK X.K H a xs):∃its:List Value,cE xs its/\IsTup s.heap a its.toArray/\xs.length<=sizeLine:=by
 rcases h with h|⟨o,its,n,hk,hc,hs,hz,r⟩
 ·obtain⟨z,its,r,p⟩:=h.ok I.dI;exact⟨its,r,p,z⟩
 ·refine⟨its.toList,r,⟨o,I.vL a o hk,hc,n,by simpa using hs⟩,?_⟩;have e:=r.length;simp only[bY]at e;lia
theorem Inv.Mg(I:Inv X pins σ H s)(h:cN X.K H a xs)(h':cN X.K H a ys):xs=ys:=by
 obtain⟨its,r,⟨o,n,e,_,_,d⟩,_⟩:=I.list h;obtain⟨its',r',⟨o',n',e',_,_,d'⟩,_⟩:=I.list h';rw[e]at e';cases e';rw[d]at d';injection d' with d1 _
 have:its=its':=by simpa using bJ Array.toList d1
 subst this;exact r.inj r'
theorem Inv.KO(I:Inv X pins σ H s)(h:iK X.K H a xs)(h':iK X.K H a ys):xs=ys:=by
 obtain⟨its,r,⟨o,e,_,n,d⟩,_⟩:=I.tuple h;obtain⟨its',r',⟨o',e',_,n',d'⟩,_⟩:=I.tuple h';rw[e]at e';cases e';rw[d]at d';injection d' with d1 _
 have:its=its':=by simpa using bJ Array.toList d1
 subst this;exact r.inj r'
end
abbrev Cx.BC(X:Cx)(E:Value->Shared->Prop):Cx:={X with xe:=E}
theorem Cx.Ok.BC{X:Cx}(ok:X.Ok)(E:Value->Shared->Prop):(X.BC E).Ok:=
 ⟨ok.mod,ok.kind,ok.glob,ok.blt,ok.above,ok.inj,ok.has,ok.Ri,ok.hd,ok.frames,ok.SH,ok.SI,ok.bs,ok.Me,ok.HX,ok.HY,ok.wZ,ok.OR⟩
theorem Cx.Ok.qS{X:Cx}{E:Value->Shared->Prop}(ok:(X.BC E).Ok):X.Ok:=
 ⟨ok.mod,ok.kind,ok.glob,ok.blt,ok.above,ok.inj,ok.has,ok.Ri,ok.hd,ok.frames,ok.SH,ok.SI,ok.bs,ok.Me,ok.HX,ok.HY,ok.wZ,ok.OR⟩
section
variable{X:Cx}{pins:List (Addr×Obj)}{σ:St}{H:Hp}{s:Shared}{E:Value->Shared->Prop}
theorem Inv.BC(I:Inv X pins σ H s)(E:Value->Shared->Prop):Inv (X.BC E) pins σ H s:=⟨I.ok.BC E,I.os,I.bare,I.base,I.loc,I.cell,I.free,I.kJ,I.pin,I.dI,I.len⟩
theorem Inv.qS(I:Inv (X.BC E) pins σ H s):Inv X pins σ H s:=⟨I.ok.qS,I.os,I.bare,I.base,I.loc,I.cell,I.free,I.kJ,I.pin,I.dI,I.len⟩
theorem SP.qS{D:Ends}{f:Flow}{s':Shared}(h:SP (X.BC E) pins D f s'):SP X pins D f s':=by
 cases f with
 |next=>obtain⟨σ',H',I,q⟩:=h;exact⟨σ',H',I.qS,q⟩
 |brk=>obtain⟨σ',H',I,q⟩:=h;exact⟨σ',H',I.qS,q⟩
 |cont=>obtain⟨σ',H',I,q⟩:=h;exact⟨σ',H',I.qS,q⟩
 |ret u=>obtain⟨v,σ',H',I,r,q⟩:=h;exact⟨v,σ',H',I.qS,r,q⟩
end
section
variable{X:Cx}{st:Stmt}{rest:List Stmt}{t u:TS}{e:Expr}{te:TE}{pos:Pos}
def SU:TS:=λD σ H=>D.nx σ H
def SV(t u:TS):TS:=λD σ H=>t {D with nx:=u D} σ H
theorem bo:Gd X [] SU:=λ_ _ σ H _ I h=>pS ⟨σ,H,I,h⟩
theorem ag(h1:PS X st t)(h2:Gd X rest u):Gd X (st::rest) (SV t u):=by
 intro pins s σ H D I h;refine F4 (eu (h1 pins s σ H {D with nx:=u D} I h) λf s1 q=>?_);cases f with
 |next=>
  obtain⟨σ',H',I',q⟩:=q;exact h2 pins s1 σ' H' D I' q
 |ret v=>exact q
 |brk=>exact q
 |cont=>exact q
theorem az(h1:PS X st t):Gd X [st] t:=by
 intro pins s σ H D I h;refine F4 (eu (h1 pins s σ H D I h) λf s1 q=>?_);cases f with
 |next=>exact pS q
 |ret v=>exact q
 |brk=>exact q
 |cont=>exact q
theorem Inv.quiet{pins:List (Addr×Obj)}{σ:St}{H:Hp}{s:Shared}(I:Inv X pins σ H s):interactive X.env=false:=by simp[interactive,I.ok.kind]
def SW(te:TE):TS:=λD σ H=>te σ H λ_ H1=>D.nx σ H1
theorem bw(he:PE X e te)(hs:swapsWith e none pos.line X.env=pure false:=by rfl):PS X (.Expr e pos) (SW te):=by
 intro pins s σ H D I h;exact wpAny_Expr_any (eu (he pins s σ H _ I h) λv s1 ⟨x,H1,I1,r1,q1⟩=>⟨σ,H1,I1,q1⟩) I.quiet hs
def UK(te:TE):TS:=λD σ H=>te σ H D.rt
theorem aX(he:PE X e te):PS X (.Return (some e) pos) (UK te):=by
 intro pins s σ H D I h;exact wpAny_Return_some (eu (he pins s σ H _ I h) λv s1 ⟨x,H1,I1,r1,q1⟩=>⟨x,σ,H1,I1,r1,q1⟩)
def UL(c:TT)(t u:TS):TS:=λD σ H=>c σ H λb H1=>if b=true then t D σ H1 else u D σ H1
theorem cj{c:Expr}{a b:List Stmt}{tc:TT}(hc:PT X c tc)(ha:Gd X a t)(hb:Gd X b u):PS X (.If c a b pos) (UL tc t u):=by
 intro pins s σ H D I h;refine wpAny_If (eu (hc pins s σ H _ I h) λd s1=>Xa λH1=>W9 λI1 q1=>?_);cases d with
 |true=>exact ha pins s1 σ H1 D I1 q1
 |false=>exact hb pins s1 σ H1 D I1 q1
end
abbrev TG:=V->St->Hp->(St->Hp->Prop)->Prop
def PG(X:Cx)(target:Expr)(t:TG):Prop:=
 ∀(pins:List (Addr×Obj))(s:Shared)(σ:St)(H:Hp)(v:V)(u:Value)(Q:St->Hp->Prop),Inv X pins σ H s->RelV v u->t v σ H Q->
  wpAny (model X.prog X.w) X.A (assign target X.env u) (λ_ s'=>∃σ' H',Inv X pins σ' H' s'/\Q σ' H') X.xe s
abbrev Rl:=V->V->V->Hp->(Hp->Prop)->Prop
def SX(X:Cx)(t:Rl):Prop:=
 ∀(pins:List (Addr×Obj))(s:Shared)(σ:St)(H:Hp)(o i v:V)(ov iv u:Value)(Q:Hp->Prop),Inv X pins σ H s->RelV o ov->RelV i iv->RelV v u->t o i v H Q->
  wpAny (model X.prog X.w) X.A (setItem ov iv u) (λ_ s'=>∃H',Inv X pins σ H' s'/\Q H') X.xe s
abbrev Uq:=V->V->Hp->VK->Prop
def Vm(X:Cx)(op:Operator)(t:Uq):Prop:=
 ∀(pins:List (Addr×Obj))(s:Shared)(σ:St)(H:Hp)(x y:V)(v u:Value)(Q:VK),Inv X pins σ H s->RelV x v->RelV y u->t x y H Q->
  wpAny (model X.prog X.w) X.A (inplaceOp op v u) (EP X pins σ Q) X.xe s
section
variable{X:Cx}{pos:Pos}
def JL(i:Nat):TG:=λv σ H Q=>Q (σ.set i (some v)) H
theorem fu{i:Nat}{x:Str}(hN:X.N.Nodup)(hi:X.N[i]?=some x)(hx:Loc X.env.scope x)(hf:X.fn x=true\/X.env.scope.names.lookup x=some .local:=by first|exact .inl rfl|exact .inr rfl|assumption):PG X (.Name x pos) (JL i):=by
 intro pins s σ H v u Q I r h;exact wpAny_assign_Name (xN I hN hi hx r (λs' I'=>⟨_,H,I',h⟩) hf)
def UM(to ti:TE)(t:Rl):TG:=λv σ H Q=>to σ H λo H1=>ti σ H1 λi H2=>t o i v H2 λH3=>Q σ H3
theorem Mh{o i:Expr}{to ti:TE}{t:Rl}(ho:PE X o to)(hi:PE X i ti)(hs:SX X t)
 (ha:∀v,assign (.Subscript o i pos) X.env v=(do
  let ov<-holding [v] (eval o X.env)
  let iv<-holding [v,ov] (eval i X.env)
  standAt pos
  holding [v,ov,iv] (setItem ov iv v)
  release [v,ov,iv] []):=by intro _;rfl):PG X (.Subscript o i pos) (UM to ti t):=by
 intro pins s σ H v u Q I r h;rw[ha];refine ae (dP (eu (ho pins s σ H _ I h) λov s1 h_0=>?_));obtain⟨x,H1,I1,r1,q1⟩:=h_0;refine ae (dP (eu (hi pins s1 σ H1 _ I1 q1) λiv s2 h_0=>?_));obtain⟨y,H2,I2,r2,q2⟩:=h_0;refine ae (pK (ae (dP (eu (hs pins s2 σ H2 x y v ov iv u _ I2 r1 r2 r q2) λ_ s3 h_0=>?_))));obtain⟨H3,I3,q3⟩:=h_0;exact wpAny_release ⟨σ,H3,I3,q3⟩
def Rm(te:TE)(g:TG):TS:=λD σ H=>te σ H λx H1=>g x σ H1 D.nx
theorem Mi{tg e:Expr}{te:TE}{g:TG}(he:PE X e te)(hg:PG X tg g)(hs:swapsWithSole [tg] e pos.line X.env=pure false:=by rfl)(hw:swappedStores [tg] e X.env=pure none:=by rfl)
 (h1:(assignEach [tg] X.env).map (·.2)=[assign tg X.env]:=by rfl):PS X (.Assign [tg] e pos) (Rm te g):=by
 intro pins s σ H D I h;refine wpAny_Assign_stores (eu (he pins s σ H _ I h) λv s1=>W6 λx H1=>W8 λI1 r1 q1=>?_) hs hw;rw[h1];exact eu (hg pins s1 σ H1 x v _ I1 r1 q1) λ_ s2 q=>q
theorem a9{i:Nat}{x:Str}{e:Expr}{te:TE}{pos':Pos}(hN:X.N.Nodup)(hi:X.N[i]?=some x)(hx:Loc X.env.scope x)(he:PE X e te)(hs:swapsWith e (some (.Name x pos')) pos.line X.env=pure false:=by rfl)(hf:X.fn x=true\/X.env.scope.names.lookup x=some .local:=by first|exact .inl rfl|exact .inr rfl|assumption):
 PS X (.Assign [.Name x pos'] e pos) (Rm te (JL i)):=by
 intro pins s σ H D I h;refine wpAny_Assign_Name (eu (he pins s σ H _ I h) λv s1=>W6 λy H1=>W8 λI1 r1 q1=>?_) hs;exact xN I1 hN hi hx r1 (λs2 I2=>⟨_,H1,I2,q1⟩) hf
def UN(i:Nat)(te:TE)(ti:Uq):TS:=λD σ H=>∃x,σ[i]?=some (some x)/\te σ H λy H1=>ti x y H1 λz H2=>D.nx (σ.set i (some z)) H2
theorem EV{i:Nat}{x:Str}{e:Expr}{te:TE}{op:Operator}{ti:Uq}{pos':Pos}(hN:X.N.Nodup)(hi:X.N[i]?=some x)(hx:Loc X.env.scope x)(he:PE X e te)(ho:Vm X op ti)(hf:X.fn x=true\/X.env.scope.names.lookup x=some .local:=by first|exact .inl rfl|exact .inr rfl|assumption):
 PS X (.AugAssign (.Name x pos') op e pos) (UN i te ti):=by
 intro pins s σ H D I h;obtain⟨v,e1,h⟩:=h;obtain⟨m,hn,hl⟩:=I.loc;have vis:SG X.env.scope x:=by rcases hx with k|k;exact .inl k;exact .inr (.inl k)
 obtain⟨u,r,l⟩:=hl i x v hi e1 vis;refine wpAny_AugAssign_Name ?_;have go:wpAny (model X.prog X.w) X.A (eval e X.env) (λw s₂=>wpAny (model X.prog X.w) X.A (inplaceOp op u w) (λr s₃=>wpAny (model X.prog X.w) X.A (storeName X.env x r) (λ_=>SP X pins D .next) X.xe s₃) X.xe s₂) X.xe s:=by
  refine eu (he pins s σ H _ I h) λw s1 h_0=>?_;obtain⟨y,H1,I1,r1,q1⟩:=h_0;refine eu (ho pins s1 σ H1 v y u w _ I1 r r1 q1) λz s2 h_0=>?_;obtain⟨zv,H2,I2,r2,q2⟩:=h_0;exact xN I2 hN hi hx r2 (λs3 I3=>⟨_,H2,I3,q2⟩) hf
 rcases l with⟨hk,hm⟩|⟨hk,c,hc,hcell⟩
 ·exact wpAny_loadName_local I.ok.kind hk hn hm go
 ·rcases hk with hk|hk
  ·exact wpAny_loadName_cell I.ok.kind hk hc hcell go
  ·rcases hx with k|k
   ·have:X.env.scope.names.lookup x=some .free:=hk;rw[k]at this;cases this
   ·have:X.env.scope.names.lookup x=some .free:=hk;rw[k]at this;cases this
def VB(f:Int->Int->Int):Uq:=λx y H Q=>∃i j,x= .int i/\y= .int j/\Q (.int (f i j)) H
theorem EW:Vm X .Add (VB λi j=>i+j):=by
 intro pins s σ H x y v u Q I r1 r2 h;obtain⟨i,j,e1,e2,q⟩:=h;subst e1;subst e2;obtain⟨t,rfl⟩:=r1;obtain⟨t',rfl⟩:=r2;exact iadd_int ⟨.int _,H,I.tok _,⟨_,rfl⟩,q⟩
def Mj(c:TT)(tb:TS):TS:=λD σ H=>∃W:Nat->St->Hp->Prop,(∃m,W m σ H)/\∀m σ H,W m σ H->
 c σ H λb H1=>if b=true then∃N:St->Hp->Prop,(∀σ' H',N σ' H'->∃m',m'<m/\W m' σ' H')/\tb {D with nx:=N,ct:=N,bk:=D.nx} σ H1 else D.nx σ H1
theorem gy{c:Expr}{body:List Stmt}{tc:TT}{tb:TS}(hp:PassesOwn (model X.prog X.w) X.A X.env X.xe)(hc:PT X c tc)(hb:Gd X body tb):PS X (.While c body [] pos) (Mj tc tb):=by
 intro pins s σ H D I h;obtain⟨W,⟨m0,w0⟩,turn⟩:=h;refine wpAny_While (codeAny_whileLoop (λn s'=>∃σ' H',Inv X pins σ' H' s'/\W n σ' H') ?_ m0 ⟨σ,H,I,w0⟩);rintro n s1 ⟨σ1,H1,I1,w1⟩;refine kr hp (eu (hc pins s1 σ1 H1 _ I1 (turn n σ1 H1 w1)) λb s2 h_0=>?_);obtain⟨H2,I2,q2⟩:=h_0;cases b with
 |true=>
  obtain⟨N,hN,q2⟩:=q2;rw[ao rfl];refine kr hp (eu (hb pins s2 σ1 H2 _ I2 q2) λf s3 q3=>?_);cases f with
  |next=>
   obtain⟨σ3,H3,I3,n3⟩:=q3;obtain⟨m',hm,w3⟩:=hN σ3 H3 n3;exact⟨m',hm,σ3,H3,I3,w3⟩
  |cont=>
   obtain⟨σ3,H3,I3,n3⟩:=q3;obtain⟨m',hm,w3⟩:=hN σ3 H3 n3;exact⟨m',hm,σ3,H3,I3,w3⟩
  |brk=>exact q3
  |ret v=>exact q3
 |false=>
  rw[ah aj];exact pS ⟨σ1,H2,I2,q2⟩
end
structure It where
 go:Nat->Hp->Prop
 QA:Nat->Hp->V->Hp->Prop
 stop:Nat->Hp->Prop
def Dm(X:Cx)(pins:List (Addr×Obj))(H:Hp)(b:Addr):Prop:=
 H b=none/\b≠X.env.locals/\b∉X.fs/\(b∈X.ex\/X.xJ.heap.objs.size<=b)/\(∀x c,X.env.cells.lookup x=some c->c≠b)/\∀p∈X.pn++pins,p.1≠b
theorem Inv.Ml{X:Cx}{pins:List (Addr×Obj)}{σ:St}{H H':Hp}{s:Shared}{b:Addr}(I:Inv X pins σ H s)(hb:s.heap.objs.size<=b)(hn:H' b=none):Dm X pins H' b:=by
 refine⟨hn,eM (aZ I.lt hb),I.UG hb,.inr (be I.sz hb),λx c e z=>?_,λp hp z=>?_⟩
 ·obtain⟨v,q⟩:=I.cell x c e;exact absurd (aZ q.lt (by rw[z];exact hb)) (cV _)
 ·exact absurd (aZ (aY (I.pin p hp).1) (by rw[z];exact hb)) (cV _)
structure Turn(P:Program)(w:World)(K:PySem.W.Frag)(tg:Expr)(J:It)(fp:List Addr)(it:Addr)(tn:Nat->Heap->Prop):Prop where
 mem:it∈fp
 obj:∀i h,tn i h->∀b∈fp,∃o,h.get? b=some o/\∀v,o.data≠ .cell v
 keep:∀i h h',tn i h->(∀b∈fp,∀o,h.get? b=some o->h'.get? b=some o)->tn i h'
 item:∀(X:Cx),X.prog=P->X.w=w->X.K=K->X.calm=true->∀(i:Nat)(pins:List (Addr×Obj))(s:Shared)(σ:St)(H:Hp)(E:Value->Shared->Prop),Inv X pins σ H s->(∀b∈fp,Dm X pins H b)->tn i s.heap->J.go i H->
  wpAny (model P w) X.A (pyNext (.ref it)) (λr s1=>∃u,r=some u/\
   wpAny (model P w) X.A (letOwnedTupleGo tg (.ref it) u) (λ_ s2=>∃x H',Inv X pins σ H' s2/\RelV x u/\J.QA i H x H'/\tn (i+1) s2.heap/\∀b∈fp,H' b=none) E s1) E s
 done:∀(X:Cx),X.prog=P->X.w=w->X.K=K->X.calm=true->∀(i:Nat)(pins:List (Addr×Obj))(s:Shared)(σ:St)(H:Hp)(E:Value->Shared->Prop),Inv X pins σ H s->(∀b∈fp,Dm X pins H b)->tn i s.heap->J.stop i H->
  wpAny (model P w) X.A (pyNext (.ref it)) (λr s1=>r=none/\Inv X pins σ H s1) E s
 self:∀(A:Around)(i:Nat)(s:Shared)(Q:Value->Shared->Prop)(E:Value->Shared->Prop),tn i s.heap->Q (.ref it) s->wpAny (model P w) A (pyIter (.ref it)) Q E s
abbrev TI:=St->Hp->(It->Hp->Prop)->Prop
def UO(X:Cx)(pins:List (Addr×Obj))(σ:St)(tg:Expr)(R:It->Hp->Prop)(itv:Value)(s2:Shared):Prop:=
 ∃(it:Addr)(fp:List Addr)(tn:Nat->Heap->Prop)(J:It)(H':Hp),itv= .ref it/\Inv X pins σ H' s2/\Turn X.prog X.w X.K tg J fp it tn/\tn 0 s2.heap/\(∀b∈fp,Dm X pins H' b)/\R J H'
def PI(X:Cx)(tg iter:Expr)(wi:TI):Prop:=
 ∀(pins:List (Addr×Obj))(s:Shared)(σ:St)(H:Hp)(R:It->Hp->Prop),Inv X pins σ H s->wi σ H R->
  wpAny (model X.prog X.w) X.A (eval iter X.env) (λv s1=>wpAny (model X.prog X.w) X.A (pyIter v) (UO X pins σ tg R) X.xe s1) X.xe s
theorem DX{M:Model}{A:Around}{E:Value->Shared->Prop}{s:Shared}{tg:Expr}{it:Addr}{u:Value}{o:Obj}{n:String}{vs:Array Value}{Q:Unit->Shared->Prop}(ho:s.heap.get? it=some o)(hc:o.cls= .type n)(hd:o.data= .fields vs)
 (hn:["enumerate","zip","dict_itemiterator","dict_reverseitemiterator","odict_iterator","itertools.zip_longest","itertools.pairwise"].contains n=false) (hQ:Q () s):wpAny M A (letOwnedTupleGo tg (.ref it) u) Q E s:=by
 unfold letOwnedTupleGo;cases tg<;>first
  |exact aA hQ
  |(cases u<;>first
   |exact aA hQ
   |(refine ae (wpAny_load ho ?_)
     rw[hc,hd];show wpAny M A (if(["enumerate","zip","dict_itemiterator","dict_reverseitemiterator","odict_iterator","itertools.zip_longest","itertools.pairwise"].contains n&&vs[0]?==some (rawInt _))=true then _ else _) Q E s;rw[ah (by intro h;rw[hn,gr]at h;cases h)];exact aA hQ))
noncomputable def QB(K:PySem.W.Frag)(a:Addr):It:=
 ⟨λi H=>∃xs x,cN K H a xs/\xs[i]?=some x,λi H x H'=>H'=H/\∀xs,cN K H a xs->xs[i]?=some x,λi H=>∃xs,cN K H a xs/\xs.length<=i⟩
noncomputable def SY(K:PySem.W.Frag)(a:Addr):It:=
 ⟨λi H=>∃xs x,iK K H a xs/\xs[i]?=some x,λi H x H'=>H'=H/\∀xs,iK K H a xs->xs[i]?=some x,λi H=>∃xs,iK K H a xs/\xs.length<=i⟩
noncomputable def SJ(lo:Int)(n:Nat):It:=⟨λi _=>i<n,λi H x H'=>H'=H/\x= .int (lo+i),λi _=>n<=i⟩
theorem KP{P:Program}{w:World}{K:PySem.W.Frag}{tg:Expr}(a it:Addr):Turn P w K tg (QB K a) [it] it (λi h=>h.IsListIter it a i)where
 mem:=by simp
 obj:=λi h st b hb=>by
  have e:b=it:=by simpa using hb
  subst e;obtain⟨o,e,c,d⟩:=st;exact⟨o,e,λv z=>by rw[d]at z;cases z⟩
 keep:=λi h h' st k=>st.at λo e=>k it (by simp) o e
 item:=by
  intro X hP hw hK hc i pins s σ H E I hf st hg;subst hP hw hK;obtain⟨xs,x,hq,hx⟩:=hg;obtain⟨its,rv,p,hz⟩:=I.list hq;obtain⟨u,hu,ru⟩:=rv.get hx;obtain⟨f0,f1,f2,f3,f4,f5⟩:=hf it (by simp);refine wpAny_pyNext_list_item st p.isList (x:=u) (by simpa using hu) λh' st' sb=>?_;have I1:Inv X pins σ H {s with heap:=h'}:=I.turned (t':=s.toks) (λb o hb e=>(sb.2 b hb).trans e) f0 f1 f3 f4 f5;obtain⟨o,e,c,d⟩:=id st';exact⟨u,rfl,DX (s:={s with heap:=h'}) e c d VW ⟨x,H,I1,ru,⟨rfl,λys hy=>by rw[I.Mg hy hq];exact hx⟩,st',λb hb=>(hf b hb).1⟩⟩
 done:=by
  intro X hP hw hK hc i pins s σ H E I hf st hg;subst hP hw hK;obtain⟨xs,hq,hx⟩:=hg;obtain⟨its,rv,p,hz⟩:=I.list hq;obtain⟨f0,f1,f2,f3,f4,f5⟩:=hf it (by simp);have hl:=rv.length;exact wpAny_pyNext_list_end (I.ok.hd hc) st p.isList (by simp;lia) λh' eb=>⟨rfl,I.turned (t':=s.toks) (λb o hb e=>eb b o hb e) f0 f1 f3 f4 f5⟩
 self:=λ_ _ _ _ _ st h=>wpAny_pyIter_listiter st h
theorem Ic{P:Program}{w:World}{K:PySem.W.Frag}{tg:Expr}(a it:Addr):Turn P w K tg (SY K a) [it] it (λi h=>h.IsTupleIter it a i)where
 mem:=by simp
 obj:=λi h st b hb=>by
  have e:b=it:=by simpa using hb
  subst e;obtain⟨o,e,c,d⟩:=st;exact⟨o,e,λv z=>by rw[d]at z;cases z⟩
 keep:=λi h h' st k=>st.at λo e=>k it (by simp) o e
 item:=by
  intro X hP hw hK hc i pins s σ H E I hf st hg;subst hP hw hK;obtain⟨xs,x,hq,hx⟩:=hg;obtain⟨its,rv,p,hz⟩:=I.tuple hq;obtain⟨u,hu,ru⟩:=rv.get hx;obtain⟨f0,f1,f2,f3,f4,f5⟩:=hf it (by simp);refine wpAny_pyNext_tuple_item st (show s.heap.IsTuple a its.toArray from p) (x:=u) (by simpa using hu) λh' st' sb=>?_;have I1:Inv X pins σ H {s with heap:=h'}:=I.turned (t':=s.toks) (λb o hb e=>(sb.2 b hb).trans e) f0 f1 f3 f4 f5;obtain⟨o,e,c,d⟩:=id st';exact⟨u,rfl,DX (s:={s with heap:=h'}) e c d VW ⟨x,H,I1,ru,⟨rfl,λys hy=>by rw[I.KO hy hq];exact hx⟩,st',λb hb=>(hf b hb).1⟩⟩
 done:=by
  intro X hP hw hK hc i pins s σ H E I hf st hg;subst hP hw hK;obtain⟨xs,hq,hx⟩:=hg;obtain⟨its,rv,p,hz⟩:=I.tuple hq;obtain⟨f0,f1,f2,f3,f4,f5⟩:=hf it (by simp);have hl:=rv.length;exact wpAny_pyNext_tuple_end (I.ok.hd hc) st (show s.heap.IsTuple a its.toArray from p) (by simp;lia) λh' eb=>⟨rfl,I.turned (t':=s.toks) (λb o hb e=>eb b o hb e) f0 f1 f3 f4 f5⟩
 self:=λ_ _ _ _ _ st h=>wpAny_pyIter_tupleiter st h
theorem Ie{P:Program}{w:World}{K:PySem.W.Frag}{tg:Expr}(it:Addr)(lo:Int)(n:Nat):Turn P w K tg (SJ lo n) [it] it (λi h=>IsRangeIter h it (lo+(i:Nat)*1) ((n:Int)-(i:Nat)) 1)where
 mem:=by simp
 obj:=λi h st b hb=>by
  have e:b=it:=by simpa using hb
  subst e;exact⟨_,st,λv z=>by
   have z':Data.fields _=Data.cell v:=z;cases z'⟩
 keep:=λi h h' st k=>k it (by simp) _ st
 item:=by
  intro X hP hw hK hc i pins s σ H E I hf st hg;subst hP hw hK;refine Xb (λf0 f1 f2 f3 f4 f5=>?_) (hf it (by simp));have W:=Walks.range (prog:=X.prog) (w:=X.w) (I.ok.hd hc) it lo 1 n;refine W.item i s _ _ hg st λv h' tk hv st' kk=>?_;obtain⟨t,rfl⟩:=hv;have I1:Inv X pins σ H {s with heap:=h',toks:=tk}:=I.turned (λb o hb e=>kk b o (by simpa using hb) e) f0 f1 f3 f4 f5;refine⟨_,rfl,DX (s:={s with heap:=h',toks:=tk}) (n:="range_iterator") st' rfl rfl VW ⟨.int (lo+i),H,I1,⟨t,?_⟩,⟨rfl,rfl⟩,st',λb hb=>(hf b hb).1⟩⟩;rw[Int.mul_one]
 done:=by
  intro X hP hw hK hc i pins s σ H E I hf st hg;subst hP hw hK;refine Xb (λf0 f1 f2 f3 f4 f5=>?_) (hf it (by simp));exact wpAny_pyNext_range_end (I.ok.hd hc) st (by have:n<=i:=hg;lia) λh' eb=>⟨rfl,I.turned (t':=s.toks) (λb o hb e=>eb b o hb e) f0 f1 f3 f4 f5⟩
 self:=λ_ _ _ _ _ st h=>wpAny_pyIter_rangeiter st h
section
variable{X:Cx}{tg:Expr}
def S0(K:PySem.W.Frag)(tl:TE):TI:=λσ H R=>tl σ H λx H1=>∃a,x= .ref a/\(∃xs,cN K H1 a xs)/\R (QB K a) H1
def UP(K:PySem.W.Frag)(tl:TE):TI:=λσ H R=>tl σ H λx H1=>∃a,x= .ref a/\(∃xs,iK K H1 a xs)/\R (SY K a) H1
theorem jt{l:Expr}{tl:TE}(hl:PE X l tl):PI X tg l (S0 X.K tl):=by
 intro pins s σ H R I h;refine eu (hl pins s σ H _ I h) λv s1=>W6 λx H1=>W8 λI1 r1=>Xa λa=>W8 λe n0_ q=>?_;obtain⟨xs,hq⟩:=n0_;subst e;cases r1;obtain⟨its,rv,p,hz⟩:=I1.list hq;refine wpAny_pyIter_list p.isList ?_;refine⟨s1.heap.objs.size,[s1.heap.objs.size],_,_,H1,rfl,I1.kept (t':=s1.toks) λb o e=>aG _ e,KP a _,⟨_,aW _ rfl,rfl,rfl⟩,λb hb=>?_,q⟩;have e:b=s1.heap.objs.size:=by simpa using hb
 subst e;exact I1.Ml (aH _) (I1.dI.fresh (aH _))
theorem Rn{l:Expr}{tl:TE}(hl:PE X l tl):PI X tg l (UP X.K tl):=by
 intro pins s σ H R I h;refine eu (hl pins s σ H _ I h) λv s1=>W6 λx H1=>W8 λI1 r1=>Xa λa=>W8 λe n0_ q=>?_;obtain⟨xs,hq⟩:=n0_;subst e;cases r1;obtain⟨its,rv,p,hz⟩:=I1.tuple hq;refine wpAny_pyIter_tuple (show s1.heap.IsTuple a its.toArray from p) ?_;refine⟨s1.heap.objs.size,[s1.heap.objs.size],_,_,H1,rfl,I1.kept (t':=s1.toks) λb o e=>aG _ e,Ic a _,⟨_,aW _ rfl,rfl,rfl⟩,λb hb=>?_,q⟩;have e:b=s1.heap.objs.size:=by simpa using hb
 subst e;exact I1.Ml (aH _) (I1.dI.fresh (aH _))
theorem Mm{pins:List (Addr×Obj)}{σ:St}{H:Hp}{s:Shared}{R:It->Hp->Prop}{E:Value->Shared->Prop}{lo hi:Int}{t u v:Tok}{tk:Nat}(I:Inv X pins σ H s)(h1: -(2^62)<=lo)(h2:lo<2^62)(h3: -(2^62)<=hi)(h4:hi<2^62)
 (q:R (SJ lo (hi-lo).toNat) H):wpAny (model X.prog X.w) X.A (pyIter (.ref s.heap.objs.size)) (UO X pins σ tg R) E {s with heap:=s.heap.push {cls:= .type "range",data:= .fields #[.int lo t,.int hi u,.int 1 v]},toks:=tk}:=by
 refine wpAny_pyIter_range (IsRange.new ..) (small_one h1 h2 h3 h4) ?_;have I1:Inv X pins σ H {s with heap:=s.heap.push {cls:= .type "range",data:= .fields #[.int lo t,.int hi u,.int 1 v]},toks:=tk}:=I.kept λb o e=>aG _ e;refine⟨(s.heap.push {cls:= .type "range",data:= .fields #[.int lo t,.int hi u,.int 1 v]}).objs.size,[(s.heap.push {cls:= .type "range",data:= .fields #[.int lo t,.int hi u,.int 1 v]}).objs.size],_,_,H,rfl,
  I1.kept (t':=tk) λb o e=>aG _ e,Ie _ lo (hi-lo).toNat,?_,λb hb=>?_,q⟩
 ·have e1:lo+((0:Nat):Int)*1=lo:=by simp
  have e2:(((hi-lo).toNat:Nat):Int)-((0:Nat):Int)=Builtin.Range.rangeSize lo hi 1:=by rw[rangeSize_one];split<;>lia
  show IsRangeIter _ _ (lo+((0:Nat):Int)*1) ((((hi-lo).toNat:Nat):Int)-((0:Nat):Int)) 1;rw[e1,e2];exact aW _ rfl
 ·have e:b=(s.heap.push {cls:= .type "range",data:= .fields #[.int lo t,.int hi u,.int 1 v]}).objs.size:=by simpa using hb
  subst e;exact I1.Ml (aH _) (I1.dI.fresh (aH _))
def S1(ta:TA):TI:=λσ H R=>ta σ H λvs H1=>∃j:Int,vs=[.int j]/\-(2^62)<=j/\j<2^62/\R (SJ 0 j.toNat) H1
theorem zo{a:Expr}{ta:TA}{p pos:Pos}(hg:Gl X "range")(hm:X.mg "range"=none)(ha:PA X [a] ta)(hs:starEach [a] X.env=[(false,eval a X.env)]:=by rfl):PI X tg (.Call (.Name "range" p) [a] [] pos) (S1 ta):=by
 intro pins s σ H R I h;refine Call_ (HZ I hg hm boot_range (Q5 (eu (ha pos pins s σ H _ I h) λus s1=>W6 λvs H1=>W8 λI1 r1 q1=>?_) hs rfl));revert q1;refine Xa λj=>Xd λe q1 q2 q=>?_;subst e;cases r1 with
 |cons r rr=>
  cases rr;obtain⟨t,rfl⟩:=r;exact call_range_1 (Mm I1 VX VX q1 q2 (by simpa using q))
def UQ(wi:TI)(g:TG)(tb:TS):TS:=λD σ H=>wi σ H λJ H1=>∃W:Nat->Nat->St->Hp->Prop,(∃m,W 0 m σ H1)/\∀i m σ H,W i m σ H->
 (J.stop i H/\D.nx σ H)\/(J.go i H/\∃N:St->Hp->Prop,(∀σ' H',N σ' H'->∃m',m'<m/\W (i+1) m' σ' H')/\∀x H',J.QA i H x H'->g x σ H' λσ2 H2=>tb {D with nx:=N,ct:=N,bk:=D.nx} σ2 H2)
noncomputable def BD(fp:List Addr)(h:Heap):List (Addr×Obj):=fp.filterMap λb=>(h.get? b).map λo=>(b,o)
theorem w6{fp:List Addr}{h:Heap}{b:Addr}{o:Obj}(hb:b∈fp)(e:h.get? b=some o):(b,o)∈BD fp h:=List.mem_filterMap.mpr ⟨b,hb,by rw[e];rfl⟩
theorem KQ{fp:List Addr}{h:Heap}{p:Addr×Obj}(hp:p∈BD fp h):p.1∈fp/\h.get? p.1=some p.2:=by
 obtain⟨b,hb,e⟩:=List.mem_filterMap.mp hp;cases q:h.get? b with
 |none=>rw[q]at e;cases e
 |some o=>
  rw[q]at e;have e':(b,o)=p:=bX e;subst e';exact⟨hb,q⟩
theorem Inv.pinned{pins:List (Addr×Obj)}{σ:St}{H:Hp}{s:Shared}{fp:List Addr}(I:Inv X pins σ H s)(hf:∀b∈fp,Dm X pins H b)(ho:∀b∈fp,∃o,s.heap.get? b=some o/\∀v,o.data≠ .cell v):Inv X (pins++BD fp s.heap) σ H s:=
 I.EU λp hp=>(List.mem_append.mp hp).elim (λz=>I.pin p (dZ _ z)) λz=>by
  obtain⟨hb,e⟩:=KQ z;obtain⟨f0,f1,f2,_⟩:=hf p.1 hb;obtain⟨o,e',d⟩:=ho p.1 hb;rw[e]at e';cases e';exact⟨e,f0,f1,f2,d⟩
theorem Inv.xP{pins pl:List (Addr×Obj)}{σ:St}{H:Hp}{s:Shared}(I:Inv X (pins++pl) σ H s):Inv X pins σ H s:=I.EU λp hp=>I.pin p (dZ _ (cY _ hp))
theorem mr{iter:Expr}{body:List Stmt}{wi:TI}{g:TG}{tb:TS}{pos:Pos}(hp:PassesOwn (model X.prog X.w) X.A X.env X.xe)(hc:X.calm=true)(hi:PI X tg iter wi)(hg:PG X tg g)(hb:Gd X body tb)
 (hs:∀x,foldedSetIterable iter X.env x=pure x:=by intro _;rfl):PS X (.For tg iter body [] pos) (UQ wi g tb):=by
 intro pins s σ H D I h;refine wpAny_For (eu (hi pins s σ H _ I h) λv s1 h1=>eu h1 λitv s2=>W7 λit fp tn J=>Xa λH2=>Xb λe I2 T st2 f2=>Xa λW=>W9 λn0_ turn=>?_) hs;obtain⟨m0,w0⟩:=n0_;subst e;have stat:∀{H':Hp},(∀b∈fp,H' b=none)->∀b∈fp,Dm X pins H' b:=λhn b hb=>⟨hn b hb,(f2 b hb).2⟩;refine codeAny_forLoop_any (λn s'=>∃i σ' H',Inv X pins σ' H' s'/\tn i s'.heap/\(∀b∈fp,H' b=none)/\W i n σ' H') ?_ m0 ⟨0,σ,H2,I2,st2,λb hb=>(f2 b hb).1,w0⟩;intro n s3;refine Xc λi σ3 H3=>Xd λI3 st3 fr3 w3=>?_;rcases turn i n σ3 H3 w3 with⟨stop,qn⟩|⟨go,N,hN,step⟩
 ·refine kr hp (eu (T.done X rfl rfl rfl hc i pins s3 σ3 H3 X.xe I3 (stat fr3) st3 stop) λr s4 ⟨hr,I4⟩=>?_);subst hr;exact pS ⟨σ3,H3,I4,qn⟩
 ·refine kr hp (eu (T.item X rfl rfl rfl hc i pins s3 σ3 H3 X.xe I3 (stat fr3) st3 go) λr s4 h_0=>?_);revert h_0;refine Xa λu=>W9 λhr h4=>?_;subst hr;refine kr hp (eu h4 λ_ s5 h_0=>?_);revert h_0;refine W6 λx H5=>Xe λI5 r5 y5 st5 fr5=>?_;have I5':=I5.pinned (stat fr5) (T.obj _ _ st5);refine kr hp (eu (hg _ s5 σ3 H5 x u _ I5' r5 (step x H5 y5)) λ_ s6=>W6 λσ6 H6=>W9 λI6 q6=>?_);refine kr hp (eu (hb _ s6 σ6 H6 _ I6 q6) λf s7 q7=>?_);have again:∀{σ7:St}{H7:Hp},Inv X (pins++BD fp s5.heap) σ7 H7 s7->N σ7 H7->∃m,m<n/\∃i σ' H',Inv X pins σ' H' s7/\tn i s7.heap/\(∀b∈fp,H' b=none)/\W i m σ' H':=λ{σ7 H7} I7 n7=>by
   obtain⟨m',hm,w7⟩:=hN σ7 H7 n7;refine⟨m',hm,i+1,σ7,H7,I7.xP,T.keep _ _ _ st5 λb hb o e=>(I7.pin (b,o) (dZ _ (dZ _ (w6 hb e)))).1,λb hb=>?_,w7⟩;obtain⟨o,e,d⟩:=T.obj _ _ st5 b hb;exact(I7.pin (b,o) (dZ _ (dZ _ (w6 hb e)))).2.1
  cases f with
  |next=>obtain⟨σ7,H7,I7,n7⟩:=q7;exact again I7 n7
  |cont=>obtain⟨σ7,H7,I7,n7⟩:=q7;exact again I7 n7
  |brk=>obtain⟨σ7,H7,I7,q7⟩:=q7;exact⟨σ7,H7,I7.xP,q7⟩
  |ret v=>obtain⟨x7,σ7,H7,I7,r7,q7⟩:=q7;exact⟨x7,σ7,H7,I7.xP,r7,q7⟩
end
theorem tT{K:PySem.W.Frag}{a:Addr}{xs:List V}{g:TG}{tb:TS}{D:Ends}{σ:St}{H:Hp}(Pv:Nat->St->Hp->Prop)(h0:Pv 0 σ H)(hl:∀i σ H,i<=xs.length->Pv i σ H->cN K H a xs)
 (hs:∀i x σ H,xs[i]?=some x->Pv i σ H->g x σ H λσ2 H2=>tb {D with nx:=Pv (i+1),ct:=Pv (i+1),bk:=D.nx} σ2 H2) (hd:∀σ H,Pv xs.length σ H->D.nx σ H):
 ∃W:Nat->Nat->St->Hp->Prop,(∃m,W 0 m σ H)/\∀i m σ H,W i m σ H->
  ((QB K a).stop i H/\D.nx σ H)\/((QB K a).go i H/\∃N:St->Hp->Prop,(∀σ' H',N σ' H'->∃m',m'<m/\W (i+1) m' σ' H')/\∀x H',(QB K a).QA i H x H'->g x σ H' λσ2 H2=>tb {D with nx:=N,ct:=N,bk:=D.nx} σ2 H2):=by
 refine⟨λi m σ H=>m=xs.length-i/\i<=xs.length/\Pv i σ H,⟨xs.length,by simp,br _,h0⟩,?_⟩;rintro i m σ H ⟨rfl,hi,p⟩;have q:=hl i σ H hi p;by_cases hlt:i<xs.length
 ·refine .inr ⟨⟨xs,xs[i],q,by simp[hlt]⟩,Pv (i+1),λσ' H' p'=>⟨xs.length-(i+1),VX,rfl,hlt,p'⟩,λx H' y=>?_⟩;obtain⟨e,y⟩:=y;subst e;exact hs i x σ _ (y xs q) p
 ·have e:i=xs.length:=by lia
  subst e;exact .inl ⟨⟨xs,q,aH _⟩,hd σ H p⟩
theorem OT{K:PySem.W.Frag}{a:Addr}{xs:List V}{g:TG}{tb:TS}{D:Ends}{σ:St}{H:Hp}(Pv:Nat->St->Hp->Prop)(h0:Pv 0 σ H)(hl:∀i σ H,i<=xs.length->Pv i σ H->iK K H a xs)
 (hs:∀i x σ H,xs[i]?=some x->Pv i σ H->g x σ H λσ2 H2=>tb {D with nx:=Pv (i+1),ct:=Pv (i+1),bk:=D.nx} σ2 H2) (hd:∀σ H,Pv xs.length σ H->D.nx σ H):
 ∃W:Nat->Nat->St->Hp->Prop,(∃m,W 0 m σ H)/\∀i m σ H,W i m σ H->
  ((SY K a).stop i H/\D.nx σ H)\/((SY K a).go i H/\∃N:St->Hp->Prop,(∀σ' H',N σ' H'->∃m',m'<m/\W (i+1) m' σ' H')/\∀x H',(SY K a).QA i H x H'->g x σ H' λσ2 H2=>tb {D with nx:=N,ct:=N,bk:=D.nx} σ2 H2):=by
 refine⟨λi m σ H=>m=xs.length-i/\i<=xs.length/\Pv i σ H,⟨xs.length,by simp,br _,h0⟩,?_⟩;rintro i m σ H ⟨rfl,hi,p⟩;have q:=hl i σ H hi p;by_cases hlt:i<xs.length
 ·refine .inr ⟨⟨xs,xs[i],q,by simp[hlt]⟩,Pv (i+1),λσ' H' p'=>⟨xs.length-(i+1),VX,rfl,hlt,p'⟩,λx H' y=>?_⟩;obtain⟨e,y⟩:=y;subst e;exact hs i x σ _ (y xs q) p
 ·have e:i=xs.length:=by lia
  subst e;exact .inl ⟨⟨xs,q,aH _⟩,hd σ H p⟩
theorem KR{lo:Int}{n:Nat}{g:TG}{tb:TS}{D:Ends}{σ:St}{H:Hp}(Pv:Nat->St->Hp->Prop)(h0:Pv 0 σ H)
 (hs:∀i σ H,i<n->Pv i σ H->g (.int (lo+i)) σ H λσ2 H2=>tb {D with nx:=Pv (i+1),ct:=Pv (i+1),bk:=D.nx} σ2 H2) (hd:∀σ H,Pv n σ H->D.nx σ H):
 ∃W:Nat->Nat->St->Hp->Prop,(∃m,W 0 m σ H)/\∀i m σ H,W i m σ H->
  ((SJ lo n).stop i H/\D.nx σ H)\/((SJ lo n).go i H/\∃N:St->Hp->Prop,(∀σ' H',N σ' H'->∃m',m'<m/\W (i+1) m' σ' H')/\∀x H',(SJ lo n).QA i H x H'->g x σ H' λσ2 H2=>tb {D with nx:=N,ct:=N,bk:=D.nx} σ2 H2):=by
 refine⟨λi m σ H=>m=n-i/\i<=n/\Pv i σ H,⟨n,by simp,br _,h0⟩,?_⟩;rintro i m σ H ⟨rfl,hi,p⟩;by_cases hlt:i<n
 ·refine .inr ⟨hlt,Pv (i+1),λσ' H' p'=>⟨n-(i+1),VX,rfl,hlt,p'⟩,λx H' y=>?_⟩;obtain⟨e,y⟩:=y;subst e y;exact hs i σ _ hlt p
 ·have e:i=n:=by lia
  subst e;exact .inl ⟨aH _,hd σ H p⟩
abbrev R2:=V->V->Hp->VK->Prop
def qT(X:Cx)(f:Value->Value->Sem Value)(r:R2):Prop:=
 ∀(pins:List (Addr×Obj))(s:Shared)(σ:St)(H:Hp)(x y:V)(v u:Value)(Q:VK),Inv X pins σ H s->RelV x v->RelV y u->r x y H Q->
  wpAny (model X.prog X.w) X.A (f v u) (EP X pins σ Q) X.xe s
def UR(X:Cx)(f:Value->Sem Value)(r:V->Hp->VK->Prop):Prop:=
 ∀(pins:List (Addr×Obj))(s:Shared)(σ:St)(H:Hp)(x:V)(v:Value)(Q:VK),Inv X pins σ H s->RelV x v->r x H Q->
  wpAny (model X.prog X.w) X.A (f v) (EP X pins σ Q) X.xe s
def pU(X:Cx)(f:Value)(r:List V->Hp->VK->Prop):Prop:=
 ∀(pins:List (Addr×Obj))(s:Shared)(σ:St)(H:Hp)(xs:List V)(us:List Value)(Q:VK),Inv X pins σ H s->cE xs us->r xs H Q->
  wpAny (model X.prog X.w) X.A (call f us) (EP X pins σ Q) X.xe s
def Ur(r:R2)(ta tb:TE):TE:=λσ H Q=>ta σ H λx H1=>tb σ H1 λy H2=>r x y H2 Q
def VC(r:V->Hp->VK->Prop)(ta:TE):TE:=λσ H Q=>ta σ H λx H1=>r x H1 Q
def rI(C:Int->Int->Prop)(g:Int->Int->V):R2:=λx y H Q=>∃i j,x= .int i/\y= .int j/\C i j/\Q (g i j) H
def Mn(g:Int->Int->V):R2:=λx y H Q=>∃i j,x= .int i/\y= .int j/\Q (g i j) H
def rU(g:Int->V):V->Hp->VK->Prop:=λx H Q=>∃i,x= .int i/\Q (g i) H
section
variable{X:Cx}{a b c:Expr}{ta tb tc:TE}{pos:Pos}
theorem Ro(ha:PE X a ta)(hb:PE X b tb){pins:List (Addr×Obj)}{s:Shared}{σ:St}{H:Hp}{R:V->V->Hp->Prop}(I:Inv X pins σ H s)
 (h:ta σ H λx H1=>tb σ H1 λy H2=>R x y H2) {Q:Value->Shared->Prop} {f:Value->Value->Sem Value}
 (hf:∀v u s2 x y H2,Inv X pins σ H2 s2->RelV x v->RelV y u->R x y H2->wpAny (model X.prog X.w) X.A (f v u) Q X.xe s2):
 wpAny (model X.prog X.w) X.A (eval a X.env) (λv s₁=>wpAny (model X.prog X.w) X.A (eval b X.env) (λu s₂=>wpAny (model X.prog X.w) X.A (f v u) Q X.xe s₂) X.xe s₁) X.xe s:=by
 refine eu (ha pins s σ H _ I h) λv s1 h_0=>?_;obtain⟨x,H1,I1,r1,q1⟩:=h_0;refine eu (hb pins s1 σ H1 _ I1 q1) λu s2 h_0=>?_;obtain⟨y,H2,I2,r2,q2⟩:=h_0;exact hf v u s2 x y H2 I2 r1 r2 q2
theorem bI{op:Operator}{r:R2}(ho:qT X (binaryOp op) r)(ha:PE X a ta)(hb:PE X b tb):PE X (.BinOp a op b pos) (Ur r ta tb):=by
 intro pins s σ H Q I h;exact wpAny_BinOp (Ro ha hb I h λv u s2 x y H2 I2 rx ry q=>ho pins s2 σ H2 x y v u Q I2 rx ry q)
theorem An{op:UnaryOp}{r:V->Hp->VK->Prop}(ho:UR X (unaryOp op) r)(ha:PE X a ta):PE X (.UnaryOp op a pos) (VC r ta):=by
 intro pins s σ H Q I h;exact UnaryOp_ (eu (ha pins s σ H _ I h) λv s1 ⟨x,H1,I1,r1,q1⟩=>ho pins s1 σ H1 x v Q I1 r1 q1)
theorem S2{f:Value->Value->Sem Value}{C:Int->Int->Prop}{g:Int->Int->Int}
 (rule:∀(i j:Int)(t u:Tok)(s:Shared)(Q:Value->Shared->Prop)(E:Value->Shared->Prop),C i j->Q (.int (g i j) s.toks) {s with toks:=s.toks+1}->wpAny (model X.prog X.w) X.A (f (.int i t) (.int j u)) Q E s):
 qT X f (rI C λi j=>.int (g i j)):=by
 intro pins s σ H x y v u Q I rx ry h;obtain⟨i,j,rfl,rfl,hc,q⟩:=h;obtain⟨t,rfl⟩:=rx;obtain⟨t',rfl⟩:=ry;exact rule i j t t' s _ _ hc ⟨.int (g i j),H,I.tok _,⟨_,rfl⟩,q⟩
theorem Mo{f:Value->Value->Sem Value}{g:Int->Int->Int}
 (rule:∀(i j:Int)(t u:Tok)(s:Shared)(Q:Value->Shared->Prop)(E:Value->Shared->Prop),Q (.int (g i j) s.toks) {s with toks:=s.toks+1}->wpAny (model X.prog X.w) X.A (f (.int i t) (.int j u)) Q E s):
 qT X f (Mn λi j=>.int (g i j)):=by
 intro pins s σ H x y v u Q I rx ry h;obtain⟨i,j,rfl,rfl,q⟩:=h;obtain⟨t,rfl⟩:=rx;obtain⟨t',rfl⟩:=ry;exact rule i j t t' s _ _ ⟨.int (g i j),H,I.tok _,⟨_,rfl⟩,q⟩
theorem OU{f:Value->Value->Sem Value}{g:Int->Int->Bool}
 (rule:∀(i j:Int)(t u:Tok)(s:Shared)(Q:Value->Shared->Prop)(E:Value->Shared->Prop),Q (.bool (g i j)) s->wpAny (model X.prog X.w) X.A (f (.int i t) (.int j u)) Q E s):
 qT X f (Mn λi j=>.bl (g i j)):=by
 intro pins s σ H x y v u Q I rx ry h;obtain⟨i,j,rfl,rfl,q⟩:=h;obtain⟨t,rfl⟩:=rx;obtain⟨t',rfl⟩:=ry;exact rule i j t t' s _ _ ⟨.bl (g i j),H,I,rfl,q⟩
def Rp(i j:Int):Prop:=(-(2^64)<i/\i<2^64)\/(-(2^64)<j/\j<2^64)
theorem Rp.ok{i j:Int}(h:Rp i j):IntMulOk i j:=by
 rcases h with⟨h1,h2⟩|⟨h1,h2⟩
 ·exact .of_left (intBits_le_64 h1 h2)
 ·exact .of_right (intBits_le_64 h1 h2)
theorem Ig(k:Nat):(0:Int)<=2^k:=by
 rw[two_pow_cast];exact Int.natCast_nonneg _
theorem fH:qT X (binaryOp .Add) (Mn λi j=>.int (i+j)):=Mo λ_ _ _ _ _ _ _ q=>add_int q
theorem fO:qT X (binaryOp .Sub) (Mn λi j=>.int (i-j)):=Mo λ_ _ _ _ _ _ _ q=>sub_int q
theorem tU:qT X (binaryOp .Mult) (rI Rp λi j=>.int (i*j)):=S2 λ_ _ _ _ _ _ _ hc q=>mul_int q hc.ok
theorem Rq:qT X (binaryOp .Mod) (rI (λ_ j=>0<j) λi j=>.int (i%j)):=S2 λi j _ _ _ _ _ hc q=>by
 have h1:(0:Int)<j:=hc;exact mod_int' VX (by rw[Int.fmod_eq_emod_of_nonneg i VX];exact q)
theorem Rr:qT X (binaryOp .RShift) (rI (λ_ j=>0<=j) λi j=>.int (i/2^j.toNat)):=S2 λi j _ _ _ _ _ hc q=>
 rshift_int hc (by rw[Int.fdiv_eq_ediv_of_nonneg i (Ig _)];exact q)
theorem Mp:qT X (binaryOp .BitAnd) (Mn λi j=>.int (Builtin.bitAnd i j)):=Mo λ_ _ _ _ _ _ _ q=>and_int q
theorem S3:qT X (binaryOp .BitOr) (Mn λi j=>.int (Builtin.bitOr i j)):=Mo λ_ _ _ _ _ _ _ q=>or_int q
theorem Rt:qT X (binaryOp .BitXor) (Mn λi j=>.int (Builtin.bitXor i j)):=Mo λ_ _ _ _ _ _ _ q=>xor_int q
theorem VD{f:Value->Sem Value}{g:Int->Int}
 (rule:∀(i:Int)(t:Tok)(s:Shared)(Q:Value->Shared->Prop)(E:Value->Shared->Prop),Q (.int (g i) s.toks) {s with toks:=s.toks+1}->wpAny (model X.prog X.w) X.A (f (.int i t)) Q E s):
 UR X f (rU λi=>.int (g i)):=by
 intro pins s σ H x v Q I rx h;obtain⟨i,rfl,q⟩:=h;obtain⟨t,rfl⟩:=rx;exact rule i t s _ _ ⟨.int (g i),H,I.tok _,⟨_,rfl⟩,q⟩
theorem tV:UR X (unaryOp .USub) (rU λi=>.int (-i)):=VD λ_ _ _ _ _ q=>neg_int q
end
noncomputable def Ru:V->V->Bool
 | .gb,.gb=>true| .gb,.int _=>true| .int _,.gb=>true| .gb,.bl _=>true| .bl _,.gb=>true| .gb,.str _=>true| .str _,.gb=>true
 | .int _,.int _=>true| .bl _,.bl _=>true| .str _,.str _=>true| .F9 _,.F9 _=>true
 | .int _,.str _=>true| .str _,.int _=>true| .bl _,.str _=>true| .str _,.bl _=>true
 |_,_=>false
def VE:R2:=λx y H Q=>Ru x y=true/\Q (.bl (decide (x=y))) H
def VF:R2:=λx y H Q=>Ru x y=true/\Q (.bl (!decide (x=y))) H
theorem JM{i j:Int}:decide (V.int i=V.int j)=(i==j):=by
 rw[d8];simp
theorem Mq{i j:Bool}:decide (V.bl i=V.bl j)=(i==j):=by
 rw[d8];simp
theorem JN{i j:Str}:decide (V.str i=V.str j)=(i==j):=by
 rw[d8];simp
theorem JO{i j:Array UInt8}:decide (V.F9 i=V.F9 j)=(i.toList==j.toList):=by
 rw[d8];cases i;cases j;simp
section
variable{X:Cx}{a b c:Expr}{ta tb tc:TE}{pos:Pos}
theorem dD{pins:List (Addr×Obj)}{σ:St}{H:Hp}{s:Shared}{Q:VK}{k k':Bool}(I:Inv X pins σ H s)(q:Q (.bl k) H)(e:k=k'):EP X pins σ Q (.bool k') s:=by
 subst e;exact⟨.bl k,H,I,rfl,q⟩
theorem cQ:qT X (compareOp .Eq) VE:=by
 intro pins s σ H x y v u Q I rx ry h;obtain⟨hs,q⟩:=h;cases x with
 |gb=>
  cases rx;cases y with
  |gb=>cases ry;exact PySem.EqNone.eq_none_none (dD I q (by simp))
  |bl j=>cases ry;exact PySem.EqNone.eq_none_bool (dD I q (by simp))
  |int j=>obtain⟨t',rfl⟩:=ry;exact PySem.EqNone.eq_none_int (dD I q (by simp))
  |str j=>obtain⟨t',rfl⟩:=ry;exact PySem.EqNone.eq_none_str (dD I q (by simp))
  |_=>exact absurd (show false=true from hs) aj
 |bl i=>
  cases rx;cases y with
  |gb=>cases ry;exact PySem.EqNone.eq_bool_none (dD I q (by simp))
  |bl j=>cases ry;exact eq_bool (dD I q Mq)
  |str j=>obtain⟨t',rfl⟩:=ry;exact PySem.EqMixed.eq_bool_str (dD I q (by simp))
  |_=>exact absurd (show false=true from hs) aj
 |int i=>
  obtain⟨t,rfl⟩:=rx;cases y with
  |gb=>cases ry;exact PySem.EqNone.eq_int_none (dD I q (by simp))
  |int j=>obtain⟨t',rfl⟩:=ry;exact eq_int (dD I q JM)
  |str j=>obtain⟨t',rfl⟩:=ry;exact PySem.EqMixed.eq_int_str (dD I q (by simp))
  |_=>exact absurd (show false=true from hs) aj
 |str i=>
  obtain⟨t,rfl⟩:=rx;cases y with
  |gb=>cases ry;exact PySem.EqNone.eq_str_none (dD I q (by simp))
  |bl j=>cases ry;exact PySem.EqMixed.eq_str_bool (dD I q (by simp))
  |int j=>obtain⟨t',rfl⟩:=ry;exact PySem.EqMixed.eq_str_int (dD I q (by simp))
  |str j=>obtain⟨t',rfl⟩:=ry;exact eq_str (dD I q JN)
  |_=>exact absurd (show false=true from hs) aj
 |F9 i=>
  obtain⟨t,rfl⟩:=rx;cases y with
  |F9 j=>obtain⟨t',rfl⟩:=ry;exact PySem.W.eq_bytes (dD I q JO)
  |_=>exact absurd (show false=true from hs) aj
 |_=>cases y<;>exact absurd (show false=true from hs) aj
theorem Ge:qT X (compareOp .NotEq) VF:=by
 intro pins s σ H x y v u Q I rx ry h;obtain⟨hs,q⟩:=h;cases x with
 |gb=>
  cases rx;cases y with
  |gb=>cases ry;exact PySem.EqNone.ne_none_none (dD I q (by simp))
  |bl j=>cases ry;exact PySem.EqNone.ne_none_bool (dD I q (by simp))
  |int j=>obtain⟨t',rfl⟩:=ry;exact PySem.EqNone.ne_none_int (dD I q (by simp))
  |str j=>obtain⟨t',rfl⟩:=ry;exact PySem.EqNone.ne_none_str (dD I q (by simp))
  |_=>exact absurd (show false=true from hs) aj
 |bl i=>
  cases rx;cases y with
  |gb=>cases ry;exact PySem.EqNone.ne_bool_none (dD I q (by simp))
  |bl j=>cases ry;exact ne_bool (dD I q (bJ not Mq))
  |str j=>obtain⟨t',rfl⟩:=ry;exact PySem.EqMixed.ne_bool_str (dD I q (by simp))
  |_=>exact absurd (show false=true from hs) aj
 |int i=>
  obtain⟨t,rfl⟩:=rx;cases y with
  |gb=>cases ry;exact PySem.EqNone.ne_int_none (dD I q (by simp))
  |int j=>obtain⟨t',rfl⟩:=ry;exact ne_int (dD I q (bJ not JM))
  |str j=>obtain⟨t',rfl⟩:=ry;exact PySem.EqMixed.ne_int_str (dD I q (by simp))
  |_=>exact absurd (show false=true from hs) aj
 |str i=>
  obtain⟨t,rfl⟩:=rx;cases y with
  |gb=>cases ry;exact PySem.EqNone.ne_str_none (dD I q (by simp))
  |bl j=>cases ry;exact PySem.EqMixed.ne_str_bool (dD I q (by simp))
  |int j=>obtain⟨t',rfl⟩:=ry;exact PySem.EqMixed.ne_str_int (dD I q (by simp))
  |str j=>obtain⟨t',rfl⟩:=ry;exact ne_str (dD I q (bJ not JN))
  |_=>exact absurd (show false=true from hs) aj
 |F9 i=>
  obtain⟨t,rfl⟩:=rx;cases y with
  |F9 j=>obtain⟨t',rfl⟩:=ry;exact PySem.W.ne_bytes (dD I q (bJ not JO))
  |_=>exact absurd (show false=true from hs) aj
 |_=>cases y<;>exact absurd (show false=true from hs) aj
theorem kK:qT X (compareOp .Lt) (Mn λi j=>.bl (decide (i<j))):=OU λ_ _ _ _ _ _ _ q=>lt_int q
theorem Mr:qT X (compareOp .LtE) (Mn λi j=>.bl (decide (i<=j))):=OU λ_ _ _ _ _ _ _ q=>le_int q
theorem tW:qT X (compareOp .Gt) (Mn λi j=>.bl (decide (j<i))):=OU λ_ _ _ _ _ _ _ q=>gt_int q
theorem QC:qT X (compareOp .GtE) (Mn λi j=>.bl (decide (j<=i))):=OU λ_ _ _ _ _ _ _ q=>ge_int q
theorem Rv:qT X (compareOp .Is) (λx y H Q=>y= .gb/\Q (.bl (decide (x= .gb))) H):=by
 intro pins s σ H x y v u Q I rx ry h;obtain⟨rfl,q⟩:=h;cases ry;refine is_none_gen (dD I q ?_);cases x<;>first
  |(cases rx;rfl)
  |(obtain⟨t,rfl⟩:=rx;rfl)
theorem bu(b:Expr){op:CmpOp}(h:op≠ .In:=by decide)(h2:op≠ .NotIn:=by decide):behindInMarks op b=false:=by
 have e1:(op==CmpOp.In)=false:=by cases op<;>first|rfl|exact absurd rfl h
 have e2:(op==CmpOp.NotIn)=false:=by cases op<;>first|rfl|exact absurd rfl h2
 cases b<;>simp[behindInMarks,e1,e2]
theorem qU{op:CmpOp}{r:R2}(ho:qT X (compareOp op) r)(ha:PE X a ta)(hb:PE X b tb)(hm:behindInMarks op b=false):PE X (.Compare a [op] [b] pos) (Ur r ta tb):=by
 intro pins s σ H Q I h;exact wpAny_Compare1 (Ro ha hb I h λv u s2 x y H2 I2 rx ry q=>ho pins s2 σ H2 x y v u Q I2 rx ry q) hm
def QD(t:TE):TT:=λσ H Q=>t σ H λx H'=>∃k,x= .bl k/\Q k H'
theorem a8{op:CmpOp}{r:R2}(ho:qT X (compareOp op) r)(ha:PE X a ta)(hb:PE X b tb)(hm:behindInMarks op b=false):PT X (.Compare a [op] [b] pos) (QD (Ur r ta tb)):=by
 intro pins s σ H Q I h;refine wpAny_isTrue_Compare1 (eu (ha pins s σ H _ I h) λv s1 ⟨x,H1,I1,r1,q1⟩=>eu (hb pins s1 σ H1 _ I1 q1) λu s2 ⟨y,H2,I2,r2,q2⟩=>
  eu (ho pins s2 σ H2 x y v u _ I2 r1 r2 q2) λc s3=>W6 λz H3=>W8 λI3 r3=>Xa λk=>W9 λe q3=>?_) hm
 subst e;cases r3;exact fb ⟨H3,I3,q3⟩
def Ms(r r':R2)(ta tb tc:TE):TE:=λσ H Q=>ta σ H λx H1=>tb σ H1 λy H2=>r x y H2 λz H3=>∃k,z= .bl k/\
 (if k=true then tc σ H3 λw' H4=>r' y w' H4 Q else Q (.bl false) H3)
theorem Mt{op op':CmpOp}{r r':R2}(ho:qT X (compareOp op) r)(ho':qT X (compareOp op') r')(ha:PE X a ta)(hb:PE X b tb)(hc:PE X c tc)
 (hm:lastMarks [op,op'] [b,c]=false:=by with_unfolding_all rfl):PE X (.Compare a [op,op'] [b,c] pos) (Ms r r' ta tb tc):=by
 intro pins s σ H Q I h;refine Compare_chain (eu (ha pins s σ H _ I h) λv s1 ⟨x,H1,I1,r1,q1⟩=>chain_link (eu (hb pins s1 σ H1 _ I1 q1) λu s2 ⟨y,H2,I2,r2,q2⟩=>
  eu (ho pins s2 σ H2 x y v u _ I2 r1 r2 q2) λd s3=>W6 λz H3=>W8 λI3 r3=>Xa λk=>W9 λe q3=>?_)) hm
 subst e;cases r3;refine fb ?_;cases k with
 |false=>exact ite_ff ⟨.bl false,H3,I3,rfl,q3⟩
 |true=>exact ite_tt (chain_last (eu (hc pins s3 σ H3 _ I3 q3) λw' s4 ⟨z',H4,I4,r4,q4⟩=>ho' pins s4 σ H4 y z' u w' Q I4 r2 r4 q4))
theorem Mu{op op':CmpOp}{r r':R2}(ho:qT X (compareOp op) r)(ho':qT X (compareOp op') r')(ha:PE X a ta)(hb:PE X b tb)(hc:PE X c tc)
 (hm:lastMarks [op,op'] [b,c]=false:=by with_unfolding_all rfl):PT X (.Compare a [op,op'] [b,c] pos) (QD (Ms r r' ta tb tc)):=by
 intro pins s σ H Q I h;refine isTrue_chain (eu (ha pins s σ H _ I h) λv s1 ⟨x,H1,I1,r1,q1⟩=>test_link (eu (hb pins s1 σ H1 _ I1 q1) λu s2 ⟨y,H2,I2,r2,q2⟩=>
  eu (ho pins s2 σ H2 x y v u _ I2 r1 r2 q2) λd s3 h_0=>?_)) hm
 obtain⟨z,H3,I3,r3,k,e,q3⟩:=h_0;subst e;cases r3;refine fb ?_;cases k with
 |false=>
  obtain⟨k',e',q'⟩:=q3;cases e';exact ite_ff ⟨H3,I3,q'⟩
 |true=>
  refine ite_tt (test_last (eu (hc pins s3 σ H3 _ I3 q3) λw' s4 ⟨z',H4,I4,r4,q4⟩=>eu (ho' pins s4 σ H4 y z' u w' _ I4 r2 r4 q4) λd' s5 h_0=>?_));obtain⟨z2,H5,I5,r5,k2,e2,q5⟩:=h_0;subst e2;cases r5;exact fb ⟨H5,I5,q5⟩
theorem BE:(sizeLine:Nat)<2^63:=by rw[aM];decide
theorem vals1{x:V}{us:List Value}(r:cE [x] us):∃u,us=[u]/\RelV x u:=by
 cases r with
 |cons r1 r2=>cases r2;exact⟨_,rfl,r1⟩
theorem Gf:pU X (.builtin "ord") (λxs H Q=>∃x,xs=[.str x]/\x.length=1/\Q (.int (x.cps.getD 0 0:Nat)) H):=by
 intro pins s σ H xs us Q I r h;obtain⟨x,rfl,hz,q⟩:=h;obtain⟨u,rfl,t,rfl⟩:=vals1 r;exact ord_of_one hz ⟨.int _,H,I.tok _,⟨_,rfl⟩,q⟩
def EX(K:PySem.W.Frag)(x:V)(H:Hp)(n:Nat):Prop:=
 match x with
 | .str y=>y.length<=sizeLine/\n=y.length
 | .F9 y=>y.size<=sizeLine/\n=y.size
 | .ref p=>(∃xs,cN K H p xs/\n=xs.length)\/∃xs,iK K H p xs/\n=xs.length
 |_=>False
theorem cD:pU X (.builtin "len") (λxs H Q=>∃x n,xs=[x]/\EX X.K x H n/\Q (.int n) H):=by
 intro pins s σ H xs us Q I r h;obtain⟨x,n,rfl,e,q⟩:=h;obtain⟨u,rfl,rx⟩:=vals1 r;have hl:=BE;have hs:sizeLine=16777216:=aM;cases x with
 |str y=>
  obtain⟨t,rfl⟩:=rx;obtain⟨hy,e'⟩:y.length<=sizeLine/\n=y.length:=e;subst e';exact len_str VX ⟨.int _,H,I.tok _,⟨_,rfl⟩,q⟩
 |F9 y=>
  obtain⟨t,rfl⟩:=rx;obtain⟨hy,e'⟩:y.size<=sizeLine/\n=y.size:=e;subst e';exact PySem.W.len_bytes VX ⟨.int _,H,I.tok _,⟨_,rfl⟩,q⟩
 |ref p=>
  cases rx;have e':(∃xs,cN X.K H p xs/\n=xs.length)\/∃xs,iK X.K H p xs/\n=xs.length:=e;rcases e' with⟨xs,hx,e'⟩|⟨xs,hx,e'⟩
  ·subst e';obtain⟨its,r',pl,hz⟩:=I.list hx;have hlen:=r'.length;exact Calls.call_len_list pl.isList (by simp only[bz];lia) ⟨.int xs.length,H,I.tok _,⟨_,by simp only[bz];rw[hlen]⟩,q⟩
  ·subst e';obtain⟨its,r',pl,hz⟩:=I.tuple hx;have hlen:=r'.length;exact len_tuple pl (by simp only[bz];lia) ⟨.int xs.length,H,I.tok _,⟨_,by simp only[bz];rw[hlen]⟩,q⟩
 |_=>exact(show False from e).elim
end
structure Ih(h:Heap)(x dx C:Addr)(mA:Str->Option Value):Prop where
 obj:h.get? x=some (PySem.W.instObj C dx)
 ns:h.Ns1 dx mA
 ne:dx≠x
theorem DY{h:Heap}{dx:Addr}{mA:Str->Option Value}(n:h.Ns1 dx mA):∃od,h.get? dx=some od/\∀name,PySem.W.lookIn name od=some (mA name):=by
 obtain⟨o,es,ep,ho,hd,hk,_,hm⟩:=n;refine⟨o,ho,λname=>?_⟩;have e:=hm name;unfold nsFind findBy at e;rw[<-Array.find?_toList]at e;unfold PySem.W.lookIn;rw[hd];dsimp only;split
 ·rename_i y q;rw[q]at e;exact bJ some e
 ·rename_i q;rw[q]at e;have a:es.toList.any (·.refKey)=false:=by
   rw[List.any_eq_false];intro y hy;obtain⟨z,t,hkey⟩:=hk y (Array.mem_toList_iff.mp hy);simp[DictEntry.refKey,hkey]
  have a':¬es.toList.any (·.refKey)=true:=by rw[a];exact aj
  rw[ah a'];exact bJ some e
theorem Ih.look{h:Heap}{x dx C:Addr}{mA:Str->Option Value}(I:Ih h x dx C mA):∃od,PySem.W.InstAt h x (PySem.W.instObj C dx) C (some od)/\∀name,PySem.W.lookIn name od=some (mA name):=
 let⟨od,ho,hl⟩:=DY I.ns
 ⟨od,⟨I.obj,rfl,rfl,ho⟩,hl⟩
section
variable{prog:Program}{w:World}{A:Around}{E:Value->Shared->Prop}{s:Shared}{K:PySem.W.Frag}{x dx C f:Addr}{mA:Str->Option Value}{name:Str}{v:Value}
theorem get_map{expr:Bool}{Q:Value->Shared->Prop}(X:K.In s.heap)(I:Ih s.heap x dx C mA)(hg:PySem.W.plainGet K C name=true)(hh:PySem.W.hasDictIn K C=true)
 (ha:PySem.W.findIn K (.ref C) name=some none) (hv:mA name=some v) (hv':PySem.W.handedIn v=true) (h:Q v {s with toks:=s.toks+1}):
 wpAny (model prog w) A (getAttr (.ref x) name expr) Q E s:=by
 obtain⟨od,J,hl⟩:=I.look;exact PySem.W.get_value X J (HE hg).1 (PySem.W.findObj_own hh ha rfl (by rw[hl,hv])) hv' h
theorem Mv{pl:Sem Bool}{Q:Value×List Value->Shared->Prop}(X:K.In s.heap)(I:Ih s.heap x dx C mA)(hg:PySem.W.plainGet K C name=true)
 (hf:PySem.W.findIn K (.ref C) name=some (some (.ref f))) (ht:PySem.W.isFn K (.ref f)=true) (hv:mA name=none) (h:Q (.ref f,[.ref x]) s):
 wpAny (model prog w) A (getMethod (.ref x) name pl) Q E s:=by
 obtain⟨od,J,hl⟩:=I.look;exact PySem.W.method_fn X J (HE hg).1 (HE hg).2 hf (beq_iff_eq.mp ht) (by show(PySem.W.lookIn name od).map (·.isSome)=some false;rw[hl,hv];rfl) h
theorem OV{ns:List Str}{Q:Unit->Shared->Prop}(X:K.In s.heap)(I:Ih s.heap x dx C mA)
 (hs:PySem.W.findIn K (.ref C) "__setattr__"=some (some (.builtin "object.__setattr__"))) (hp:PySem.W.plainOver K C=true) (ht:PySem.W.takerIn K C name=some none) (hh:PySem.W.hasDictIn K C=true)
 (hw:PySem.Within mA ns) (hsz:ns.length<=sizeLine)
 (h:∀h',Ih h' x dx C (λy=>if y=name then some v else mA y)->Heap.SameBut dx s.heap h'->Q () {s with heap:=h',toks:=s.toks+2}):
 wpAny (model prog w) A (setAttr (.ref x) name v) Q E s:=by
 obtain⟨od,J,hl⟩:=I.look;refine LO X J hs (PySem.W.osa_open (s:={s with toks:=s.toks+1}) (r:=none) X J hp ht λb=>?_);obtain⟨cd,hc,hd'⟩:=Ba hh;have hx:s.heap.get? x=some ⟨.ref C,some dx,.plain,#[]⟩:=I.obj;refine ae (aA (ae (ae (wpAny_loadPart hx (ae (JH (s:={s with toks:=s.toks+1}) (vH X hc) ?_))))));rw[hd'];refine aA (a:=some dx) (ae (aA (ae ?_)));refine wpAny_nsSet1 (s:={s with toks:=s.toks+1}) I.ns λh' hn2 hs2=>?_;obtain⟨oD,esD,epD,hoD,hdD,hcD⟩:=hn2.count (LP name v hw);refine ae (wpAny_lookBehind hoD (by rw[hdD];exact pastItsLine_dict (be hcD (by rw[aT];lia))) ?_);exact aA (h _ ⟨(hs2.2 _ (bh I.ne)).trans I.obj,hn2,I.ne⟩ hs2)
theorem Mw{R:Result->Shared->Prop}{vs:List Value}{kw:List (Str×Value)}(X:K.In s.heap)(hm:PySem.W.makesIn K C=true)
 (hi:PySem.W.findIn K (.ref C) "__init__"=some (some (.ref f))) (hf:PySem.W.typeIn K (.ref f)=some (.type "function"))
 (h:codeAny (model prog w) (A.under (.builtin "type.__call__" ⟨.ref C::vs,kw⟩)) (.call (.ref f) ⟨.ref (s.heap.objs.size+1)::vs,kw⟩) (PySem.W.InitBack (s.heap.objs.size+1) R)
  {s with heap:=(s.heap.push PySem.W.emptyDict).push (PySem.W.instObj C s.heap.objs.size)}):
 codeAny (model prog w) A (.call (.ref C) ⟨vs,kw⟩) R s:=by
 obtain⟨hh,g,d,t,os⟩:=s;exact PySem.W.make_core (PySem.W.makes_of X hm) (ku X hi) (λself=>PySem.W.bind_fn X self hf) (.inl rfl) h
end
noncomputable def eG(f:Str)(v:V):List (Str×V)->List (Str×V)
 |[]=>[(f,v)]
 |(g,x)::r=>if g=f then(g,v)::r else(g,x)::eG f v r
theorem tX(f g:Str)(v:V):∀fs:List (Str×V),(eG f v fs).lookup g=if g=f then some v else fs.lookup g
 |[]=>by
  show List.lookup g [(f,v)]=_;by_cases h:g=f
  ·have hb:(g==f)=true:=beq_iff_eq.mpr h;simp only[List.lookup,hb,ao h]
  ·have hb:(g==f)=false:=beq_eq_false_iff_ne.mpr h;simp only[List.lookup,hb,ah h]
 |(k,x)::r=>by
  have ih:=tX f g v r;rw[show eG f v ((k,x)::r)=(if k=f then(k,v)::r else(k,x)::eG f v r)from rfl];by_cases hk:k=f
  ·rw[ao hk];by_cases h:g=k
   ·have hb:(g==k)=true:=beq_iff_eq.mpr h;simp only[List.lookup,hb,ao (h.trans hk)]
   ·have hb:(g==k)=false:=beq_eq_false_iff_ne.mpr h;simp only[List.lookup,hb,ah (λe:g=f=>h (e.trans hk.symm))]
  ·rw[ah hk];by_cases h:g=k
   ·have hb:(g==k)=true:=beq_iff_eq.mpr h;simp only[List.lookup,hb,ah (λe:g=f=>hk (h.symm.trans e))]
   ·have hb:(g==k)=false:=beq_eq_false_iff_ne.mpr h;simp only[List.lookup,hb];exact ih
theorem zp(f:Str)(v:V):∀fs:List (Str×V),f∈(eG f v fs).map (·.1)/\∀g,g∈fs.map (·.1)->g∈(eG f v fs).map (·.1)
 |[]=>⟨by simp[eG],λg h=>by simp at h⟩
 |(k,x)::r=>by
  obtain⟨i1,i2⟩:=zp f v r;rw[show eG f v ((k,x)::r)=(if k=f then(k,v)::r else(k,x)::eG f v r)from rfl];by_cases hk:k=f
  ·rw[ao hk];subst hk;exact⟨by simp,λg h=>by simpa using h⟩
  ·rw[ah hk];refine⟨?_,λg h=>?_⟩
   ·rw[bW];exact aL _ i1
   ·rw[bW]at h⊢;rcases List.mem_cons.mp h with e|e
    ·exact List.mem_cons.mpr (.inl e)
    ·exact aL _ (i2 g e)
theorem Ao(f:Str)(v:V):∀fs:List (Str×V),(eG f v fs).length<=fs.length+1
 |[]=>by simp[eG]
 |(k,x)::r=>by
  have ih:=Ao f v r;rw[show eG f v ((k,x)::r)=(if k=f then(k,v)::r else(k,x)::eG f v r)from rfl];by_cases hk:k=f
  ·rw[ao hk,aT,aT];lia
  ·rw[ah hk,aT,aT];lia
theorem lZ.some_of{v:V}{o:Option Value}(r:lZ (some v) o):∃u,o=some u/\RelV v u:=by
 cases o with
 |none=>exact(show False from r).elim
 |some u=>exact⟨u,rfl,r⟩
theorem lZ.none_of{o:Option Value}(r:lZ none o):o=none:=by
 cases o with
 |none=>rfl
 |some u=>exact(show False from r).elim
theorem DZ{v:V}{u:Value}(r:RelV v u):PySem.W.handedIn u=true:=by
 cases v with
 |gb=>cases(show u=Value.none from r);rfl
 |bl b=>cases(show u=Value.bool b from r);rfl
 |int i=>obtain⟨t,e⟩:=(show∃t,u=Value.int i t from r);cases e;rfl
 |str x=>obtain⟨t,e⟩:=(show∃t,u=Value.str x t from r);cases e;rfl
 |F9 b=>obtain⟨t,e⟩:=(show∃t,u=Value.bytes b t from r);cases e;rfl
 |Uo b=>obtain⟨t,e⟩:=(show∃t,u=Value.float b t from r);cases e;rfl
 |ref a=>cases(show u=Value.ref a from r);rfl
 |ty n=>cases(show u=Value.type n from r);rfl
section
variable{P:Program}{w:World}{H H':Hp}{h h':Heap}{a C dx:Addr}{fs fs':List (Str×V)}
theorem EY(dI:sr P w H h)(e:H a=some (.ins C dx fs)):∃mA,Ih h a dx C mA/\(∀f,lZ (fs.lookup f) (mA f))/\PySem.Within mA (fs.map (·.1))/\fs.length<=1000/\H dx=some (.own a):=by
 obtain⟨d,z,ne,ob,mA,n,r,q⟩:=(show eI P w H h a (.ins C dx fs)from dI a _ e);exact⟨mA,⟨ob,n,ne⟩,r,q,z,d⟩
end
structure Dq(K:PySem.W.Frag)(C:Addr):Prop where
 pg:PySem.W.plainGet K C Str.empty=true
 hd:PySem.W.hasDictIn K C=true
 po:PySem.W.plainOver K C=true
 sa:PySem.W.findIn K (.ref C) "__setattr__"=some (some (.builtin "object.__setattr__"))
theorem Dq.get{K:PySem.W.Frag}{C:Addr}(c:Dq K C)(f:Str):PySem.W.plainGet K C f=true:=c.pg
def df(K:PySem.W.Frag)(C:Addr)(f:Str):Prop:=PySem.W.findIn K (.ref C) f=some none
theorem df.S4{K:PySem.W.Frag}{C:Addr}{f:Str}(n:df K C f):PySem.W.takerIn K C f=some none:=by
 unfold PySem.W.takerIn;rw[show PySem.W.findIn K (.ref C) f=some none from n];rfl
structure c5(K:PySem.W.Frag)(C:Addr)(m:Str)(f:Addr):Prop where
 at_:PySem.W.findIn K (.ref C) m=some (some (.ref f))
 fn:PySem.W.isFn K (.ref f)=true
 kp:PySem.W.keepIn K (.ref f)=true
section
variable{X:Cx}{pins:List (Addr×Obj)}{σ:St}{H:Hp}{s:Shared}{a C dx:Addr}{fs:List (Str×V)}{f:Str}{v:V}{A:Around}{E:Value->Shared->Prop}
theorem BF{b:Bool}{Q:Value->Shared->Prop}(I:Inv X pins σ H s)(e:H a=some (.ins C dx fs))(c:Dq X.K C)(n:df X.K C f)(l:fs.lookup f=some v)
 (h:∀u s',Inv X pins σ H s'->RelV v u->Q u s'):wpAny (model X.prog X.w) A (getAttr (.ref a) f b) Q E s:=by
 obtain⟨mA,O,r,_,_,_⟩:=EY I.dI e;obtain⟨u,hu,ru⟩:=lZ.some_of (v:=v) (o:=mA f) (by rw[<-l];exact r f);exact get_map I.vL O (c.get f) c.hd n hu (DZ ru) (h u _ (I.tok _) ru)
theorem BG{m:Str}{g:Addr}{pl:Sem Bool}{Q:Value×List Value->Shared->Prop}(I:Inv X pins σ H s)(e:H a=some (.ins C dx fs))(c:Dq X.K C)(k:c5 X.K C m g)(l:fs.lookup m=none)
 (h:Q (.ref g,[.ref a]) s):wpAny (model X.prog X.w) A (getMethod (.ref a) m pl) Q E s:=by
 obtain⟨mA,O,r,_,_,_⟩:=EY I.dI e;have hn:mA m=none:=lZ.none_of (by rw[<-l];exact r m);exact Mv I.vL O (c.get m) k.at_ k.fn hn h
theorem BH{y:V}{u:Value}{Q:Unit->Shared->Prop}(I:Inv X pins σ H s)(e:H a=some (.ins C dx fs))(c:Dq X.K C)(n:df X.K C f)(hl:fs.length<1000)(ry:RelV y u)
 (h:∀s',Inv X pins σ (upd H a (.ins C dx (eG f y fs))) s'->Q () s'):wpAny (model X.prog X.w) A (setAttr (.ref a) f u) Q E s:=by
 obtain⟨mA,O,r,wi,_,ho⟩:=EY I.dI e;have hz:(fs.map (·.1)).length<=sizeLine:=by rw[ay,aM];lia
 refine OV I.vL O c.sa c.po n.S4 c.hd wi hz λh' O' sb=>h _ ?_;have hd:∃o,h'.get? dx=some o:=let⟨o,_,_,e',_⟩:=O'.ns;⟨o,e'⟩;refine I.write (x:=a) (e:=dx) (by rw[e];exact True.intro) (.inr ho) (λb q hb z=>(sb.2 b hb).trans z) hd ?_;refine⟨by rw[bt O.ne];exact ho,?_,O.ne,O'.obj,_,O'.ns,λg=>?_,λg hg=>?_⟩
 ·have:=Ao f y fs;lia
 ·show lZ ((eG f y fs).lookup g) (if g=f then some u else mA g);rw[tX];by_cases q:g=f
  ·rw[ao q,ao q];exact ry
  ·rw[ah q,ah q];exact r g
 ·by_cases q:g=f
  ·rw[q];exact(zp f y fs).1
  ·refine(zp f y fs).2 g (wi g λz=>hg ?_);show(if g=f then some u else mA g)=none;rw[ah q];exact z
theorem Inv.made(I:Inv X pins σ H s):Inv X pins σ (upd (upd H s.heap.objs.size (.own (s.heap.objs.size+1))) (s.heap.objs.size+1) (.ins C s.heap.objs.size []))
 {s with heap:=(s.heap.push PySem.W.emptyDict).push (PySem.W.instObj C s.heap.objs.size)}:=by
 have e1:(s.heap.push PySem.W.emptyDict).get? s.heap.objs.size=some PySem.W.emptyDict:=aW s.heap rfl;have e2:((s.heap.push PySem.W.emptyDict).push (PySem.W.instObj C s.heap.objs.size)).get? (s.heap.objs.size+1)=some (PySem.W.instObj C s.heap.objs.size):=by
  have:=aW (s.heap.push PySem.W.emptyDict) (o:=PySem.W.instObj C s.heap.objs.size) rfl
  rwa [cG]at this
 have e3:(s.heap.push PySem.W.emptyDict).Ns s.heap.objs.size (λ_=>none):=⟨PySem.W.emptyDict,#[],_,e1,rfl,(λe he=>absurd he (by simp)),λ_=>rfl⟩;have I1:=I.laid (a:=s.heap.objs.size) (o:= .own (s.heap.objs.size+1)) (h':=s.heap.push PySem.W.emptyDict) (t':=s.toks) (λb u q=>aG _ q) (aH _) ⟨_,e1⟩;refine I1.laid (a:=s.heap.objs.size+1) (o:= .ins C s.heap.objs.size []) (t':=s.toks) (λb u q=>aG _ q) (gR (cG _ _)) ?_;have ne:s.heap.objs.size≠s.heap.objs.size+1:=bZ (Bb _);refine⟨by rw[bt ne,aC],br _,ne,e2,λ_=>none,(Heap.Ns1.of_empty e3).at λo q=>aG _ q,λ_=>True.intro,λy hy=>absurd rfl hy⟩
theorem JP{prog:Program}{w:World}{env:Env}{e:Expr}{f:Str}{pos:Pos}{s:Shared}{Q:Value->Shared->Prop}(hb:attributeBase e f env (eval e env)=eval e env)
 (h:wpAny (model prog w) A (eval e env) (λo s₁=>wpAny (model prog w) A (getAttr o f true) Q E s₁) E s):wpAny (model prog w) A (eval (.Attribute e f pos) env) Q E s:=
 Attribute_any_ h (by rw[arm_eval_Attribute,hb])
end
def S5(K:PySem.W.Frag)(ta:TE)(f:Str):TE:=λσ H Q=>ta σ H λx H1=>∃a C dx fs v,x= .ref a/\H1 a=some (.ins C dx fs)/\Dq K C/\df K C f/\fs.lookup f=some v/\Q v H1
def US(K:PySem.W.Frag)(ta tv:TE)(f:Str):TS:=λD σ H=>tv σ H λy H1=>ta σ H1 λx H2=>∃a C dx fs,x= .ref a/\H2 a=some (.ins C dx fs)/\Dq K C/\df K C f/\fs.length<1000/\
 D.nx σ (upd H2 a (.ins C dx (eG f y fs)))
def S6(X:Cx)(op:Operator)(rd:V->V->Hp->VK->Prop):Prop:=
 ∀(pins:List (Addr×Obj))(s:Shared)(σ:St)(H:Hp)(x y:V)(u v:Value)(Q:VK),Inv X pins σ H s->RelV x u->RelV y v->rd x y H Q->wpAny (model X.prog X.w) X.A (inplaceOp op u v) (EP X pins σ Q) X.xe s
def OW(K:PySem.W.Frag)(ta tv:TE)(rd:V->V->Hp->VK->Prop)(f:Str):TS:=λD σ H=>ta σ H λx H1=>∃a C dx fs v,x= .ref a/\H1 a=some (.ins C dx fs)/\Dq K C/\df K C f/\fs.lookup f=some v/\
 tv σ H1 λy H2=>rd v y H2 λz H3=>∃dx' fs',H3 a=some (.ins C dx' fs')/\fs'.length<1000/\D.nx σ (upd H3 a (.ins C dx' (eG f z fs')))
section
variable{X:Cx}{o e value:Expr}{f:Str}{pos pos' tpos:Pos}{ta tv:TE}
theorem aO(he:PE X e ta)(hb:attributeBase e f X.env (eval e X.env)=eval e X.env):PE X (.Attribute e f pos) (S5 X.K ta f):=by
 intro pins s σ H Q I h;refine JP hb (eu (he pins s σ H _ I h) λu s1=>W6 λx H1=>W8 λI1 rx=>W7 λa C dx fs=>Xa λv=>Xb λex ea c n l q=>?_);subst ex;obtain rfl:u=Value.ref a:=rx;exact BF I1 ea c n l λu' s2 I2 ru=>⟨v,H1,I2,ru,q⟩
theorem dz(ha:PE X o ta)(hv:PE X value tv)(hs:swapsWith value (some (.Attribute o f pos')) pos.line X.env=pure false):PS X (.Assign [.Attribute o f pos'] value pos) (US X.K ta tv f):=by
 intro pins s σ H D I h;refine plainObj_wpAny_Assign_Attribute (eu (hv pins s σ H _ I h) λu s1 ⟨y,H1,I1,ry,q⟩=>eu (ha pins s1 σ H1 _ I1 q) λov s2=>W6 λx H2=>W8 λI2 rx=>W7 λa C dx fs=>Xb λex ea c n l q2=>?_) hs;subst ex;obtain rfl:ov=Value.ref a:=rx;exact BH I2 ea c n l ry λs3 I3=>⟨σ,_,I3,q2⟩
theorem KS{op:Operator}{rd:V->V->Hp->VK->Prop}(ha:PE X o ta)(hv:PE X value tv)(hop:S6 X op rd):PS X (.AugAssign (.Attribute o f tpos) op value pos) (OW X.K ta tv rd f):=by
 intro pins s σ H D I h;refine wpAny_AugAssign_AttributeAny (eu (ha pins s σ H _ I h) λov s1 h_0=>?_);revert h_0;refine W6 λx H1=>W8 λI1 rx=>W7 λa C dx fs=>Xa λv=>Xb λex ea c n l q=>?_;subst ex;obtain rfl:ov=Value.ref a:=rx;refine BF I1 ea c n l λu s2 I2 ru=>eu (hv pins s2 σ H1 _ I2 q) λw3 s3 ⟨y,H2,I3,ry,q3⟩=>eu (hop pins s3 σ H2 v y u w3 _ I3 ru ry q3) λw4 s4=>W6 λz H3=>W8 λI4 rz=>W6 λdx' fs'=>W8 λea' l' q4=>?_;exact BH I4 ea' c n l' rz λs5 I5=>⟨σ,_,I5,q4⟩
def UT:V->V->Hp->VK->Prop:=λx y H Q=>∃i j,x= .int i/\y= .int j/\Q (.int (i+j)) H
theorem Rw:S6 X .Add UT:=by
 rintro pins s σ H x y u v Q I rx ry ⟨i,j,rfl,rfl,q⟩;obtain⟨t,rfl⟩:=(show∃t,u=Value.int i t from rx);obtain⟨t',rfl⟩:=(show∃t',v=Value.int j t' from ry);exact PyProof.Rows.iadd_int ⟨.int (i+j),H,I.tok _,⟨_,rfl⟩,q⟩
end
structure fK(k:Nat)(A:Around):Prop where
 hd:A.handled=none
 dp:A.depth+3*k+5<recursionLimit
 un:A.units+16*k+200<cLine
theorem fK.mono{j k:Nat}{A:Around}(r:fK k A)(h:j<=k):fK j A:=⟨r.hd,by have:=r.dp;lia,by have:=r.un;lia⟩
theorem fK.deeper{k:Nat}{A:Around}(r:fK (k+1) A)(env:Env):fK k (A.deeper env):=
 ⟨r.hd,by have:=r.dp;show A.depth+1+3*k+5<_;lia,by have:=r.un;show A.units+3+16*k+200<_;lia⟩
theorem Ii{A:Around}{C:Addr}{us:List Value}{kw:List (Str×Value)}:(A.under (.builtin "type.__call__" ⟨.ref C::us,kw⟩)).depth=A.depth+1:=by
 first|rfl|simp[Around.under,Code.weight,Code.isCreation,Code.isGuard,Code.isCaller,Code.frames,Code.isFrame,guardIds]
theorem Ij{A:Around}{C:Addr}{us:List Value}{kw:List (Str×Value)}:(A.under (.builtin "type.__call__" ⟨.ref C::us,kw⟩)).units=A.units+1:=by
 first|rfl|simp[Around.under,Code.cUnits,Code.frames,Code.isFrame]
theorem fK.make{k:Nat}{A:Around}(r:fK (k+1) A)(C:Addr)(us:List Value)(kw:List (Str×Value)):fK k (A.under (.builtin "type.__call__" ⟨.ref C::us,kw⟩)):=
 ⟨r.hd,by have:=r.dp;rw[Ii];lia,by have:=r.un;rw[Ij];lia⟩
theorem fK.depth{k:Nat}{A:Around}(r:fK k A):A.depth<recursionLimit:=by have:=r.dp;lia
theorem fK.units{k:Nat}{A:Around}(r:fK k A):A.units+64<cLine:=by have:=r.un;lia
def Ik:TA:=λ_ H Q=>Q [] H
def S7(ta:TE)(tr:TA):TA:=λσ H Q=>ta σ H λx H1=>tr σ H1 λxs H2=>Q (x::xs) H2
section
variable{X:Cx}{e:Expr}{es:List Expr}{te:TE}{t:TA}{pos:Pos}
theorem ai:PA X [] Ik:=λ_ _ _ _ H Q I h=>Calls.spliced_nil ⟨[],H,I,.nil,h⟩
theorem aa(ha:PE X e te)(hr:PA X es t)(hs:starEach (e::es) X.env=(false,eval e X.env)::starEach es X.env:=by rfl):PA X (e::es) (S7 te t):=by
 intro pos pins s σ H Q I h;rw[hs];show wpAny _ _ (spliced ((false,eval e X.env)::backTo pos (starEach es X.env))) _ _ s;refine Calls.spliced_cons (eu (ha pins s σ H _ I h) λu s1=>W6 λx H1=>W8 λI1 r1 q1=>?_);exact eu (hr pos pins s1 σ H1 _ I1 q1) λus s2 ⟨xs,H2,I2,r2,q2⟩=>⟨x::xs,H2,I2,.cons r1 r2,q2⟩
def UU(t:TA):TE:=λσ H Q=>t σ H λxs H1=>xs.length<=sizeLine/\∀p,H1 p=none->Q (.ref p) (upd H1 p (.tup xs))
def UW(t:TA):TE:=λσ H Q=>t σ H λxs H1=>xs.length<=sizeLine/\∀p,H1 p=none->Q (.ref p) (upd H1 p (.lst xs))
theorem qV{x1}(h:PA X es t):PE X (.Tuple es x1 pos) (UU t):=by
 intro pins s σ H Q I hq;refine wpAny_Tuple_spliced (eu (h pos pins s σ H _ I hq) λus s1 ⟨xs,H1,I1,r,z,q⟩=>⟨by rw[<-r.length];exact z,?_⟩);have hf:H1 s1.heap.objs.size=none:=I1.dI.fresh (aH _);refine⟨.ref s1.heap.objs.size,upd H1 s1.heap.objs.size (.tup xs),I1.laid (t':=s1.toks) (λb u e=>aG _ e) (aH _) ?_,rfl,q _ hf⟩;exact⟨z,us,r,⟨_,aW _ rfl,rfl,_,rfl⟩⟩
theorem cI(h:PA X es t):PE X (.List es pos) (UW t):=by
 intro pins s σ H Q I hq;refine wpAny_List_spliced (eu (h pos pins s σ H _ I hq) λus s1 ⟨xs,H1,I1,r,z,q⟩=>⟨by rw[<-r.length];exact z,?_⟩);have hf:H1 s1.heap.objs.size=none:=I1.dI.fresh (aH _);refine⟨.ref s1.heap.objs.size,upd H1 s1.heap.objs.size (.lst xs),I1.laid (t':=s1.toks) (λb u e=>aG _ e) (aH _) ?_,rfl,q _ hf⟩;exact⟨z,us,0,r,aW _ rfl⟩
end
abbrev Sp:=List V->Hp->VK->XK->Prop
abbrev HL:=List Env->Hp->Shared->XK->Value->Shared->Prop
structure Il(P:Program)(w:World)(K:PySem.W.Frag)(mg:Str->Option Value)(base:Heap)(A:Around)(outer:List Env)(s:Shared)(H:Hp):Prop where
 frames:A.frames=some outer
 mod:Mod K mg base
 bs:∀b o,base.get? b=some o->s.heap.get? b=some o/\H b=none
 Me:base.objs.size<=s.heap.objs.size
 wZ:s.heap.FunFrames base outer
 OR:∀b∈xM outer,H b=none
 dI:sr P w H s.heap
 bare:AllBare s.gens
def CE(outer:List Env)(P:Program)(w:World)(H:Hp)(s:Shared)(Q:VK)(u:Value)(s':Shared):Prop:=
 ∃v H',s'.os=s.os/\AllBare s'.gens/\Un (xM outer) [] H H' s.heap s'.heap/\sr P w H' s'.heap/\RelV v u/\Q v H'
def CR(CX:HL)(outer:List Env)(P:Program)(w:World)(H:Hp)(s:Shared)(Q:VK)(E:XK)(r:Result)(s':Shared):Prop:=
 match r with
 | .ok (.ret u)=>CE outer P w H s Q u s'
 | .ok _=>False
 | .error e=>CX outer H s E e s'
structure lq(P:Program)(w:World)(K:PySem.W.Frag)(mg:Str->Option Value)(base:Heap)(CX:HL)(k:Nat)(f:Addr)(fd:FuncData)(ps:List Str)(sp:Sp):Prop where
 len:∀vs H Q E,sp vs H Q E->vs.length=ps.length
 run:∀(A:Around)(outer:List Env)(s:Shared)(H:Hp)(args:Args)(us:List Value)(vs:List V)(Q:VK)(E:XK),fK k A->Il P w K mg base A outer s H->BindsTo s fd args (ps.zip us)->cE vs us->sp vs H Q E->
  codeAny (model P w) A (.call (.ref f) args) (CR CX outer P w H s Q E) s
theorem lq.mono{P:Program}{w:World}{K:PySem.W.Frag}{mg:Str->Option Value}{base:Heap}{CX:HL}{j k:Nat}{f:Addr}{fd:FuncData}{ps:List Str}{sp:Sp}(F:lq P w K mg base CX j f fd ps sp)(h:j<=k):
 lq P w K mg base CX k f fd ps sp:=⟨F.len,λA outer s H args us vs Q E hr=>F.run A outer s H args us vs Q E (hr.mono h)⟩
theorem Il.make{P:Program}{w:World}{K:PySem.W.Frag}{mg:Str->Option Value}{base:Heap}{A:Around}{outer:List Env}{s:Shared}{H:Hp}(e:Il P w K mg base A outer s H)(C:Addr)(us:List Value)(kw:List (Str×Value)):
 Il P w K mg base (A.under (.builtin "type.__call__" ⟨.ref C::us,kw⟩)) outer s H:=⟨by first|exact e.frames|(simpa[Around.under,Code.envs,Code.isFrame,pushEnvs]using e.frames),e.mod,e.bs,e.Me,e.wZ,e.OR,e.dI,e.bare⟩
section
variable{X:Cx}{pins:List (Addr×Obj)}{σ:St}{H:Hp}{s s':Shared}
theorem Inv.Rx(I:Inv X pins σ H s):Il X.prog X.w X.K X.mg X.base X.A X.stack s H:=
 ⟨I.ok.frames,I.ok.mod,I.bs,be I.ok.Me I.sz,I.stack,I.Bi,I.dI,I.bare⟩
theorem Inv.after{Q:VK}{u:Value}(I:Inv X pins σ H s)(h:CE X.stack X.prog X.w H s Q u s'):EP X pins σ Q u s':=by
 obtain⟨v,H',os,bare,un,dI,r,q⟩:=h;obtain⟨hh,g,d,t,os'⟩:=s';obtain rfl:os'=s.os:=os;exact⟨v,H',I.call (h':=hh) (g':=g) (d':=d) (t':=t) (ch:=[]) un dI bare (λb z=>absurd z (by simp)),r,q⟩
end
def JQ(sp:Sp)(dvs:List V)(E:XK)(t:TA):TE:=λσ H Q=>t σ H λvs H1=>sp (vs++dvs) H1 Q E
def JR(C:Addr)(m:Str)(sp:Sp)(dvs:List V)(E:XK)(ta:TE)(t:TA):TE:=λσ H Q=>ta σ H λx H1=>∃a dx fs,x= .ref a/\H1 a=some (.ins C dx fs)/\fs.lookup m=none/\
 t σ H1 λvs H2=>sp (x::(vs++dvs)) H2 Q E
def JS(C:Addr)(sp:Sp)(dvs:List V)(E:XK)(t:TA):TE:=λσ H Q=>t σ H λvs H1=>∀x dx,H1 x=none->H1 dx=none->dx≠x->
 sp (.ref x::(vs++dvs)) (upd (upd H1 dx (.own x)) x (.ins C dx [])) (λv H2=>v= .gb/\Q (.ref x) H2) E
def Binds(K:PySem.W.Frag)(fd:FuncData)(ps:List Str)(ds:List Value):Prop:=
 ∀(s:Shared)(us:List Value),K.In s.heap->(us++ds).length=ps.length->BindsTo s fd ⟨us,[]⟩ (ps.zip (us++ds))
theorem Binds.all{K:PySem.W.Frag}{fd:FuncData}{ps:List Str}(h:∀us:List Value,us.length=ps.length->bindArgs fd ⟨us,[]⟩=pure (ps.zip us)):Binds K fd ps []:=λs us _ hl=>by
 rw[bD]at hl⊢;exact .of_eq (h us hl)
def gf(CX:HL)(X:Cx)(E:XK):Prop:=∀(pins:List (Addr×Obj))(σ:St)(H:Hp)(s:Shared)(e:Value)(s':Shared),Inv X pins σ H s->CX X.stack H s E e s'->X.xe e s'
section
variable{X:Cx}{CX:HL}{k:Nat}{f C:Addr}{fd:FuncData}{ps:List Str}{sp:Sp}{dvs:List V}{ds:List Value}{E:XK}{x m:Str}{p pos apos:Pos}{e o:Expr}{es:List Expr}{ta:TE}{t:TA}
theorem EZ{pins:List (Addr×Obj)}{σ:St}{H:Hp}{s:Shared}{Q:VK}{us:List Value}{vs:List V}(F:lq X.prog X.w X.K X.mg X.base CX k f fd ps sp)(hr:fK k X.A)(hb:Binds X.K fd ps ds)(hd:cE dvs ds)(hx:gf CX X E)
 (I:Inv X pins σ H s) (r:cE vs us) (h:sp (vs++dvs) H Q E):wpAny (model X.prog X.w) X.A (call (.ref f) us) (EP X pins σ Q) X.xe s:=by
 have r2:cE (vs++dvs) (us++ds):=r.append hd;have hl:(us++ds).length=ps.length:=by rw[<-r2.length];exact F.len _ _ _ _ h
 refine HF (jT (F.run X.A X.stack s H ⟨us,[]⟩ (us++ds) (vs++dvs) Q E hr I.Rx (hb s us I.vL hl) r2 h) λr s' hq=>?_);cases r with
 |error e=>exact hx pins σ H s e s' I hq
 |ok fl=>
  cases fl with
  |ret u=>exact I.after hq
  |next=>exact False.elim hq
  |brk=>exact False.elim hq
  |cont=>exact False.elim hq
theorem OX(F:lq X.prog X.w X.K X.mg X.base CX k f fd ps sp)(hr:fK k X.A)(hg:Gl X x)(hm:X.mg x=some (.ref f))(hk:PySem.W.keepIn X.K (.ref f)=true)(hb:Binds X.K fd ps ds)(hd:cE dvs ds)(hx:gf CX X E)
 (ha:PA X (e::es) t) (hdb:(x==("__debug__":Str))=false:=by decide) (he:starEach (e::es) X.env=(false,eval e X.env)::starEach es X.env:=by rfl) (hpl:(backTo pos (starEach es X.env)).any (·.1)=false:=by rfl):
 PE X (.Call (.Name x p) (e::es) [] pos) (JQ sp dvs E t):=by
 intro pins s σ H Q I h;refine gS (nY I hg hm ?_ hdb);refine nH (h₀:=X.base) I.ok.mod.Qx hk (eu (ha pos pins s σ H _ I h) λus s1 ⟨vs,H1,I1,r,q⟩=>⟨I1.vL,?_⟩) he hpl;exact EZ F hr hb hd hx I1 r q
theorem OY{pl:Sem Bool}(he:PE X o ta)(c:Dq X.K C)(hm:c5 X.K C m f)(F:lq X.prog X.w X.K X.mg X.base CX k f fd ps sp)(hr:fK k X.A)(hb:Binds X.K fd ps ds)(hd:cE dvs ds)(hx:gf CX X E)(ha:PA X (e::es) t)
 (hst:starEach (e::es) X.env=(false,eval e X.env)::starEach es X.env:=by rfl) (hpl:(backTo pos (starEach es X.env)).any (·.1)=false:=by rfl)
 (ht:eval (.Call (.Attribute o m apos) (e::es) [] pos) X.env=(do
  let ov<-eval o X.env
  standAt apos.atName
  let(f,first)<-holding [ov] (getMethod ov m pl)
  callWith pos f first (backTo pos (starEach (e::es) X.env)) (backToKw pos (keywordEach [] X.env))):=by rfl):
 PE X (.Call (.Attribute o m apos) (e::es) [] pos) (JR C m sp dvs E ta t):=by
 intro pins s σ H Q I h;refine DS (pl:=pl) (eu (he pins s σ H _ I h) λu s1=>W6 λx H1=>W8 λI1 rx=>Xc λa dx fs=>Xd λex ea l q=>?_) ht;subst ex;obtain rfl:u=Value.ref a:=rx;refine BG I1 ea c hm l ?_;refine nH (first:=[.ref a]) (h₀:=X.base) I.ok.mod.Qx hm.kp (eu (ha pos pins s1 σ H1 _ I1 q) λus s2 ⟨vs,H2,I2,r,q2⟩=>⟨I2.vL,?_⟩) hst hpl;exact EZ (us:= .ref a::us) (vs:= .ref a::vs) F hr hb hd hx I2 (.cons rfl r) q2
theorem Mx{pl:Sem Bool}(he:PE X o ta)(c:Dq X.K C)(hm:c5 X.K C m f)(F:lq X.prog X.w X.K X.mg X.base CX k f fd ps sp)(hr:fK k X.A)(hb:Binds X.K fd ps ds)(hd:cE dvs ds)(hx:gf CX X E)
 (ht:eval (.Call (.Attribute o m apos) [] [] pos) X.env=(do
  let ov<-eval o X.env
  standAt apos.atName
  let(f,first)<-holding [ov] (getMethod ov m pl)
  callWith pos f first (backTo pos (starEach [] X.env)) (backToKw pos (keywordEach [] X.env))):=by rfl):
 PE X (.Call (.Attribute o m apos) [] [] pos) (JR C m sp dvs E ta Ik):=by
 intro pins s σ H Q I h;refine DS (pl:=pl) (eu (he pins s σ H _ I h) λu s1=>W6 λx H1=>W8 λI1 rx=>Xc λa dx fs=>Xd λex ea l q=>?_) ht;subst ex;obtain rfl:u=Value.ref a:=rx;refine BG I1 ea c hm l ?_;exact HG (first:=[.ref a]) I1.vL hm.kp (EZ (us:=[.ref a]) (vs:=[.ref a]) F hr hb hd hx I1 (.cons rfl .nil) q)
structure Mk(K:PySem.W.Frag)(C f:Addr):Prop where
 makes:PySem.W.makesIn K C=true
 init:PySem.W.findIn K (.ref C) "__init__"=some (some (.ref f))
 fn:PySem.W.isFn K (.ref f)=true
 kp:PySem.W.keepIn K (.ref C)=true
theorem Gg{pins:List (Addr×Obj)}{σ:St}{H:Hp}{s:Shared}{Q:VK}{us:List Value}{vs:List V}(M:Mk X.K C f)(F:lq X.prog X.w X.K X.mg X.base CX k f fd ps sp)(hr:fK (k+1) X.A)(hb:Binds X.K fd ps ds)(hd:cE dvs ds)
 (hx:gf CX X E) (I:Inv X pins σ H s) (r:cE vs us)
 (h:∀x dx,H x=none->H dx=none->dx≠x->sp (.ref x::(vs++dvs)) (upd (upd H dx (.own x)) x (.ins C dx [])) (λv H2=>v= .gb/\Q (.ref x) H2) E):
 wpAny (model X.prog X.w) X.A (call (.ref C) us) (EP X pins σ Q) X.xe s:=by
 have hq:=h (s.heap.objs.size+1) s.heap.objs.size (I.dI.fresh (nQ _)) (I.dI.fresh (aH _)) (bZ (Bb _));have I2:=Inv.made (C:=C) I;have r2:cE (V.ref (s.heap.objs.size+1)::(vs++dvs)) (Value.ref (s.heap.objs.size+1)::(us++ds)):= .cons rfl (r.append hd);have hl:(Value.ref (s.heap.objs.size+1)::us++ds).length=ps.length:=by
  have e:=r2.length;rw[F.len _ _ _ _ hq]at e;exact e.symm
 refine HF (Mw (f:=f) I.vL M.makes M.init (beq_iff_eq.mp M.fn) (jT (F.run _ X.stack _ _ ⟨Value.ref (s.heap.objs.size+1)::us,[]⟩ (Value.ref (s.heap.objs.size+1)::(us++ds)) _ _ E (hr.make C us [])
  (I2.Rx.make C us []) (hb _ (Value.ref (s.heap.objs.size+1)::us) I2.vL hl) r2 hq) λr s' hq'=>?_))
 cases r with
 |error e=>exact hx pins σ _ _ e s' I2 hq'
 |ok fl=>
  cases fl with
  |ret u=>
   obtain⟨v,H',I3,rv,ev,q3⟩:=I2.after hq';subst ev;exact⟨rv,⟨V.ref (s.heap.objs.size+1),H',I3,rfl,q3⟩⟩
  |next=>exact False.elim hq'
  |brk=>exact False.elim hq'
  |cont=>exact False.elim hq'
theorem OZ(M:Mk X.K C f)(F:lq X.prog X.w X.K X.mg X.base CX k f fd ps sp)(hr:fK (k+1) X.A)(hg:Gl X x)(hm:X.mg x=some (.ref C))(hb:Binds X.K fd ps ds)(hd:cE dvs ds)(hx:gf CX X E)
 (ha:PA X (e::es) t) (hdb:(x==("__debug__":Str))=false:=by decide) (he:starEach (e::es) X.env=(false,eval e X.env)::starEach es X.env:=by rfl) (hpl:(backTo pos (starEach es X.env)).any (·.1)=false:=by rfl):
 PE X (.Call (.Name x p) (e::es) [] pos) (JS C sp dvs E t):=by
 intro pins s σ H Q I h;refine gS (nY I hg hm ?_ hdb);refine nH (h₀:=X.base) I.ok.mod.Qx M.kp (eu (ha pos pins s σ H _ I h) λus s1 ⟨vs,H1,I1,r,q⟩=>⟨I1.vL,?_⟩) he hpl;exact Gg M F hr hb hd hx I1 r q
theorem Mz(M:Mk X.K C f)(F:lq X.prog X.w X.K X.mg X.base CX k f fd ps sp)(hr:fK (k+1) X.A)(hg:Gl X x)(hm:X.mg x=some (.ref C))(hb:Binds X.K fd ps ds)(hd:cE dvs ds)(hx:gf CX X E)
 (hdb:(x==("__debug__":Str))=false:=by decide):PE X (.Call (.Name x p) [] [] pos) (JS C sp dvs E Ik):=by
 intro pins s σ H Q I h;refine gS (nY I hg hm ?_ hdb);exact HG I.vL M.kp (Gg (us:=[]) M F hr hb hd hx I .nil h)
end
structure aU(N P:List Str)(sc:Scope):Prop where
 kind:sc.kind= .function
 co:sc.isCoroutine=false
 gen:sc.isGenerator=false
 nd:N.Nodup
 pre:N.take P.length=P
 par:∀x∈P,sc.names.lookup x=some .local\/sc.names.lookup x=some .cell
 Ry:∀y∈sc.names,y.2≠ .free
theorem D0{kindOf:Str->Option NameKind}{x:Str}:∀{binds:List (Str×Value)}{m:Str->Option Value},(∀v,(x,v)∉binds)->bindL kindOf binds m x=m x
 |[],_,_=>rfl
 |(n,v)::r,m,h=>by
  unfold bindL;rw[D0 λw hw=>h w (aL _ hw)];split
  ·have:x≠n:=by rintro rfl;exact h v aV
   simp[this]
  ·rfl
theorem D1{kindOf:Str->Option NameKind}{x:Str}:∀{binds:List (Str×Value)}{m:Str->Option Value},(∀v,(x,v)∉binds)->bindC kindOf binds m x=m x
 |[],_,_=>rfl
 |(n,v)::r,m,h=>by
  unfold bindC;rw[D1 λw hw=>h w (aL _ hw)];split
  ·rfl
  ·have:x≠n:=by rintro rfl;exact h v aV
   simp[this]
theorem D2{kindOf:Str->Option NameKind}{x:Str}{v:Value}:∀{P:List Str}{vs:List Value}{i:Nat}{m:Str->Option Value},P.Nodup->P[i]?=some x->vs[i]?=some v->kindOf x=some .local->
 bindL kindOf (P.zip vs) m x=some v
 |[],_,_,_,_,h,_,_=>by simp at h
 |_::_,[],_,_,_,_,h,_=>by simp at h
 |p::P,w::vs,0,m,nd,h1,h2,hk=>by
  simp at h1 h2;subst h1;subst h2;show bindL kindOf ((p,w)::P.zip vs) m p=_;unfold bindL;rw[D0 λv hv=>(List.nodup_cons.mp nd).1 (Dg hv).1,ao hk];simp
 |p::P,w::vs,i+1,m,nd,h1,h2,hk=>by
  show bindL kindOf ((p,w)::P.zip vs) m x=_;unfold bindL;exact D2 (i:=i) (List.nodup_cons.mp nd).2 (by simpa using h1) (by simpa using h2) hk
theorem D3{kindOf:Str->Option NameKind}{x:Str}{v:Value}:∀{P:List Str}{vs:List Value}{i:Nat}{m:Str->Option Value},P.Nodup->P[i]?=some x->vs[i]?=some v->kindOf x≠some .local->
 bindC kindOf (P.zip vs) m x=some v
 |[],_,_,_,_,h,_,_=>by simp at h
 |_::_,[],_,_,_,_,h,_=>by simp at h
 |p::P,w::vs,0,m,nd,h1,h2,hk=>by
  simp at h1 h2;subst h1;subst h2;show bindC kindOf ((p,w)::P.zip vs) m p=_;unfold bindC;rw[D1 λv hv=>(List.nodup_cons.mp nd).1 (Dg hv).1,ah hk];simp
 |p::P,w::vs,i+1,m,nd,h1,h2,hk=>by
  show bindC kindOf ((p,w)::P.zip vs) m x=_;unfold bindC;exact D3 (i:=i) (List.nodup_cons.mp nd).2 (by simpa using h1) (by simpa using h2) hk
noncomputable def start(N:List Str)(vs:List V):St:=vs.map some++List.replicate (N.length-vs.length) none
noncomputable def tY(CX:HL)(P:Program)(w:World)(K:PySem.W.Frag)(mg:Str->Option Value)(base:Heap)(N:List Str)(qual:Str)(scope:Scope)(f:Addr)(cd:Value)(A:Around)(outer:List Env)(s:Shared)(H:Hp)(E:XK):Cx where
 prog:=P
 w:=w
 K:=K
 mg:=mg
 base:=base
 A:=A.deeper (envOfC qual scope s.heap.objs.size f cd)
 N:=N
 xJ:=s
 Rh:=H
 env:=envOfC qual scope s.heap.objs.size f cd
 outer:=outer
 stack:=envOfC qual scope s.heap.objs.size f cd::outer
 ex:=[]
 calm:=true
 fn:=λ_=>true
 pn:=[]
 xe:=λe s'=>wpAny (model P w) (A.deeper (envOfC qual scope s.heap.objs.size f cd)) (leaving (envOfC qual scope s.heap.objs.size f cd) e) (λ_ s''=>CX outer H s E e s'') (λe' s''=>CX outer H s E e' s'') s'
theorem Gh{sc:Scope}{n:Nat}{x:Str}(h:sc.names.lookup x=some .cell):∃c,(cellsFrom n sc.names []).lookup x=some c:=by
 have q:=C8 sc.names n [] (.inl h);exact Option.isSome_iff_exists.mp q
theorem D4{CX:HL}{P:Program}{w:World}{K:PySem.W.Frag}{mg:Str->Option Value}{base:Heap}{N ps:List Str}{qual:Str}{scope:Scope}{f:Addr}{cd:Value}{A:Around}{outer:List Env}{s s1:Shared}{H:Hp}{E:XK}{us:List Value}{vs:List V}
 (S:aU N ps scope) (hd:A.handled=none) (e0:Il P w K mg base A outer s H) (hl:vs.length=ps.length) (r:cE vs us)
 (x:InCallC s s.heap.objs.size (bindL (envOfC qual scope s.heap.objs.size f cd).kindOf (ps.zip us) λ_=>none) (cellsFrom (s.heap.objs.size+1) scope.names []) (bindC (envOfC qual scope s.heap.objs.size f cd).kindOf (ps.zip us) λ_=>none) s1):
 Inv (tY CX P w K mg base N qual scope f cd A outer s H E) [] (start N vs) H s1:=by
 have hpl:ps.length<=N.length:=by have:=bJ List.length S.pre;rw[cz]at this;lia
 obtain⟨h1,tk,rfl,hk⟩:=x.done;have noA:∀b:Addr,b∉(tY CX P w K mg base N qual scope f cd A outer s H E).ex:=λb z=>absurd (show b∈([]:List Addr)from z) (by simp);refine⟨⟨e0.mod,S.kind,rfl,rfl,aH _,λy z c h1 h2=>?_,λy hy=>?_,λy c _ h=>?_,λ_=>hd,Around.frames_deeper e0.frames,.inr ⟨rfl,rfl⟩,λb z=>absurd z (noA b),e0.bs,e0.Me,λb _ _=>noA b,λb z=>absurd z (noA b),e0.wZ,e0.OR⟩,
  rfl,e0.bare,Un.kept hk,⟨_,x.toInCall.ns,λi y v h1 h2 h3=>?_⟩,λy c h=>⟨_,x.cell y c h⟩,e0.dI.fresh (aH _),λy c h=>?_,λp hp=>absurd (show p∈([]:List (Addr×Obj))from hp) (by simp),e0.dI.kept hk,?_⟩
 ·exact name_of_addr x.apart (cg h1) (cg h2)
 ·have hy:scope.names.lookup y=some .cell\/scope.names.lookup y=some .free:=hy;rcases hy with hy|hy
  ·exact Gh hy
  ·exact absurd rfl (S.Ry _ (cg hy))
 ·exact ll (x.above y c (cg h))
 ·have hi:i<vs.length:=by
   unfold start at h2;by_cases hi:i<vs.length
   ·exact hi
   ·rw[bA (by simpa using hi)]at h2;rw[nU]at h2;split at h2<;>cases h2
  have ha:vs[i]?=some v:=by
   unfold start at h2;rw[bO (by simpa using hi),aR]at h2;cases e:vs[i]? with
   |none=>rw[e]at h2;cases h2
   |some a=>rw[e]at h2;cases h2;rfl
  obtain⟨u,hu,rv⟩:=r.get ha;have hp:ps[i]?=some y:=by
   rw[<-S.pre,List.getElem?_take_of_lt VX];exact h1
  have ndP:ps.Nodup:=by rw[<-S.pre];exact S.nd.sublist (List.take_sublist _ _)
  refine⟨u,rv,?_⟩;rcases S.par y (bE hp)with k|k
  ·exact .inl ⟨k,D2 ndP hp hu k⟩
  ·obtain⟨c,e⟩:=Gh (n:=s.heap.objs.size+1) k;refine .inr ⟨.inl k,c,e,?_⟩;have q:=x.cell y c e;rw[D3 ndP hp hu (by show scope.names.lookup y≠_;rw[k];decide)]at q;exact q
 ·exact e0.dI.fresh (ll (x.above y c (cg h)))
 ·unfold start;show _=N.length;rw[aE,ay,jN];lia
theorem S8{CX:HL}{P:Program}{w:World}{K:PySem.W.Frag}{mg:Str->Option Value}{base:Heap}{k:Nat}{f:Addr}{name qual:Str}{params:Arguments}{body:List Stmt}{scope:Scope}{dV kV doc pm cdv ct oc:Value}{an od:Option Addr}
 {osl:Array (Option Value)} {N ps:List Str} {sp:Sp} (lk:K.lookup f=some ⟨oc,od,.func (PySem.W.fnOf name qual params body scope dV kV doc pm an cdv ct),osl⟩) (hcd:PySem.W.codeIn K cdv qual=true) (S:aU N ps scope)
 (len:∀vs H Q E,sp vs H Q E->vs.length=ps.length)
 (hbody:∀(A:Around)(outer:List Env)(s:Shared)(H:Hp)(vs:List V)(Q:VK)(E:XK),fK k (A.deeper (envOfC qual scope s.heap.objs.size f cdv))->sp vs H Q E->
  ∃t,Gd (tY CX P w K mg base N qual scope f cdv A outer s H E) body t/\t {nx:=λ_ H'=>Q .gb H',rt:=Q} (start N vs) H):
 lq P w K mg base CX (k+1) f (PySem.W.fnOf name qual params body scope dV kV doc pm an cdv ct) ps sp:=by
 refine⟨len,λA outer s H args us vs Q E hr e0 hb r hsp=>?_⟩;have hl:=len _ _ _ _ hsp;have KX:K.In s.heap:=e0.mod.Qx.keeps λb o e=>(e0.bs b o e).1;have lim:s.heap.NoLimit:=e0.mod.nolimit.keeps λb o e=>(e0.bs b o e).1;have hkind:∀y∈ps.zip us,scope.names.lookup y.1=some .local\/(scope.names.lookup y.1=some .cell/\((cellsFrom (s.heap.objs.size+1) scope.names []).lookup y.1).isSome=true):=λ⟨n,v⟩ hy=>by
  rcases S.par n (Dg hy).1 with q|q
  ·exact .inl q
  ·exact .inr ⟨q,C8 _ _ _ (.inl q)⟩
 refine codeAny_call_function hr.depth (KX _ _ lk) rfl S.co S.gen rfl (PySem.W.codeRec_of KX hcd) (hb _ _ _ _ ?_);refine wpAny_newFunctionEnv_cells S.kind hkind λenv he s1 x=>?_;subst he;refine⟨lim.keeps x.toInCall.keep,codeAny_func ?_⟩;obtain⟨t,ht,hq⟩:=hbody A outer s H vs Q E (hr.deeper _) hsp;have I:Inv (tY CX P w K mg base N qual scope f cdv A outer s H E) [] (start N vs) H s1:=D4 S hr.hd e0 hl r x;refine dN (ht [] s1 (start N vs) H _ I hq) (λfl s' hs=>?_) λe s' hs=>hs;have fin:∀{σ':St}{H':Hp}{v:V}{u:Value},Inv (tY CX P w K mg base N qual scope f cdv A outer s H E) [] σ' H' s'->RelV v u->Q v H'->CE outer P w H s Q u s':=
  λ{σ' H' v u} J rv q=>⟨v,H',J.os,J.bare,J.base,J.dI,rv,q⟩
 cases fl with
 |ret u=>
  obtain⟨v,σ',H',J,rv,q⟩:=hs;exact fin J rv q
 |next=>
  obtain⟨σ',H',J,q⟩:=hs;exact fin (v:=V.gb) (u:=Value.none) J rfl q
 |brk=>
  obtain⟨_,_,_,q⟩:=hs;exact False.elim q
 |cont=>
  obtain⟨_,_,_,q⟩:=hs;exact False.elim q
section
variable{X:Cx}{x:Str}{p pos:Pos}{e:Expr}{es:List Expr}{t:TA}{id T:String}{r:List V->Hp->VK->Prop}
def Vn(r:List V->Hp->VK->Prop)(t:TA):TE:=λσ H Q=>t σ H λvs H1=>r vs H1 Q
theorem b6(hc:pU X (.builtin id) r)(hg:Gl X x)(hm:X.mg x=none)(hv:bootBuiltins x=some (.builtin id))(ha:PA X (e::es) t)(hn:x≠"__name__":=by decide)(hdb:(x==("__debug__":Str))=false:=by decide)
 (he:starEach (e::es) X.env=(false,eval e X.env)::starEach es X.env:=by rfl) (hpl:(backTo pos (starEach es X.env)).any (·.1)=false:=by rfl):PE X (.Call (.Name x p) (e::es) [] pos) (Vn r t):=by
 intro pins s σ H Q I h;refine gS (HZ I hg hm hv ?_ hn hdb);exact PyProof.Rows.callWith_builtin1 (eu (ha pos pins s σ H _ I h) λus s1 ⟨vs,H1,I1,r1,q1⟩=>hc pins s1 σ H1 vs us Q I1 r1 q1) he hpl
theorem j1(hc:pU X (.type T) r)(hg:Gl X x)(hm:X.mg x=none)(hv:bootBuiltins x=some (.type T))(ha:PA X (e::es) t)(hn:x≠"__name__":=by decide)(hdb:(x==("__debug__":Str))=false:=by decide)
 (he:starEach (e::es) X.env=(false,eval e X.env)::starEach es X.env:=by rfl) (hpl:(backTo pos (starEach es X.env)).any (·.1)=false:=by rfl):PE X (.Call (.Name x p) (e::es) [] pos) (Vn r t):=by
 intro pins s σ H Q I h;refine gS (HZ I hg hm hv ?_ hn hdb);exact Q5 (eu (ha pos pins s σ H _ I h) λus s1 ⟨vs,H1,I1,r1,q1⟩=>hc pins s1 σ H1 vs us Q I1 r1 q1) he hpl
end
end L2
namespace HT
open PySem PyProof.Rows
section
variable{prog:Program}{w:World}{A:Around}{E:Value->Shared->Prop}{s:Shared}
noncomputable def HM(n d:Nat):Option Int->Nat
 |none=>d
 |some v=>if v<0 then(v+(n:Int)).toNat else min v.toNat n
theorem Bj(n d k:Nat):HM n d (some (k:Int))=min k n:=by
 show(if(k:Int)<0 then((k:Int)+(n:Int)).toNat else min (k:Int).toNat n)=min k n;rw[ah VX,bc]
end
end HT
namespace L2
open PySem PySem.Spec PyProof.Rows
abbrev TO:=St->Hp->(Option Int->Hp->Prop)->Prop
def PO(X:Cx)(e:Option Expr)(t:TO):Prop:=
 ∀(pins:List (Addr×Obj))(s:Shared)(σ:St)(H:Hp)(Q:Option Int->Hp->Prop),Inv X pins σ H s->t σ H Q->
  wpAny (model X.prog X.w) X.A (evalPart e X.env) (λu s'=>∃o H',Inv X pins σ H' s'/\IsPart u o/\Q o H') X.xe s
def S9(t:TE):TO:=λσ H Q=>t σ H λx H1=>∃i,x= .int i/\Q (some i) H1
section
variable{X:Cx}{e:Expr}{te:TE}{lo hi:Option Expr}{tl th:TO}{pos p2:Pos}
theorem vq(h:PE X e te):PO X (some e) (S9 te):=by
 intro pins s σ H Q I hw;rw[evalPart_some];refine eu (h pins s σ H _ I hw) λu s1=>W6 λx H1=>W8 λI1 r1=>Xa λi=>W9 λe0_ q=>?_;subst e0_;obtain⟨t,rfl⟩:=r1;exact⟨some i,H1,I1,.int i t,q⟩
def Vo(X:Cx)(r:V->Option Int->Option Int->Hp->VK->Prop):Prop:=
 ∀(pins:List (Addr×Obj))(s:Shared)(σ:St)(H:Hp)(x:V)(v vl vu:Value)(lo hi:Option Int)(sl:Addr)(Q:VK),Inv X pins σ H s->RelV x v->s.heap.IsSliceOf sl vl vu .none->IsPart vl lo->IsPart vu hi->r x lo hi H Q->
  ∃T id,typeLookup (.type T) "__getitem__"=pure (some (.builtin id))/\s.TypeIs v T/\wpAny (model X.prog X.w) X.A (getItem v (.ref sl)) (EP X pins σ Q) X.xe s
def VG(r:V->Option Int->Option Int->Hp->VK->Prop)(te:TE)(tl th:TO):TE:=λσ H Q=>te σ H λx H1=>tl σ H1 λl H2=>th σ H2 λu H3=>r x l u H3 Q
theorem BI{r:V->Option Int->Option Int->Hp->VK->Prop}(hr:Vo X r)(he:PE X e te)(hl:PO X lo tl)(hu:PO X hi th):PE X (.Subscript e (.Slice lo hi none p2) pos) (VG r te tl th):=by
 intro pins s σ H Q I h;refine Subscript_ (eu (he pins s σ H _ I h) λv s1 h_0=>?_);revert h_0;refine W6 λx H1=>W8 λI1 r1 q1=>?_;refine wpAny_Slice (eu (hl pins s1 σ H1 _ I1 q1) λvl s2 ⟨l,H2,I2,pl,q2⟩=>eu (hu pins s2 σ H2 _ I2 q2) λvu s3=>W6 λu H3=>W8 λI3 pu q3=>?_);rw[evalPart_none];refine aA ?_;have I4:Inv X pins σ H3 {s3 with heap:=s3.heap.push {cls:= .type "slice",data:= .fields #[vl,vu,.none]}}:=I3.kept (t':=s3.toks) λb ob q=>aG _ q;refine W6 (λT id=>W8 λhT ht hg=>?_) (hr pins {s3 with heap:=s3.heap.push {cls:= .type "slice",data:= .fields #[vl,vu,.none]}} σ H3 x v vl vu l u s3.heap.objs.size Q I4 r1 (Heap.IsSliceOf.new ..) pl pu q3);show wpAny (model X.prog X.w) X.A (subscriptTail e (.Slice lo hi none p2) v (.ref s3.heap.objs.size)) (EP X pins σ Q) X.xe {s3 with heap:=s3.heap.push {cls:= .type "slice",data:= .fields #[vl,vu,.none]}};exact tail_any (ops:=[.ref s3.heap.objs.size,v]) ht hT hg (by with_unfolding_all rfl)
noncomputable def BJ(xs:List V)(lo hi:Option Int):List V:=(xs.drop (HT.HM xs.length 0 lo)).take (HT.HM xs.length xs.length hi-HT.HM xs.length 0 lo)
theorem Gi(xs:List V)(lo hi:Option Int):(BJ xs lo hi).length<=xs.length:=by
 unfold BJ;rw[cz,bU];lia
end
noncomputable def O0(n:Nat)(i:Int):Option Nat:=if 0<=i then(if i<n then some i.toNat else none)else if-(n:Int)<=i then some (i+n).toNat else none
noncomputable def Dr{α:Type}(xs:List α)(i:Int):Option α:=(O0 xs.length i).bind λj=>xs[j]?
theorem JT{n:Nat}{i:Int}{j:Nat}(h:O0 n i=some j):seqIndex? i n=some j/\j<n/\-(n:Int)<=i/\i<n:=by
 unfold O0 at h;by_cases h0:0<=i
 ·rw[ao h0]at h;by_cases h1:i<n
  ·rw[ao h1]at h;have e:i.toNat=j:=bX h;exact⟨by rw[seqIndex_of h0 h1,e],VX,VX,h1⟩
  ·rw[ah h1]at h;cases h
 ·rw[ah h0]at h;by_cases h1: -(n:Int)<=i
  ·rw[ao h1]at h;have e:(i+n).toNat=j:=bX h;exact⟨by rw[seqIndex_neg VX h1,e],VX,h1,VX⟩
  ·rw[ah h1]at h;cases h
theorem E0{α:Type}{xs:List α}{i:Int}{v:α}(h:Dr xs i=some v):∃j,seqIndex? i xs.length=some j/\xs[j]?=some v/\j<xs.length/\-(xs.length:Int)<=i/\i<xs.length:=by
 unfold Dr at h;cases e:O0 xs.length i with
 |none=>rw[e]at h;cases h
 |some j=>
  rw[e]at h;obtain⟨h1,h2,h3,h4⟩:=JT e;exact⟨j,h1,h,h2,h3,h4⟩
theorem cx{α:Type}{xs:List α}{j:Nat}{v:α}(h:xs[j]?=some v):Dr xs (j:Int)=some v:=by
 have hj:j<xs.length:=(List.getElem?_eq_some_iff.mp h).1;have e:O0 xs.length (j:Int)=some j:=by
  unfold O0;rw[ao VX,ao VX];simp
 unfold Dr;rw[e];exact h
def O1(b:Expr):Prop:=∀o i,subscripted b false o i=operate [o,i] (getItem o i)
def SK(X:Cx)(r:R2):Prop:=
 ∀(value slice:Expr)(pins:List (Addr×Obj))(s:Shared)(σ:St)(H:Hp)(x y:V)(v u:Value)(Q:VK),Inv X pins σ H s->RelV x v->RelV y u->r x y H Q->
  subscripted slice false v u=operate [v,u] (getItem v u)->wpAny (model X.prog X.w) X.A (subscriptTail value slice v u) (EP X pins σ Q) X.xe s
def Rz(X:Cx)(id:String)(r:V->List V->Hp->VK->Prop):Prop:=
 ∀(pins:List (Addr×Obj))(s:Shared)(σ:St)(H:Hp)(x:V)(xs:List V)(v:Value)(us:List Value)(Q:VK),Inv X pins σ H s->RelV x v->cE xs us->r x xs H Q->
  wpAny (model X.prog X.w) X.A (call (.builtin id) (v::us)) (EP X pins σ Q) X.xe s
section
variable{X:Cx}{a b:Expr}{ta tb:TE}{pos:Pos}
theorem bp{r:R2}(hr:SK X r)(ha:PE X a ta)(hb:PE X b tb)(hs:O1 b):PE X (.Subscript a b pos) (Ur r ta tb):=by
 intro pins s σ H Q I h;exact Subscript_ (Ro ha hb I h λv u s2 x y H2 I2 rx ry q=>hr a b pins s2 σ H2 x y v u Q I2 rx ry q (hs _ _))
def Ta(K:PySem.W.Frag):R2:=λx y H Q=>∃p xs i v,x= .ref p/\y= .int i/\cN K H p xs/\Dr xs i=some v/\Q v H
def Tb(K:PySem.W.Frag):R2:=λx y H Q=>∃p xs i v,x= .ref p/\y= .int i/\iK K H p xs/\Dr xs i=some v/\Q v H
def UX:R2:=λx y H Q=>∃z i c,x= .str z/\y= .int i/\z.length<=sizeLine/\Dr z.cps.toList i=some c/\Q (.str ⟨#[c]⟩) H
theorem a0:SK X (Ta X.K):=by
 intro value slice pins s σ H x y v u Q I rx ry h hs;obtain⟨p,xs,i,z,rfl,rfl,hq,he,q⟩:=h;cases rx;obtain⟨t,rfl⟩:=ry;obtain⟨its,r,pl,hz⟩:=I.list hq;obtain⟨j,h1,h2,h3,h4,h5⟩:=E0 he;obtain⟨w,ew,rw'⟩:=r.get h2;have hl:=r.length;have hn:=BE;have fin:EP X pins σ Q w s:=⟨z,H,I,rw',q⟩;by_cases h0:0<=i
 ·have hj:i.toNat=j:=by
   rw[seqIndex_of h0 h5]at h1;exact bX h1
  exact item_listR pl.isList h0 VX (by rw[hj];simpa using ew) fin hs
 ·have hj:(i+(its.toArray.size:Int)).toNat=j:=by
   rw[seqIndex_neg VX h4]at h1;rw[bz,<-hl];exact bX h1
  exact subscriptTail_builtinR (x:=w) pl.isList.typeIs slot_list_getitem.lookup
   (wpAny_getItem_list_neg (Q:=λr s'=>r=w/\EP X pins σ Q r s') pl.isList VX (by rw[bz]<;>lia) VX (by rw[hj];simpa using ew) ⟨rfl,fin⟩) hs
theorem dJ:SK X (Tb X.K):=by
 intro value slice pins s σ H x y v u Q I rx ry h hs;obtain⟨p,xs,i,z,rfl,rfl,hq,he,q⟩:=h;cases rx;obtain⟨t,rfl⟩:=ry;obtain⟨its,r,pl,hz⟩:=I.tuple hq;obtain⟨j,h1,h2,h3,h4,h5⟩:=E0 he;obtain⟨w,ew,rw'⟩:=r.get h2;have hl:=r.length;have hn:=BE;have fin:EP X pins σ Q w s:=⟨z,H,I,rw',q⟩;exact subscriptTail_builtinR (x:=w) pl.typeIs slot_tuple_getitem.lookup
  (getItem_tuple (j:=j) (Q:=λr s'=>r=w/\EP X pins σ Q r s') pl VX VX (by rw[bz,<-hl];exact h1) (by simpa using ew) ⟨rfl,fin⟩) hs
theorem MA:SK X UX:=by
 intro value slice pins s σ H x y v u Q I rx ry h hs;obtain⟨z,i,c,rfl,rfl,hz,he,q⟩:=h;obtain⟨t,rfl⟩:=rx;obtain⟨t',rfl⟩:=ry;obtain⟨j,h1,h2,h3,h4,h5⟩:=E0 he;have hl:z.cps.toList.length=z.length:=by simp[Str.length]
 rw[hl]at h1 h4 h5;have hn:=BE;exact tail_any (typeIs_str s z t) slot_str_getitem.lookup (getItem_str (c:=c) (by
  have e1:decide (i< -(2^63:Int))=false:=aQ VX;have e2:decide (i≥2^63)=false:=aQ VX;rw[e1,e2,Ah]) (by rw[h1];simpa using h2) ⟨.str ⟨#[c]⟩,H,I.tok _,⟨_,rfl⟩,q⟩) hs
theorem Im(its:List Value)(n j:Nat)(u:Value):Obj.mapSeq (·.setIfInBounds j u) {cls:= .type "list",data:= .seq its.toArray n}={cls:= .type "list",data:= .seq (its.set j u).toArray n}:=by
 simp[Obj.mapSeq]
theorem Inv.lst{pins:List (Addr×Obj)}{σ:St}{H:Hp}{s:Shared}{p:Addr}{xs:List V}(I:Inv X pins σ H s)(h:H p=some (.lst xs)):
 ∃(its:List Value)(n:Nat),cE xs its/\s.heap.get? p=some {cls:= .type "list",data:= .seq its.toArray n}/\xs.length<=sizeLine:=by
 obtain⟨z,its,n,r,e⟩:=I.dI p _ h;exact⟨its,n,r,e,z⟩
theorem Inv.RA{pins:List (Addr×Obj)}{σ:St}{H:Hp}{s:Shared}{p:Addr}{xs ys:List V}{its its':List Value}{n n':Nat}{f:Obj->Obj}(I:Inv X pins σ H s)(h:H p=some (.lst xs))
 (ho:s.heap.get? p=some {cls:= .type "list",data:= .seq its.toArray n}) (hf:f {cls:= .type "list",data:= .seq its.toArray n}={cls:= .type "list",data:= .seq its'.toArray n'}) (r:cE ys its') (hz:ys.length<=sizeLine) (t:Nat):
 Inv X pins σ (upd H p (.lst ys)) {s with heap:=s.heap.update p f,toks:=t}:=by
 have e:(s.heap.update p f).get? p=some {cls:= .type "list",data:= .seq its'.toArray n'}:=by
  rw[cW f ho (by rw[hf]<;>rfl),hf]
 refine I.write (x:=p) (e:=p) (by rw[h];trivial) (.inl rfl) (λb u hb q=>(bC _ _ (bh hb)).trans q) ⟨_,e⟩ ?_;exact⟨hz,its',n',r,e⟩
def Tc:V->V->V->Hp->(Hp->Prop)->Prop:=λo i v H Q=>∃p xs k j,o= .ref p/\i= .int k/\H p=some (.lst xs)/\O0 xs.length k=some j/\Q (upd H p (.lst (xs.set j v)))
theorem set_list:SX X Tc:=by
 intro pins s σ H o i v ov iv u Q I ro ri rv h;obtain⟨p,xs,k,j,rfl,rfl,hp,hj,q⟩:=h;cases ro;obtain⟨t,rfl⟩:=ri;obtain⟨its,n,r,ho,hz⟩:=I.lst hp;obtain⟨h1,h2,h3,h4⟩:=JT hj;have hl:=r.length;have hn:=BE;have I':Inv X pins σ (upd H p (.lst (xs.set j v))) {s with heap:=s.heap.update p (Obj.mapSeq (·.setIfInBounds j u))}:=
  I.RA hp ho (Im its n j u) (r.set rv j) (by rw[ck];exact hz) s.toks
 by_cases h0:0<=k
 ·have hk:k.toNat=j:=by
   rw[seqIndex_of h0 h4]at h1;exact bX h1
  exact PySem.W.ki_setAt ho h0 VX (by rw[bz,<-hl];exact h4) (by rw[hk];exact⟨_,I',q⟩)
 ·have hk:(k+(its.toArray.size:Int)).toNat=j:=by
   rw[seqIndex_neg VX h3]at h1;rw[bz,<-hl];exact bX h1
  exact PySem.W.ki_setBack ho VX (by rw[bz,<-hl];exact h3) VX (by rw[hk];exact⟨_,I',q⟩)
theorem E2(lo hi:Option Int)(n:Nat):(sliceBounds lo hi none n).1=((HT.HM n 0 lo:Nat):Int)/\(sliceBounds lo hi none n).2.1=((HT.HM n n hi:Nat):Int)/\(sliceBounds lo hi none n).2.2=1:=by
 refine⟨?_,?_,rfl⟩
 ·cases lo with
  |none=>simp[sliceBounds,HT.HM]
  |some i=>
   simp only[sliceBounds,HT.HM,Option.getD_none,show(1:Int)>0 by decide,zd];by_cases h:i<0
   ·simp only[h,zd]<;>lia
   ·simp only[h,kx]<;>lia
 ·cases hi with
  |none=>simp[sliceBounds,HT.HM]
  |some i=>
   simp only[sliceBounds,HT.HM,Option.getD_none,show(1:Int)>0 by decide,zd];by_cases h:i<0
   ·simp only[h,zd]<;>lia
   ·simp only[h,kx]<;>lia
theorem Ds(its:List Value)(lo hi:Option Int):slicePick its.toArray lo hi none=((its.drop (HT.HM its.length 0 lo)).take (HT.HM its.length its.length hi-HT.HM its.length 0 lo)).toArray:=by
 obtain⟨h1,h2,h3⟩:=E2 lo hi its.toArray.size;unfold slicePick;rw[h1,h2,h3];simp only[sliceRange_one,pick_run,bz]<;>rfl
def UY(K:PySem.W.Frag):V->Option Int->Option Int->Hp->VK->Prop:=λx lo hi H Q=>∃a xs,x= .ref a/\cN K H a xs/\∀p,H p=none->Q (.ref p) (upd H p (.lst (BJ xs lo hi)))
theorem E3:Vo X (UY X.K):=by
 intro pins s σ H x v vl vu lo hi sl Q I rx hs pl pu h;obtain⟨a,xs,rfl,hx,q⟩:=h;cases rx;obtain⟨its,r,ht,hz⟩:=I.list hx;have hlen:=r.length;refine⟨"list",_,slot_list_getitem.lookup,ht.isList.typeIs,?_⟩;refine wpAny_getItem_list_slice ht.isList hs pl pu .none (by simp) ?_ (by rw[bz]<;>lia);rw[Ds,<-hlen];refine⟨.ref s.heap.objs.size,_,I.laid (t':=s.toks) (o:= .lst (BJ xs lo hi)) (λb ob q=>aG _ q) (aH _) ?_,rfl,q _ (I.dI.fresh (aH _))⟩;exact⟨be (Gi xs lo hi) hz,_,0,(r.drop (HT.HM xs.length 0 lo)).take (HT.HM xs.length xs.length hi-HT.HM xs.length 0 lo),aW _ rfl⟩
noncomputable def nZ:V->Bool
 | .gb=>true
 | .bl _=>true
 | .int _=>true
 | .str _=>true
 |_=>false
noncomputable def HN:V->V->Bool
 | .gb,.gb=>true
 | .bl a,.bl b=>a==b
 | .bl a,.int b=>(if a then 1 else 0)==b
 | .int a,.bl b=>a==(if b then 1 else 0)
 | .int a,.int b=>a==b
 | .str a,.str b=>a==b
 |_,_=>false
theorem RB{A:Around}{s:Shared}{y x:V}{u v:Value}(ry:RelV y u)(rx:RelV x v)(fy:nZ y=true)(fx:nZ x=true):SeqAt.EqAt A s u v (HN y x):=by
 cases y with
 |gb=>
  cases ry;cases x with
  |gb=>cases rx;exact SeqAt.EqAt.same _
  |bl b=>cases rx;exact SeqAt.EqAt.none_bool b
  |int b=>obtain⟨t,rfl⟩:=rx;exact SeqAt.EqAt.none_int b t
  |str b=>obtain⟨t,rfl⟩:=rx;exact SeqAt.EqAt.none_str b t
  |_=>exact absurd (show false=true from fx) aj
 |bl a=>
  cases ry;cases x with
  |gb=>cases rx;exact SeqAt.EqAt.bool_none a
  |bl b=>cases rx;exact SeqAt.EqAt.bool_bool a b
  |int b=>obtain⟨t,rfl⟩:=rx;exact SeqAt.EqAt.bool_int a b t
  |str b=>obtain⟨t,rfl⟩:=rx;exact SeqAt.EqAt.bool_str a b t
  |_=>exact absurd (show false=true from fx) aj
 |int a=>
  obtain⟨t',rfl⟩:=ry;cases x with
  |gb=>cases rx;exact SeqAt.EqAt.int_none a t'
  |bl b=>cases rx;exact SeqAt.EqAt.int_bool a t' b
  |int b=>obtain⟨t,rfl⟩:=rx;exact SeqAt.EqAt.int_int a t' b t
  |str b=>obtain⟨t,rfl⟩:=rx;exact SeqAt.EqAt.int_str a t' b t
  |_=>exact absurd (show false=true from fx) aj
 |str a=>
  obtain⟨t',rfl⟩:=ry;cases x with
  |gb=>cases rx;exact SeqAt.EqAt.str_none a t'
  |bl b=>cases rx;exact SeqAt.EqAt.str_bool a t' b
  |int b=>obtain⟨t,rfl⟩:=rx;exact SeqAt.EqAt.str_int a t' b t
  |str b=>obtain⟨t,rfl⟩:=rx;exact SeqAt.EqAt.str_str a t' b t
  |_=>exact absurd (show false=true from fx) aj
 |_=>exact absurd (show false=true from fy) aj
noncomputable def HP(x:V)(u:Value):Bool:=match u with
 | .none=>HN .gb x
 | .bool b=>HN (.bl b) x
 | .int i _=>HN (.int i) x
 | .str z _=>HN (.str z) x
 |_=>false
theorem E4{x y:V}{u:Value}(r:RelV y u)(f:nZ y=true):HP x u=HN y x:=by
 cases y with
 |gb=>cases r;rfl
 |bl b=>cases r;rfl
 |int i=>obtain⟨t,rfl⟩:=r;rfl
 |str z=>obtain⟨t,rfl⟩:=r;rfl
 |_=>exact absurd (show false=true from f) aj
theorem xQ{x:V}:∀{xs:List V}{us:List Value},cE xs us->xs.all nZ=true->us.any (HP x)=xs.any λy=>HN y x
 |_,_,.nil,_=>rfl
 |y::xs,u::us,.cons r t,f=>by
  rw[tw,bP]at f;rw[tz,tz,E4 r f.1,xQ t f.2]
theorem pV{A:Around}{s:Shared}{x:V}{v:Value}(rx:RelV x v)(fx:nZ x=true):∀{xs:List V}{us:List Value},cE xs us->xs.all nZ=true->∀u∈us,SeqAt.EqAt A s u v (HP x u)
 |_,_,.nil,_=>λu hu=>by cases hu
 |y::xs,u::us,.cons r t,f=>λu' hu=>by
  rw[tw,bP]at f;rcases List.mem_cons.mp hu with rfl|hu
  ·rw[E4 r f.1];exact RB r rx f.1 fx
  ·exact pV rx fx t f.2 u' hu
noncomputable def JU(x:V)(xs:List V):Bool:=xs.any λy=>HN y x
def UZ(K:PySem.W.Frag)(neg:Bool):R2:=λx y H Q=>∃p xs,y= .ref p/\(cN K H p xs\/iK K H p xs)/\nZ x=true/\xs.all nZ=true/\Q (.bl (if neg then !JU x xs else JU x xs)) H
theorem vr:qT X (compareOp .In) (UZ X.K false):=by
 intro pins s σ H x y v u Q I rx ry h;obtain⟨p,xs,rfl,hq,fx,fs,q⟩:=h;cases ry;rcases hq with hq|hq
 ·obtain⟨its,r,pl,hz⟩:=I.list hq;refine SeqAt.in_listAt (HP x) pl.isList (λw hw=>pV rx fx r fs w (by simpa using hw)) ⟨.bl _,H,I,rfl,?_⟩;rw[show its.toArray.any (HP x)=its.any (HP x) by simp,xQ r fs];exact q
 ·obtain⟨its,r,pl,hz⟩:=I.tuple hq;refine SeqAt.in_tupleAt (HP x) pl (λw hw=>pV rx fx r fs w (by simpa using hw)) ⟨.bl _,H,I,rfl,?_⟩;rw[show its.toArray.any (HP x)=its.any (HP x) by simp,xQ r fs];exact q
theorem ju:qT X (compareOp .NotIn) (UZ X.K true):=by
 intro pins s σ H x y v u Q I rx ry h;obtain⟨p,xs,rfl,hq,fx,fs,q⟩:=h;cases ry;rcases hq with hq|hq
 ·obtain⟨its,r,pl,hz⟩:=I.list hq;refine SeqAt.notIn_listAt (HP x) pl.isList (λw hw=>pV rx fx r fs w (by simpa using hw)) ⟨.bl _,H,I,rfl,?_⟩;rw[show its.toArray.any (HP x)=its.any (HP x) by simp,xQ r fs];exact q
 ·obtain⟨its,r,pl,hz⟩:=I.tuple hq;refine SeqAt.notIn_tupleAt (HP x) pl (λw hw=>pV rx fx r fs w (by simpa using hw)) ⟨.bl _,H,I,rfl,?_⟩;rw[show its.toArray.any (HP x)=its.any (HP x) by simp,xQ r fs];exact q
theorem xR:pU X (.type "list") (λxs H Q=>∃p ys,xs=[.ref p]/\(cN X.K H p ys\/iK X.K H p ys)/\∀l,H l=none->Q (.ref l) (upd H l (.lst ys))):=by
 intro pins s σ H xs us Q I r h;obtain⟨p,ys,rfl,hq,q⟩:=h;obtain⟨u,rfl,rx⟩:=vals1 r;cases rx;have fin:∀(its:List Value),cE ys its->ys.length<=sizeLine->∀(h':Heap)(c':Nat),(∀b o',s.heap.get? b=some o'->h'.get? b=some o')->
  h'.get? s.heap.objs.size=some {cls:= .type "list",dict:=none,data:= .seq its.toArray c',slots:= #[]}->EP X pins σ Q (.ref s.heap.objs.size) {s with heap:=h'}:=λits r' hz h' c' kp e=>
  ⟨.ref s.heap.objs.size,_,I.laid (t':=s.toks) kp (aH _) (show eI X.prog X.w _ h' _ (.lst ys)from⟨hz,its,c',r',e⟩),rfl,q _ (I.dI.fresh (aH _))⟩
 rcases hq with hq|hq
 ·obtain⟨its,r',pl,hz⟩:=I.list hq;have hlen:=r'.length;obtain⟨o,ho,hc,n,hd⟩:=pl.isList;exact call_list_seq p (.inl rfl) ho hc hd (λh' c' kp e=>fin its r' hz h' c' kp e) (by simp only[bz]<;>lia)
 ·obtain⟨its,r',pl,hz⟩:=I.tuple hq;have hlen:=r'.length;obtain⟨o,ho,hc,n,hd⟩:=pl;exact call_list_seq p (.inr rfl) ho hc hd (λh' c' kp e=>fin its r' hz h' c' kp e) (by simp only[bz]<;>lia)
def U0(K:PySem.W.Frag)(T:String)(x:V)(H:Hp):Prop:=match x with
 | .str _=>T="str"
 | .int _=>T="int"
 | .ref p=>(T="list"/\∃xs,cN K H p xs)\/(T="tuple"/\∃o,K.lookup p=some o/\o.cls= .type "tuple"/\o.dict=none)\/
  (T="dict"/\((∃kvs,H p=some (.dK kvs))\/∃kvs,H p=some (.dT kvs)))\/(T="set"/\∃S n,H p=some (.set S n))
 |_=>False
theorem MB{pins:List (Addr×Obj)}{σ:St}{H:Hp}{s:Shared}{T:String}{x:V}{v:Value}(I:Inv X pins σ H s)(r:RelV x v)(ty:U0 X.K T x H):
 s.TypeIs v T/\∀a,v= .ref a->∃ob,s.heap.get? a=some ob/\ob.dict=none:=by
 cases x with
 |str z=>
  obtain⟨t,rfl⟩:=r;cases(show T="str"from ty);exact⟨typeIs_str s z t,λ_ e=>nomatch e⟩
 |int i=>
  obtain⟨t,rfl⟩:=r;cases(show T="int"from ty);exact⟨typeIs_int s i t,λ_ e=>nomatch e⟩
 |ref p=>
  cases r;rcases ty with⟨rfl,xs,hq⟩|⟨rfl,o,hk,hc,hd⟩|⟨rfl,hk⟩|⟨rfl,S,n,hk⟩
  ·obtain⟨its,_,pl,_⟩:=I.list hq;refine⟨pl.isList.typeIs,λa e=>?_⟩;cases e;obtain⟨o,n,e,c,hd,_⟩:=pl;exact⟨o,e,hd⟩
  ·refine⟨⟨o,I.vL p o hk,hc⟩,λa e=>?_⟩;cases e;exact⟨o,I.vL _ o hk,hd⟩
  ·have z:∃o,s.heap.get? p=some o/\o.ExactDict:=by
    rcases hk with⟨kvs,hk⟩|⟨kvs,hk⟩
    ·obtain⟨_,_,_,_,o,_,_,e,ex,_⟩:=I.dI p _ hk;exact⟨o,e,ex⟩
    ·obtain⟨_,_,_,_,o,_,_,e,ex,_⟩:=I.dI p _ hk;exact⟨o,e,ex⟩
   obtain⟨o,e,ex⟩:=z;refine⟨⟨o,e,ex.1⟩,λa e2=>?_⟩;cases e2;exact⟨o,e,ex.2.1⟩
  ·obtain⟨o,_,_,_,e,ex,_⟩:=I.dI p _ hk;refine⟨⟨o,e,ex.1⟩,λa e2=>?_⟩;cases e2;exact⟨o,e,ex.2.1⟩
 |_=>exact False.elim ty
def U1(K:PySem.W.Frag)(T:String)(r:V->List V->Hp->VK->Prop)(to:TE):TE:=λσ H Q=>to σ H λx H1=>U0 K T x H1/\r x [] H1 Q
def VH(K:PySem.W.Frag)(T:String)(r:V->List V->Hp->VK->Prop)(to:TE)(t:TA):TE:=λσ H Q=>to σ H λx H1=>U0 K T x H1/\t σ H1 λxs H2=>r x xs H2 Q
variable{o e:Expr}{es:List Expr}{to:TE}{t:TA}{name:Str}{apos cpos:Pos}{T id:String}{r:V->List V->Hp->VK->Prop}
theorem RC(pa:PlainAttrs T)(slot:Slot T name id)(hty:typeOf (.builtin id)=pure (.type "method_descriptor"))(hm:Rz X id r)(ho:PE X o to)
 (hbase:attributeBase o name X.env (eval o X.env)=eval o X.env:=by rfl) (hline:(apos.endLine==cpos.line)=true:=by rfl):PE X (.Call (.Attribute o name apos) [] [] cpos) (U1 X.K T r to):=by
 intro pins s σ H Q I h;refine wpAny_Call_method0_late hbase hline (eu (ho pins s σ H _ I h) λv s1=>W6 λx H1=>Xd λI1 r1 ty q1=>?_);obtain⟨h1,h2⟩:=MB I1 r1 ty;exact⟨T,id,pa,slot,hty,h1,h2,HH rfl (PySem.evalArgs_none (hm pins s1 σ H1 x [] v [] Q I1 r1 .nil q1))⟩
theorem jj(pa:PlainAttrs T)(slot:Slot T name id)(hty:typeOf (.builtin id)=pure (.type "method_descriptor"))(hm:Rz X id r)(ho:PE X o to)(ha:PA X (e::es) t)
 (hbase:attributeBase o name X.env (eval o X.env)=eval o X.env:=by rfl)
 (hfew:((backTo cpos (starEach (e::es) X.env)).all (λx=>!x.1)&&(backToKw cpos (keywordEach [] X.env)).all (λx=>x.1.isSome)
  &&decide ((e::es).length+([]:List Keyword).length+(if([]:List Keyword).isEmpty then 0 else 1)<30))=true:=by rfl)
 (hline:(apos.endLine==cpos.line)=true:=by rfl) (hs:starEach (e::es) X.env=(false,eval e X.env)::starEach es X.env:=by rfl) (hplain:(backTo cpos (starEach es X.env)).any (·.1)=false:=by rfl):
 PE X (.Call (.Attribute o name apos) (e::es) [] cpos) (VH X.K T r to t):=by
 intro pins s σ H Q I h;refine wpAny_Call_method_late hbase hfew hline rfl (eu (ho pins s σ H _ I h) λv s1=>W6 λx H1=>Xd λI1 r1 ty q1=>?_);obtain⟨h1,h2⟩:=MB I1 r1 ty;refine⟨T,id,pa,slot,hty,h1,h2,?_⟩;have hA:=ha cpos pins s1 σ H1 _ I1 q1;rw[hs]at hA⊢;refine HH (by show(false||(backTo cpos (starEach es X.env)).any (·.1))=false;rw[hplain]<;>rfl) (Calls.evalArgs_plain ?_);exact eu hA λus s2 ⟨vs,H2,I2,r2,q2⟩=>hm pins s2 σ H2 x vs v us Q I2 r1 r2 q2
end
def Vp(X:Cx)(id:String)(r:V->List V->Hp->VK->Prop):Prop:=
 ∀(pins:List (Addr×Obj))(s:Shared)(σ:St)(H:Hp)(x:V)(xs:List V)(v:Value)(us:List Value)(Q:VK),Inv X pins σ H s->RelV x v->cE xs us->r x xs H Q->
  wpAny (model X.prog X.w) X.A (call (.builtin id) (v::us)) (EP X pins σ Q) X.xe s
theorem cE.one:∀{x:V}{us:List Value},cE [x] us->∃u,us=[u]/\RelV x u
 |_,_,.cons r .nil=>⟨_,rfl,r⟩
section
variable{X:Cx}{pins:List (Addr×Obj)}{σ:St}{H:Hp}{s:Shared}{l b:Addr}{xs ys zs:List V}
theorem Inv.Td{its its':List Value}{n:Nat}{f:Array Value->Array Value}{t':Nat}(I:Inv X pins σ H s)(hH:H l=some (.lst xs))
 (e:s.heap.get? l=some {cls:= .type "list",data:= .seq its.toArray n}) (hf:f its.toArray=its'.toArray) (hv:cE ys its') (hz:ys.length<=sizeLine):
 Inv X pins σ (upd H l (.lst ys)) {s with heap:=s.heap.update l (Obj.mapSeq f),toks:=t'}:=by
 have q:=PySem.IsL.update e f;rw[hf]at q;refine I.write (x:=l) (e:=l) (by rw[hH];exact trivial) (.inl rfl) (λb' u hb hu=>(bC s.heap (Obj.mapSeq f) (bh hb)).trans hu) ⟨_,q⟩ ?_;exact⟨hz,its',_,hv,q⟩
theorem Inv.U2{its:List Value}{t':Nat}(I:Inv X pins σ H s)(hv:cE ys its)(hz:ys.length<=sizeLine):
 Inv X pins σ (upd H s.heap.objs.size (.lst ys)) {s with heap:=s.heap.push {cls:= .type "list",data:= .seq its.toArray},toks:=t'}:=
 I.laid (λ_ _ q=>aG _ q) (aH _) ⟨hz,its,0,hv,aW _ rfl⟩
theorem Inv.fresh(I:Inv X pins σ H s):H s.heap.objs.size=none:=I.dI.fresh (aH _)
theorem Inv.MC(I:Inv X pins σ H s)(hH:H l=some (.lst xs)):xs.length<=sizeLine/\∃(its:List Value)(n:Nat),cE xs its/\xs.length=its.length/\s.heap.get? l=some {cls:= .type "list",data:= .seq its.toArray n}:=by
 obtain⟨z,its,n,r,e⟩:=I.dI l _ hH;exact⟨z,its,n,r,r.length,e⟩
theorem MD{n:Nat}(h:n<=sizeLine):Builtin.List.listTooLong n=false:=by
 unfold Builtin.List.listTooLong;exact aQ VX
end
section
variable{X:Cx}
def O2:V->List V->Hp->VK->Prop:=λx vs H Q=>∃l xs y,x= .ref l/\vs=[y]/\H l=some (.lst xs)/\xs.length<sizeLine/\Q .gb (upd H l (.lst (xs++[y])))
theorem dY:Vp X "list.append" O2:=by
 intro pins s σ H x vs v us Q I rx rv h;obtain⟨l,xs,y,rfl,rfl,hH,hz,q⟩:=h;cases rx;obtain⟨u,rfl,ru⟩:=rv.one;obtain⟨z,its,n,r,hl,e⟩:=I.MC hH;refine call_meets F.slot_list_append ⟨_,e,rfl⟩ F.entry_list_append (F.args_list_append_2 _ _) (PySem.list_append l its.toArray n u (by rw[bz];lia)) ⟨e,?_⟩;refine⟨.gb,_,I.Td (its':=its++[u]) hH e (by simp) (r.append (.cons ru .nil)) ?_,rfl,q⟩;rw[aE,fc];lia
def O3:V->List V->Hp->VK->Prop:=λx vs H Q=>∃l b xs zs,x= .ref l/\vs=[.ref b]/\H l=some (.lst xs)/\H b=some (.lst zs)/\xs.length+zs.length<=sizeLine/\Q .gb (upd H l (.lst (xs++zs)))
theorem D5:Vp X "list.extend" O3:=by
 intro pins s σ H x vs v us Q I rx rv h;obtain⟨l,b,xs,zs,rfl,rfl,hH,hB,hz,q⟩:=h;cases rx;obtain⟨u,rfl,ru⟩:=rv.one;cases ru;obtain⟨z,its,n,r,hl,e⟩:=I.MC hH;obtain⟨z2,its2,n2,r2,hl2,e2⟩:=I.MC hB;have hsz:its.toArray.size+its2.toArray.size<=sizeLine:=by rw[bz,bz];lia
 have hlong:¬(!its.toArray.isEmpty&&Builtin.List.listTooLong (its.toArray.size+its2.toArray.size))=true:=by
  rw[MD hsz,kz];exact aj
 refine call_meets F.slot_list_extend ⟨_,e,rfl⟩ F.entry_list_extend (F.args_list_extend_2 _ _)
  (AutoSeq1.list_extend_list_list_0 l its.toArray n b its2.toArray n2 hlong (by rw[bz];lia) VX) ⟨e,e2,?_⟩
 refine⟨.gb,_,I.Td (its':=its++its2) hH e (by simp) (r.append r2) ?_,rfl,q⟩;rw[aE];lia
def U3:R2:=λx y H Q=>∃l b xs zs,x= .ref l/\y= .ref b/\H l=some (.lst xs)/\H b=some (.lst zs)/\xs.length+zs.length<=sizeLine/\∀p,H p=none->Q (.ref p) (upd H p (.lst (xs++zs)))
theorem Io:qT X (binaryOp .Add) U3:=by
 intro pins s σ H x y v u Q I rx ry h;obtain⟨l,b,xs,zs,rfl,rfl,hH,hB,hz,q⟩:=h;cases rx;cases ry;obtain⟨z,its,n,r,hl,e⟩:=I.MC hH;obtain⟨z2,its2,n2,r2,hl2,e2⟩:=I.MC hB;refine PySem.P.add_list e e2 ?_ (by rw[bz,bz];lia);have ea:its.toArray++its2.toArray=(its++its2).toArray:=by simp
 rw[ea];exact⟨.ref _,_,I.U2 (t':=s.toks) (r.append r2) (by rw[aE];lia),rfl,q _ I.fresh⟩
end
theorem cE.ints:∀{ns:List Int}{us:List Value},cE (ns.map V.int) us->IntsAre us ns
 |[],us,h=>by
  rw[C9]at h;cases h;exact IntsAre.nil
 |n::ns,us,h=>by
  rw[bW]at h;cases h with
  |cons r t=>
   obtain⟨k,rfl⟩:=r;exact IntsAre.cons n k (cE.ints t)
theorem qW:∀{us:List Value}{ns:List Int},IntsAre us ns->cE (ns.map V.int) us
 |_,_,.nil=>by rw[C9];exact Paired.nil
 |_,_,.cons n t h=>by rw[bW];exact Paired.cons (show RelV (V.int n) (Value.int n t)from⟨t,rfl⟩) (qW h)
theorem cE.Vq:∀{bs:List Bool}{us:List Value},cE (bs.map V.bl) us->us=bs.map Value.bool
 |[],us,h=>by
  rw[C9]at h;cases h;rfl
 |b::bs,us,h=>by
  rw[bW]at h;cases h with
  |cons r t=>
   cases r;rw[cE.Vq t,bW]
theorem cE.ME{a:Addr}{us:List Value}(r:cE [V.ref a] us):us=[Value.ref a]:=by
 cases r with
 |cons r t=>
  cases t;cases r;rfl
section
variable{prog:Program}{w:World}{A:Around}{E:Value->Shared->Prop}{s:Shared}{l:Addr}{its:List Value}{ns:List Int}{Q:Value->Shared->Prop}
theorem O4(hh:A.handled=none)(hl:s.heap.IsList l its.toArray)(hi:IntsAre its ns)(hne:0<ns.length)
 (h:∀h' tk M t',(∀b o,s.heap.get? b=some o->h'.get? b=some o)->M∈ns->(∀a,a∈ns->a<=M)->Q (.int M t') {s with heap:=h',toks:=tk}):wpAny (model prog w) A (call (.builtin "max") [.ref l]) Q E s:=by
 obtain⟨xs,e⟩:=hi.allInts.items;have hn:numsOf (intItems xs).toList=ns:=by rw[<-e];exact hi.numsOf
 rw[nums_intItems]at hn;subst hn;rw[e]at hl;have hsz:0<xs.size:=by simpa using hne
 refine PySem.max_intList hh hl hsz λv h' tk hv hk=>?_;obtain⟨t,rfl⟩:=intItems_at hv;obtain⟨h1,h2⟩:=argBest_gt (numAt xs) (xs.size-1);refine h h' tk _ t hk ?_ λa ha=>?_
 ·rw[numAt_eq];exact PySem.getD_mem (by rw[ay,bY];lia)
 ·obtain⟨j,hj,rfl⟩:=mem_getD ha;rw[ay,bY]at hj;rw[<-numAt_eq];exact h2 j VX
end
section
variable{X:Cx}
def U4(K:PySem.W.Frag):List V->Hp->VK->Prop:=λvs H Q=>∃(a:Addr)(ns:List Int),vs=[V.ref a]/\cN K H a (ns.map V.int)/\0<ns.length/\∀m,m∈ns->(∀y,y∈ns->y<=m)->Q (.int m) H
theorem RD(hc:X.calm=true):pU X (.builtin "max") (U4 X.K):=by
 intro pins s σ H vs us Q I r h;obtain⟨a,ns,rfl,hs,hne,q⟩:=h;obtain⟨its,rv,hl,_⟩:=I.list hs;rw[cE.ME r];exact O4 (I.ok.hd hc) hl.isList rv.ints hne λh' tk m t' hk h1 h2=>⟨.int _,H,I.kept hk,⟨_,rfl⟩,q m h1 h2⟩
def RE(K:PySem.W.Frag):V->List V->Hp->VK->Prop:=λx xs H Q=>∃(a:Addr)(ys:List V)(y:V)(j:Nat)(z:V),x=V.ref a/\xs=[y]/\cN K H a ys/\nZ y=true/\ys.all nZ=true/\ys[j]?=some z/\HN z y=true/\
 (∀(m:Nat)(z':V),m<j->ys[m]?=some z'->HN z' y=false)/\Q (.int (j:Nat)) H
theorem JV{ys:List V}(f:ys.all nZ=true){j:Nat}{z:V}(h:ys[j]?=some z):nZ z=true:=List.all_eq_true.mp f z (bE h)
theorem Gj:Rz X "list.index" (RE X.K):=by
 intro pins s σ H x xs v us Q I rx rxs h;obtain⟨a,ys,y,j,z,rfl,rfl,hs,fy,fys,hz,hzj,hno,q⟩:=h;cases rx;cases rxs with
 |cons ry rt=>
  rename_i uy ut;cases rt;obtain⟨its,rv,⟨⟨cls,dd,data,sl⟩,n,ho,hc,hdn,hd⟩,hlen⟩:=I.list hs;simp only at hc hd;subst hc hd;obtain⟨u,hu,ru⟩:=rv.get hz;obtain⟨hjl,hje⟩:=List.getElem?_eq_some_iff.mp hu;have hvl:=rv.length;have hj:j<its.toArray.size:=by simpa using hjl
  have hsl:=aM;refine call_meets Bc ⟨_,ho,rfl⟩ PySem.F.entry_list_index (PySem.F.args_list_index_2 _ _)
   (SeqAt.list_indexAt a its.toArray n dd sl uy (HP y) j hj VX ?_ ?_) ⟨ho,λu' hu'=>pV ry fy rv fys u' (by simpa using hu'),?_⟩
  ·have e1:its.toArray[j]=u:=by simpa using hje
   rw[e1,E4 ru (JV fys hz)];exact hzj
  ·intro m hm hmj;have hml:m<its.length:=by simpa using hm
   have hmy:m<ys.length:=VX;have hy':ys[m]?=some ys[m]:=af hmy;obtain⟨u2,hu2,ru2⟩:=rv.get hy';obtain⟨_,hme⟩:=List.getElem?_eq_some_iff.mp hu2;have e1:its.toArray[m]=u2:=by simpa using hme
   rw[e1,E4 ru2 (JV fys hy')];exact hno m _ hmj hy'
  ·exact⟨.int (j:Nat),H,I.tok _,⟨_,rfl⟩,q⟩
end
theorem MF{prog:Program}{w:World}{A:Around}{E:Value->Shared->Prop}{s:Shared}{l:Addr}{items:Array Value}{Q:Value->Shared->Prop}(hl:s.heap.IsList l items)
 (h:∀s₂:Shared,s₂={s with heap:=s.heap.push {cls:= .type "list_iterator",data:= .fields #[.ref l,.int 0 0]}}->
  (s₂.heap.IsListIter s.heap.objs.size l 0/\s₂.heap.IsList l items)->l≠s.heap.objs.size->Q (.ref s.heap.objs.size) s₂):wpAny (model prog w) A (pyIter (.ref l)) Q E s:=by
 have hlt:l<s.heap.objs.size:=by obtain⟨_,e,_⟩:=hl;exact aY e
 exact wpAny_pyIter_list hl (h _ rfl ⟨⟨_,aW _ rfl,rfl,rfl⟩,hl.push _⟩ (bZ hlt))
theorem Gk{prog:Program}{w:World}{A:Around}{bs:List Bool}{its:List Value}(e:its=bs.map Value.bool):
 TruthOf prog w A (λi v=>its.toArray[i]?=some v) (λi=>bs.getD i false):=λi v s Q E hv hq=>by
 have hv':its[i]?=some v:=by simpa using hv
 rw[e,aR]at hv';obtain⟨b,hb,rfl⟩:=Option.map_eq_some_iff.mp hv';have hg:bs.getD i false=b:=by rw[xG,hb]<;>rfl
 have hq':Q (bs.getD i false) s:=hq;rw[hg]at hq';exact fb hq'
theorem all_range:∀bs:List Bool,(List.range bs.length).all (λi=>bs.getD i false)=bs.all id
 |[]=>rfl
 |b::bs=>by
  rw[aT,List.range_succ_eq_map,tw,LQ,tw,<-all_range bs]
  all_goals rfl
section
variable{X:Cx}
def U5(K:PySem.W.Frag):List V->Hp->VK->Prop:=λvs H Q=>∃(a:Addr)(bs:List Bool),vs=[V.ref a]/\cN K H a (bs.map V.bl)/\Q (.bl (bs.all id)) H
theorem RF(hc:X.calm=true):pU X (.builtin "all") (U5 X.K):=by
 intro pins s σ H vs us Q I r h;obtain⟨a,bs,rfl,hs,q⟩:=h;obtain⟨its,rv,hl,_⟩:=I.list hs;rw[cE.ME r];have hb:=rv.Vq;refine call_all_walk (MF hl.isList λs₂ e2 st hne=>?_);subst e2;refine⟨_,_,_,_,_,_,_,rfl,Walks.list (A:=X.A.in1) (I.ok.hd hc) _ a hne its.toArray,st,Gk hb,λh' tk hk=>?_⟩;refine⟨.bl _,H,I.kept λb o eo=>hk b o (λhmem=>?_) (aG _ eo),?_,q⟩
 ·rcases List.mem_cons.mp hmem with e1|hmem
  ·exact absurd (e1▸aY eo) (cV _)
  ·cases hmem
 ·show Value.bool _=Value.bool _;rw[<-all_range,hb,bz,ay]
end
mutual
inductive Dp(K:PySem.W.Frag)(H:Hp):V->PyData->Prop
 |gb:Dp K H .gb .none
 |bl (b:Bool):Dp K H (.bl b) (.bool b)
 |int (i:Int):Dp K H (.int i) (.int i)
 |str (x:Str):Dp K H (.str x) (.str x)
 |lst {a:Addr} {xs:List V} {ds:List PyData}:cN K H a xs->BK K H xs ds->Dp K H (.ref a) (.list ds)
 |tup {a:Addr} {xs:List V} {ds:List PyData}:iK K H a xs->BK K H xs ds->Dp K H (.ref a) (.tuple ds)
inductive BK(K:PySem.W.Frag)(H:Hp):List V->List PyData->Prop
 |nil:BK K H [] []
 |cons {v:V} {vs:List V} {d:PyData} {ds:List PyData}:Dp K H v d->BK K H vs ds->BK K H (v::vs) (d::ds)
end
section
variable{X:Cx}{pins:List (Addr×Obj)}{σ:St}{H:Hp}{s:Shared}
mutual
theorem Dp.reads(I:Inv X pins σ H s):∀(d:PyData)(v:V)(u:Value),Dp X.K H v d->RelV v u->∃as,Reads s.heap u d as
 | .none,_,_,h,r=>by
   cases h;cases r;exact⟨_,Reads.none⟩
 | .bool b,_,_,h,r=>by
   cases h;cases r;exact⟨_,Reads.bool b⟩
 | .int i,_,_,h,r=>by
   cases h;obtain⟨t,rfl⟩:=r;exact⟨_,Reads.int i t⟩
 | .str x,_,_,h,r=>by
   cases h;obtain⟨t,rfl⟩:=r;exact⟨_,Reads.str x t⟩
 | .list ds,_,_,h,r=>by
   cases h with
   |lst hs ha=>
    cases r;obtain⟨its,rv,⟨o,n,ho,hc,_,hd⟩,_⟩:=I.list hs;obtain⟨as,hr⟩:=Dp.readsAll I ds _ its ha rv;exact⟨_,Reads.list ho hc hd hr⟩
 | .tuple ds,_,_,h,r=>by
   cases h with
   |tup hs ha=>
    cases r;obtain⟨its,rv,⟨o,ho,hc,n,hd⟩,_⟩:=I.tuple hs;obtain⟨as,hr⟩:=Dp.readsAll I ds _ its ha rv;exact⟨_,Reads.tuple ho hc hd hr⟩
 | .dict _,_,_,h,_=>by cases h
theorem Dp.readsAll(I:Inv X pins σ H s):∀(ds:List PyData)(vs:List V)(us:List Value),BK X.K H vs ds->cE vs us->∃as,ReadsAll s.heap us ds as
 |[],_,_,h,r=>by
  cases h;cases r;exact⟨_,ReadsAll.nil⟩
 |d::ds,_,_,h,r=>by
  cases h with
  |cons h1 h2=>
   cases r with
   |cons r1 r2=>
    obtain⟨as,q1⟩:=Dp.reads I d _ _ h1 r1;obtain⟨bs,q2⟩:=Dp.readsAll I ds _ _ h2 r2;exact⟨_,ReadsAll.cons q1 q2⟩
end
end
section
variable{X:Cx}
def U6(K:PySem.W.Frag):R2:=λx y H Q=>∃d e,Dp K H x d/\Dp K H y e/\SeqAt.shaped d=true/\SeqAt.shaped e=true/\Q (.bl (!PyData.eqv d e)) H
theorem RG(hu:X.A.units+64<cLine):qT X (compareOp .NotEq) (U6 X.K):=by
 intro pins s σ H x y v u Q I rx ry;refine W6 λd e=>Xe λhd he sd se q=>?_;obtain⟨as,r1⟩:=Dp.reads I d x v hd rx;obtain⟨bs,r2⟩:=Dp.reads I e y u he ry;exact SeqAt.compareNe_shaped r1 r2 sd se hu ⟨.bl _,H,I,rfl,q⟩
end
abbrev MG(h:Heap)(c:Addr)(v:Option Value):Prop:=h.IsCell c v
noncomputable def U7(scope sc:Scope):Scope:=
 {scope with names:=scope.names.map λ(n,k)=>if(k== .free&&sc.kind== .function&&sc.names.lookup n==some .cell)then(n,.cell)else(n,k)}
noncomputable def eA(cells:List (Str×Addr)):List (Str×NameKind)->List (Str×Addr)->List (Str×Addr)
 |[],acc=>acc
 |(n,k)::r,acc=>if k== .free then eA cells r ((n,(cells.lookup n).getD 0)::acc)else eA cells r acc
theorem xS(env:Env)(f:Str×NameKind->List (Str×Addr)->Sem (ForInStep (List (Str×Addr))))
 (hf:∀n k c,f (n,k) c=if k== .free then(do let a<-cellOf env n;pure (.yield ((n,a)::c)))else pure (.yield c)):
 ∀(names:List (Str×NameKind))(acc:List (Str×Addr)),(∀y∈names,y.2= .free->∃c,env.cells.lookup y.1=some c)->forIn names acc f=pure (eA env.cells names acc)
 |[],acc,_=>by rw[List.forIn_nil];rfl
 |(n,k)::r,acc,h=>by
  rw[List.forIn_cons,hf];have ih:=λacc=>xS env f hf r acc λy hy=>h y (aL _ hy);unfold eA;by_cases hk:(k==NameKind.free)=true
  ·rw[ao hk,ao hk];obtain⟨c,hc⟩:=h (n,k) aV (by simpa using hk);have e:cellOf env n=pure c:=by unfold cellOf;rw[hc]
   rw[e];have e2:(env.cells.lookup n).getD 0=c:=by rw[hc];rfl
   rw[e2];exact ih _
  ·rw[ah hk,ah hk];exact ih _
theorem Ip{scope:Scope}{env:Env}(h:∀y∈scope.names,y.2= .free->∃c,env.cells.lookup y.1=some c):closureFor scope env=pure (eA env.cells scope.names []):=by
 simp only[closureFor];rw[xS env _ (λn k c=>rfl) scope.names [] h];rfl
theorem mem_lookup{α:Type}:∀{l:List (Str×α)}{n:Str}{c:α},(n,c)∈l->∃c',l.lookup n=some c'
 |(k,v)::r,n,c,h=>by
  rw[iG];cases hb:n==k with
  |true=>exact⟨_,rfl⟩
  |false=>
   rcases List.mem_cons.mp h with e|h
   ·cases e;simp at hb
   ·exact mem_lookup h
theorem oa{cells:List (Str×Addr)}:∀{names:List (Str×NameKind)}{acc:List (Str×Addr)}{n:Str}{c:Addr},(n,c)∈eA cells names acc->(n,c)∈acc\/((n,.free)∈names/\c=(cells.lookup n).getD 0)
 |[],_,_,_,h=>.inl h
 |(m,k)::r,acc,n,c,h=>by
  unfold eA at h;split at h
  ·rename_i hk;have hk:k= .free:=by simpa using hk
   rcases oa h with h|⟨h1,h2⟩
   ·rcases List.mem_cons.mp h with e|h
    ·cases e;exact .inr ⟨hk▸aV,rfl⟩
    ·exact .inl h
   ·exact .inr ⟨aL _ h1,h2⟩
  ·rcases oa h with h|⟨h1,h2⟩
   ·exact .inl h
   ·exact .inr ⟨aL _ h1,h2⟩
theorem tZ{cells:List (Str×Addr)}:∀{names:List (Str×NameKind)}{acc:List (Str×Addr)}{p:Str×Addr},p∈acc->p∈eA cells names acc
 |[],_,_,h=>h
 |(m,k)::r,acc,p,h=>by
  unfold eA;split
  ·exact tZ (aL _ h)
  ·exact tZ h
theorem t4{cells:List (Str×Addr)}:∀{names:List (Str×NameKind)}{acc:List (Str×Addr)}{n:Str},(n,.free)∈names->(n,(cells.lookup n).getD 0)∈eA cells names acc
 |(m,k)::r,acc,n,h=>by
  unfold eA;rcases List.mem_cons.mp h with e|h
  ·cases e;exact tZ aV
  ·split
   ·exact t4 h
   ·exact t4 h
theorem pW:∀{names:List (Str×NameKind)}{h:Heap}{acc:List (Str×Addr)}{x:Str}{c:Addr},(x,c)∈cellsFrom h.objs.size names acc->
 (x,c)∈acc\/((x,.cell)∈names/\h.objs.size<=c/\MG (pushCells h names) c none)
 |[],_,_,_,_,h=>.inl h
 |(n,k)::r,h,acc,x,c,hm=>by
  unfold cellsFrom at hm;unfold pushCells;split at hm
  ·rename_i hk;rw[ao hk];have hk:k= .cell:=by simpa using hk
   rw[<-cG h {cls:= .type "cell",data:= .cell none}]at hm;rcases pW hm with hm|⟨h1,h2,h3⟩
   ·rcases List.mem_cons.mp hm with e|hm
    ·cases e;exact .inr ⟨hk▸aV,aH _,_,HR r _ _ _ (aW _ rfl),rfl⟩
    ·exact .inl hm
   ·rw[cG]at h2;exact .inr ⟨aL _ h1,ze h2,h3⟩
  ·rename_i hk;rw[ah hk];rcases pW hm with hm|⟨h1,h2,h3⟩
   ·exact .inl hm
   ·exact .inr ⟨aL _ h1,h2,h3⟩
theorem vw:∀{names:List (Str×NameKind)}{n:Nat}{acc:List (Str×Addr)}{p:Str×Addr},p∈acc->p∈cellsFrom n names acc
 |[],_,_,_,h=>h
 |(m,k)::r,n,acc,p,h=>by
  unfold cellsFrom;split
  ·exact vw (aL _ h)
  ·exact vw h
theorem zq:∀{names:List (Str×NameKind)}{n:Nat}{acc:List (Str×Addr)}{x:Str},(x,.cell)∈names->∃c,(x,c)∈cellsFrom n names acc
 |(m,k)::r,n,acc,x,h=>by
  unfold cellsFrom;rcases List.mem_cons.mp h with e|h
  ·cases e;exact⟨n,vw aV⟩
  ·split
   ·exact zq h
   ·exact zq h
theorem zr:∀{names:List (Str×NameKind)}{h:Heap}{acc:List (Str×Addr)}{x y:Str}{c:Addr},(∀p∈acc,p.2<h.objs.size)->(∀x y c,(x,c)∈acc->(y,c)∈acc->x=y)->
 (x,c)∈cellsFrom h.objs.size names acc->(y,c)∈cellsFrom h.objs.size names acc->x=y
 |[],_,_,_,_,_,_,hi,h1,h2=>hi _ _ _ h1 h2
 |(n,k)::r,h,acc,x,y,c,hl,hi,h1,h2=>by
  unfold cellsFrom at h1 h2;split at h1
  ·rename_i hk;rw[ao hk]at h2;rw[<-cG h {cls:= .type "cell",data:= .cell none}]at h1 h2;refine zr (h:=h.push _) (λp hp=>?_) (λx y c a b=>?_) h1 h2
   ·rw[cG];rcases List.mem_cons.mp hp with rfl|hp
    ·exact Bb _
    ·exact jP (hl p hp)
   ·rcases List.mem_cons.mp a with e|a<;>rcases List.mem_cons.mp b with e'|b
    ·cases e;cases e';rfl
    ·cases e;exact absurd (hl _ b) (cV _)
    ·cases e';exact absurd (hl _ a) (cV _)
    ·exact hi _ _ _ a b
  ·rename_i hk;rw[ah hk]at h2;exact zr hl hi h1 h2
theorem Gm{M:Model}{A:Around}{E:Value->Shared->Prop}{s:Shared}{scope:Scope}{globals:Addr}{closure:List (Str×Addr)}{qual:Str}{func:Option Addr}{code:Value}{around:Env}{builtins:Addr}{Q:Env->Shared->Prop}
 (h:Q (newEnv scope s.heap.objs.size globals (cellsFrom (s.heap.objs.size+1) scope.names closure) qual func code (some around) builtins)
  {s with heap:=pushCells (s.heap.push {cls:= .type "dict",data:= .dict #[]}) scope.names}):
 wpAny M A (newFunctionEnv scope globals closure [] qual func code (some around) builtins) Q E s:=by
 simp only[newFunctionEnv,Option.isSome_some,zd];refine ae (wpAny_alloc ?_);refine ae (wpAny_layCells _ (λn k c=>rfl) scope.names closure _ _ ?_);rw[show({s with heap:=s.heap.push {cls:= .type "dict",data:= .dict #[]}}:Shared).heap.objs.size=s.heap.objs.size+1 from cG ..];rw[List.forIn_nil];exact ae (aA (aA h))
theorem t5{sc:Scope}:∀{names:List (Str×NameKind)}{x:Str}{k:NameKind},
 (names.map λ(n,k)=>if(k==NameKind.free&&sc.kind== .function&&sc.names.lookup n==some .cell)then(n,NameKind.cell)else(n,k)).lookup x=some k->
 ∃k',names.lookup x=some k'/\(k=k'\/(k'= .free/\k= .cell))
 |[],_,_,h=>by simp at h
 |(n,k₀)::r,x,k,h=>by
  have ih:=@t5 sc r x k;have h':List.lookup x ((if(k₀==NameKind.free&&sc.kind== .function&&sc.names.lookup n==some .cell)=true then(n,NameKind.cell)else(n,k₀))::(r.map _))=some k:=h;cases hx:x==n with
  |true=>
   simp only[iG,hx];by_cases hc:(k₀==NameKind.free&&sc.kind== .function&&sc.names.lookup n==some .cell)=true
   ·rw[ao hc]at h';simp only[iG,hx]at h';cases h';simp only[bP,jg]at hc;exact⟨k₀,rfl,.inr ⟨hc.1.1,rfl⟩⟩
   ·rw[ah hc]at h';simp only[iG,hx]at h';cases h';exact⟨_,rfl,.inl rfl⟩
  |false=>
   simp only[iG,hx];by_cases hc:(k₀==NameKind.free&&sc.kind== .function&&sc.names.lookup n==some .cell)=true
   ·rw[ao hc]at h';simp only[iG,hx]at h';exact ih h'
   ·rw[ah hc]at h';simp only[iG,hx]at h';exact ih h'
structure t6(N:List Str)(sc scope:Scope)(own:List (Str×Nat)):Prop where
 kind:scope.kind= .function
 uniq:∀y∈scope.names,scope.names.lookup y.1=some y.2
 ix:∀p∈own,N[p.2]?=some p.1
 free:∀y∈scope.names,y.2= .free->sc.names.lookup y.1=some .cell\/sc.names.lookup y.1=some .free
 own:∀y∈scope.names,y.2= .local\/y.2= .cell->y.1∈own.map (·.1)\/y.1∉N
noncomputable def wipe(σ:St):List Nat->St
 |[]=>σ
 |v::vs=>(wipe σ vs).set v none
theorem t9(σ:St):∀vs:List Nat,(wipe σ vs).length=σ.length
 |[]=>rfl
 |v::vs=>by unfold wipe;rw[ck,t9 σ vs]
theorem zt{σ:St}{i:Nat}{x:V}:∀{vs:List Nat},(wipe σ vs)[i]?=some (some x)->σ[i]?=some (some x)/\i∉vs
 |[],h=>⟨h,by simp⟩
 |v::vs,h=>by
  unfold wipe at h;by_cases hi:v=i
  ·subst hi;by_cases hv:v<(wipe σ vs).length
   ·rw[fX hv]at h;cases h
   ·rw[b7 (by simpa using hv)]at h;cases h
  ·rw[gQ hi]at h;obtain⟨h1,h2⟩:=zt h;exact⟨h1,by simp only[List.mem_cons,not_or];exact⟨λe=>hi e.symm,h2⟩⟩
abbrev Cx.E5(X:Cx)(s:Shared)(H:Hp)(scope:Scope)(cenv:Env)(fp:List Addr):Cx:={X with xJ:=s,Rh:=H,env:=cenv,outer:=X.stack,ex:=fp,fn:=λx=>scope.names.lookup x==some .cell,pn:=[],xe:=λ_ _=>False}
section
variable{X:Cx}{pins:List (Addr×Obj)}{σ:St}{H:Hp}{s:Shared}
theorem Gn{scope:Scope}{own:List (Str×Nat)}{fp:List Addr}(I:Inv X pins σ H s)(ok:t6 X.N X.env.scope scope own)(hN:X.N.Nodup)(hfp:∀b∈fp,Dm X pins H b/\b<s.heap.objs.size):
 Inv (X.E5 s H scope (compEnvC scope (cellsFrom (s.heap.objs.size+1) scope.names (eA X.env.cells scope.names [])) s.heap.objs.size X.env) fp) [] (wipe σ (own.map (·.2))) H {s with heap:=pushCells (s.heap.push {cls:= .type "dict",data:= .dict #[]}) scope.names}:=by
 have hfree:∀y∈scope.names,y.2= .free->∃c,X.env.cells.lookup y.1=some c:=λy hy e=>by
  rcases ok.free y hy e with k|k
  ·exact I.ok.has _ (.inl k)
  ·exact I.ok.has _ (.inr k)
 generalize hcenv:compEnvC scope (cellsFrom (s.heap.objs.size+1) scope.names (eA X.env.cells scope.names [])) s.heap.objs.size X.env=cenv;have kp:∀b o,s.heap.get? b=some o->(pushCells (s.heap.push {cls:= .type "dict",data:= .dict #[]}) scope.names).get? b=some o:=λb o e=>HR _ _ _ _ (aG _ e);have hL:cenv.locals=s.heap.objs.size:=by rw[<-hcenv];rfl
 have hcl:cenv.cells=cellsFrom (s.heap.objs.size+1) scope.names (eA X.env.cells scope.names []):=by rw[<-hcenv];rfl
 have hsc:cenv.scope=U7 scope X.env.scope:=by rw[<-hcenv];rfl
 rw[<-cG s.heap {cls:= .type "dict",data:= .dict #[]}]at hcl;have cm:∀{y c},(y,c)∈eA X.env.cells scope.names []->X.env.cells.lookup y=some c/\c<s.heap.objs.size:=λ{y c} hm=>by
  rcases oa hm with hm|⟨h1,rfl⟩
  ·cases hm
  ·obtain⟨c,hc⟩:=hfree _ h1 rfl;rw[hc];obtain⟨w,z⟩:=I.cell _ _ hc;exact⟨rfl,z.lt⟩
 have mem:∀{y c},cenv.cells.lookup y=some c->(X.env.cells.lookup y=some c/\c<s.heap.objs.size)\/(s.heap.objs.size+1<=c/\MG (pushCells (s.heap.push {cls:= .type "dict",data:= .dict #[]}) scope.names) c none):=λ{y c} e=>by
  rw[hcl]at e;rcases pW (cg e)with hm|⟨_,h2,h3⟩
  ·exact .inl (cm hm)
  ·rw[cG]at h2;exact .inr ⟨h2,h3⟩
 have look:∀{y},scope.names.lookup y=some .free->∃c,cenv.cells.lookup y=some c/\X.env.cells.lookup y=some c:=λ{y} hl=>by
  have hy:(y,NameKind.free)∈scope.names:=cg hl;obtain⟨c',e'⟩:=mem_lookup (vw (names:=scope.names) (n:=(s.heap.push {cls:= .type "dict",data:= .dict #[]}).objs.size) (t4 (cells:=X.env.cells) (acc:=[]) hy));rw[<-hcl]at e';refine⟨c',e',?_⟩;rw[hcl]at e';rcases pW (cg e')with hm|⟨h1,_,_⟩
  ·exact(cm hm).1
  ·have:=ok.uniq _ h1;rw[hl]at this;cases this
 have okB:(X.E5 s H scope cenv fp).Ok:=by
  refine⟨I.ok.mod,by show cenv.scope.kind=_;rw[hsc];exact ok.kind,by show cenv.globals=_;rw[<-hcenv];exact I.ok.glob,by show cenv.builtins=_;rw[<-hcenv];exact I.ok.blt,by show s.heap.objs.size<=cenv.locals;rw[hL];exact aH _,
   λy z c e1 e2=>?_,λy hy=>?_,λy c z e=>?_,I.ok.hd,I.ok.frames,.inl rfl,λb hb=>⟨?_,λy c e z=>?_⟩,I.bs,be I.ok.Me I.sz,λb o e hb=>?_,λb hb z=>?_,I.stack,I.Bi⟩
  ·have e1:cenv.cells.lookup y=some c:=e1;have e2:cenv.cells.lookup z=some c:=e2;rw[hcl]at e1 e2;refine zr (λp hp=>?_) (λy z c a b=>I.ok.inj y z c (cm a).1 (cm b).1) (cg e1) (cg e2);rw[cG];exact jP (cm (y:=p.1) (c:=p.2) hp).2
  ·show∃c,cenv.cells.lookup y=some c;have key:∀k,cenv.kindOf y=some k->(k= .cell\/k= .free)->∃c,cenv.cells.lookup y=some c:=λk hk hk'=>by
    unfold Env.kindOf at hk;rw[hsc]at hk;obtain⟨k',e,r⟩:=t5 hk;have:k'= .cell\/k'= .free:=by
     rcases r with rfl|⟨rfl,_⟩
     ·exact hk'
     ·exact .inr rfl
    rcases this with rfl|rfl
    ·obtain⟨c,hm⟩:=zq (n:=(s.heap.push {cls:= .type "dict",data:= .dict #[]}).objs.size) (acc:=eA X.env.cells scope.names []) (cg e);obtain⟨c',e'⟩:=mem_lookup hm;exact⟨c',by rw[hcl];exact e'⟩
    ·obtain⟨c,h1,_⟩:=look e;exact⟨c,h1⟩
   rcases hy with hy|hy
   ·exact key _ hy (.inl rfl)
   ·exact key _ hy (.inr rfl)
  ·have z:(scope.names.lookup y==some NameKind.cell)=true:=z;have z:scope.names.lookup y=some .cell:=by simpa using z
   have e:cenv.cells.lookup y=some c:=e;rw[hcl]at e;rcases pW (cg e)with hm|⟨_,h2,_⟩
   ·rcases oa hm with hm|⟨h1,_⟩
    ·cases hm
    ·have q:=ok.uniq _ h1;rw[z]at q;cases q
   ·rw[cG]at h2;exact ze h2
  ·show b≠cenv.locals;rw[hL];exact bZ (hfp b hb).2
  ·have e:cenv.cells.lookup y=some c:=e;rcases mem e with⟨h1,_⟩|⟨h1,_⟩
   ·exact(hfp b hb).1.2.2.2.2.1 y c h1 z
   ·have h2:s.heap.objs.size+1<=b:=by rw[<-z];exact h1
    exact absurd (aZ (hfp b hb).2 (ze h2)) (cV _)
  ·rcases(hfp b hb).1.2.2.2.1 with z|z
   ·exact I.ok.HX b o e z
   ·exact absurd (aZ (aY e) (be I.ok.Me z)) (cV _)
  ·rcases List.mem_cons.mp (I.ET b z)with z|z
   ·exact(hfp b hb).1.2.1 z
   ·exact(hfp b hb).1.2.2.1 z
 refine⟨okB,rfl,I.bare,Un.kept kp,⟨λ_=>none,?_,λi y av e1 e2 e3=>?_⟩,λy c e=>?_,?_,λy c e=>?_,λp hp=>?_,I.dI.kept kp,by rw[t9];exact I.len⟩
 ·show Heap.Ns _ cenv.locals _;rw[hL];exact Heap.Ns.keeps (Heap.Ns.new ..) λb o e=>HR _ _ _ _ e
 ·obtain⟨e2,hne⟩:=zt e2;have hfr:scope.names.lookup y=some .free/\(cenv.kindOf y=some .cell\/cenv.kindOf y=some .free):=by
   have key:∀k,cenv.scope.names.lookup y=some k->k= .local\/k= .cell\/k= .free->scope.names.lookup y=some .free/\(cenv.kindOf y=some .cell\/cenv.kindOf y=some .free):=λk hk hk'=>by
    have hk0:=hk;rw[hsc]at hk;obtain⟨k',e,r⟩:=t5 hk;have no:¬(k'= .local\/k'= .cell):=λhh=>by
     rcases ok.own _ (cg e) hh with e'|e'
     ·obtain⟨p,hp,hpy⟩:=List.mem_map.mp e';have e3:=ok.ix p hp;have:p.1=y:=hpy;rw[this]at e3;exact hne (List.mem_map.mpr ⟨p,hp,BA hN e3 e1⟩)
     ·exact e' (bE e1)
    rcases r with rfl|⟨rfl,rfl⟩
    ·rcases hk' with rfl|rfl|rfl
     ·exact absurd (.inl rfl) no
     ·exact absurd (.inr rfl) no
     ·exact⟨e,.inr hk0⟩
    ·exact⟨e,.inl hk0⟩
   have e3:SG cenv.scope y:=e3;rcases e3 with e3|e3|e3
   ·exact key _ e3 (.inl rfl)
   ·exact key _ e3 (.inr (.inl rfl))
   ·exact key _ e3 (.inr (.inr rfl))
  obtain⟨m,hn,hl⟩:=I.loc;have hvis:SG X.env.scope y:=(ok.free _ (cg hfr.1) rfl).elim (λk=>.inr (.inl k)) (λk=>.inr (.inr k));obtain⟨w,r,q⟩:=hl i y av e1 e2 hvis;refine⟨w,r,.inr ⟨hfr.2,?_⟩⟩;obtain⟨c,h1,h2⟩:=look hfr.1;rcases q with⟨k,_⟩|⟨_,c',e',z⟩
  ·have k:X.env.scope.names.lookup y=some .local:=k;rcases ok.free _ (cg hfr.1) rfl with k'|k'<;>rw[show X.env.scope.names.lookup y=_ from k']at k<;>cases k
  ·rw[h2]at e';cases e';exact⟨c,h1,z.keeps kp⟩
 ·have e:cenv.cells.lookup y=some c:=e;rcases mem e with⟨h1,_⟩|⟨_,z⟩
  ·obtain⟨w,z⟩:=I.cell y c h1;exact⟨w,z.keeps kp⟩
  ·exact⟨_,z⟩
 ·show H cenv.locals=none;rw[hL];exact I.dI.fresh (aH _)
 ·have e:cenv.cells.lookup y=some c:=e;rcases mem e with⟨h1,_⟩|⟨h1,_⟩
  ·exact I.kJ y c h1
  ·exact I.dI.fresh (ze h1)
 ·exact absurd (show p∈([]:List (Addr×Obj))++[]from hp) (by simp)
theorem RH{E:Value->Shared->Prop}{D:Addr}{xs:List V}{y:V}{v:Value}{Q:Value->Shared->Prop}(I:Inv X pins σ H s)(hD:H D=some (.lst xs))(hz:xs.length<sizeLine)(r:RelV y v)
 (h:∀s',Inv X pins σ (upd H D (.lst (xs++[y]))) s'->Q .none s'):wpAny (model X.prog X.w) X.A (call (.builtin "list.append") [.ref D,v]) Q E s:=by
 obtain⟨hz',its,n,ri,e⟩:=I.dI D _ hD;have hl:=ri.length;refine append_at (hsz:=by rw[bz];lia) e λh' sb ho'=>?_;refine h {s with heap:=h'} (I.write (t':=s.toks) (by rw[hD];trivial) (.inl rfl) (λb u hb q=>(sb.2 b hb).trans q) ⟨_,ho'⟩ ⟨by rw[aE];exact hz,its++[v],n+1,ri.append (.cons r .nil),?_⟩);rw[ho'];simp
def Te(X:Cx)(ifs:List Expr)(t:TT):Prop:=
 ∀(pins:List (Addr×Obj))(s:Shared)(σ:St)(H:Hp)(Q:Bool->Hp->Prop),Inv X pins σ H s->t σ H Q->
  wpAny (model X.prog X.w) X.A (forIn ifs true λc r=>if r=true then do let ok<-isTrue c X.env (eval c X.env);pure (ForInStep.yield ok)else pure (ForInStep.yield r)) (TP X pins σ Q) X.xe s
def KU:TT:=λ_ H Q=>Q true H
theorem xT:Te X [] KU:=λ_ _ _ H _ I h=>wpAny_tests_nil ⟨H,I,h⟩
theorem JW{c:Expr}{t:TT}(h:PT X c t):Te X [c] t:=λpins s σ H Q I hw=>wpAny_tests_one (h pins s σ H Q I hw)
end
theorem KW{α:Type}{t:Sem α}{Q Q':α->Shared->Prop}{M:Model}{A:Around}{E:Value->Shared->Prop}{s:Shared}(h:wpAny M A t Q (λ_ _=>False) s)(hQ:∀a s,Q a s->Q' a s):wpAny M A t Q' E s:=dN h hQ λ_ _ z=>False.elim z
theorem E6{prog:Program}{w:World}{A:Around}{R:Result->Shared->Prop}{s:Shared}{elt target iter:Expr}{ifs:List Expr}{scope:Scope}{pos:Pos}{it acc:Value}{env:Env}(I:Nat->Shared->Prop)
 (turn:∀n s,I n s->wpAny (model prog w) A (pyNext it) (λr s₁=>match r with
  |none=>R (.ok .next) s₁
  |some v=>wpAny (model prog w) A (letOwnedTupleGo target it v) (λ_ s₁'=>wpAny (model prog w) A (assign target env v) (λ_ s₂=>
   wpAny (model prog w) A (forIn ifs true λc r=>if r=true then do let ok<-isTrue c env (eval c env);pure (ForInStep.yield ok)else pure (ForInStep.yield r)) (λok s₃=>
    if ok=true then wpAny (model prog w) A (eval elt env) (λx s₄=>
     wpAny (model prog w) A (call (.builtin "list.append") [acc,x]) (λ_ s₅=>∃m,m<n/\I m s₅) (notedBy (model prog w) A env λe s'=>R (.error e) s') s₄) (notedBy (model prog w) A env λe s'=>R (.error e) s') s₃
    else∃m,m<n/\I m s₃) (notedBy (model prog w) A env λe s'=>R (.error e) s') s₂) (notedBy (model prog w) A env λe s'=>R (.error e) s') s₁') (notedBy (model prog w) A env λe s'=>R (.error e) s') s₁) (notedBy (model prog w) A env λe s'=>R (.error e) s') s)
 (n:Nat) (h:I n s):
 codeAny (model prog w) A (.compLoop (.ListComp elt [⟨target,iter,ifs,0⟩] scope pos) 0 it acc env) R s:=by
 refine codeAny_loop rfl I (λn s hI=>?_) n h;show wpAny _ A ((compTurn (.ListComp elt [⟨target,iter,ifs,0⟩] scope pos) 0 it acc env).onRaise (λx=>do noteFrame x env;theTreesLotGoes x)) _ _ s;refine wpAny_noted ?_;rw[compTurn_list];refine ae (pK (ae (dN (turn n s hI) (λr s₁ h₁=>?_) λ_ _ h'=>h')));cases r with
 |none=>exact aA h₁
 |some v=>
  refine ae (dN h₁ (λ_ s₁' h₁'=>?_) λ_ _ h'=>h');refine ae (dN h₁' (λ_ s₂ h₂=>ae (dN h₂ (λok s₃ h₃=>?_) λ_ _ h'=>h')) λ_ _ h'=>h');cases ok with
  |false=>exact aA ⟨rfl,h₃⟩
  |true=>
   exact ae (ae (dN h₃ (λx s₄ h₄=>ae (dN h₄ (λ_ s₅ h₅=>aA (aA ⟨rfl,h₅⟩)) λ_ _ h'=>h')) λ_ _ h'=>h'))
section
variable{X:Cx}
def Us(wi:TI)(g:TG)(tt:TT)(te:TE)(vs:List Nat):TE:=λσ H Q=>wi σ H λJ H1=>∀D,H1 D=none->∃W:Nat->Nat->Hp->Prop,(∃m,W 0 m (upd H1 D (.lst [])))/\∀i m H,W i m H->
 (J.stop i H/\Q (.ref D) H)\/(J.go i H/\∃Nx:Hp->Prop,(∀H',Nx H'->∃m',m'<m/\W (i+1) m' H')/\∀x H',J.QA i H x H'->g x (wipe σ vs) H' λσ2 H2=>wipe σ2 vs=wipe σ vs/\tt σ2 H2 λb H3=>
  if b=true then te σ2 H3 λy H4=>∃acc,H4 D=some (.lst acc)/\acc.length<sizeLine/\Nx (upd H4 D (.lst (acc++[y])))else Nx H3)
theorem JX{pins:List (Addr×Obj)}{s:Shared}{σ:St}{H:Hp}{Q:VK}{elt tg iter:Expr}{ifs:List Expr}{scope:Scope}{own:List (Str×Nat)}{pos pos':Pos}{wi:TI}{g:TG}{tt:TT}{te:TE}{use:Option (Value->Sem Unit)}{Qf:Value->Shared->Prop}
 (hc:X.calm=true) (hN:X.N.Nodup) (I:Inv X pins σ H s) (hi:PI X tg iter wi) (ok:t6 X.N X.env.scope scope own)
 (hg:∀(s:Shared)(H:Hp)(C:Addr)(cl:List (Str×Addr))(fp:List Addr),PG (X.E5 s H scope (compEnvC scope cl C X.env) fp) tg g) (ht:∀(s:Shared)(H:Hp)(C:Addr)(cl:List (Str×Addr))(fp:List Addr),Te (X.E5 s H scope (compEnvC scope cl C X.env) fp) ifs tt)
 (he:∀(s:Shared)(H:Hp)(C:Addr)(cl:List (Str×Addr))(fp:List Addr),PE (X.E5 s H scope (compEnvC scope cl C X.env) fp) elt te) (hs:∀x,foldedSetIterable iter X.env x=pure x)
 (h:Us wi g tt te (own.map (·.2)) σ H Q)
 (hRR:∀D C s' m H',Inv X pins σ H' s'->Q (.ref D) H'->s'.heap.Ns C m->Dm X pins H' C->compPost (model X.prog X.w) X.A X.xe use Qf (.ref D) C (.ok .next) s'):
 wpAny (model X.prog X.w) X.A (comprehension (.ListComp elt [⟨tg,iter,ifs,0⟩] scope pos) scope X.env pos' (newList []) false (eval iter X.env) use) Qf X.xe s:=by
 have hfree:∀y∈scope.names,y.2= .free->∃c,X.env.cells.lookup y.1=some c:=λy hy e=>by
  rcases ok.free y hy e with k|k
  ·exact I.ok.has _ (.inl k)
  ·exact I.ok.has _ (.inr k)
 refine wpAny_comprehension_free (use:=use) rfl hs (Ip hfree) ok.kind (λy hy e=>by rw[ok.uniq y hy,e])
  (eu (hi pins s σ H _ I h) λxv s1 hx=>eu hx λitv s2=>W7 λit fp tn J=>Xa λH2=>Xb λe I2 T st2 f2 q=>?_)
 subst e;refine fe (Gm ?_) (by show 0<=sizeLine;decide);generalize hD:s2.heap.objs.size=D;have hDn:H2 D=none:=I2.dI.fresh (gR hD);refine Xa (λW=>W9 λn0_ turn=>?_) (q D hDn);obtain⟨m0,w0⟩:=n0_;generalize hs3:({s2 with heap:=s2.heap.push {cls:= .type "list",data:= .seq ([]:List Value).toArray}}:Shared)=s3;have I3:Inv X pins σ (upd H2 D (.lst [])) s3:=by
  rw[<-hs3];refine I2.laid (t':=s2.toks) (λb o e=>aG _ e) (gR hD) ⟨br _,[],0,.nil,?_⟩;rw[<-hD];exact aW _ rfl
 have h3:s3.heap=s2.heap.push {cls:= .type "list",data:= .seq ([]:List Value).toArray}:=by rw[<-hs3]
 have sz:∀b∈fp,b<s2.heap.objs.size:=λb hb=>by
  obtain⟨o,e,_⟩:=T.obj _ _ st2 b hb;exact aY e
 have f3:∀b∈fp,Dm X pins (upd H2 D (.lst [])) b/\b<s3.heap.objs.size:=λb hb=>by
  have hlt:=sz b hb;refine⟨⟨?_,(f2 b hb).2⟩,by rw[h3,cG];exact jP hlt⟩;rw[bt (by rw[<-hD];exact bZ hlt)];exact(f2 b hb).1
 have st3:tn 0 s3.heap:=T.keep _ _ _ st2 λb _ o e=>by rw[h3];exact aG _ e
 have I4:=Gn I3 ok hN f3;have pg:=hg s3 (upd H2 D (.lst [])) s3.heap.objs.size (cellsFrom (s3.heap.objs.size+1) scope.names (eA X.env.cells scope.names [])) fp;have pt:=ht s3 (upd H2 D (.lst [])) s3.heap.objs.size (cellsFrom (s3.heap.objs.size+1) scope.names (eA X.env.cells scope.names [])) fp;have pe:=he s3 (upd H2 D (.lst [])) s3.heap.objs.size (cellsFrom (s3.heap.objs.size+1) scope.names (eA X.env.cells scope.names [])) fp;show codeAny _ _ (.compStart (.ListComp elt [⟨tg,iter,ifs,0⟩] scope pos) 0 (.ref it) (.ref D) (compEnvC scope (cellsFrom (s3.heap.objs.size+1) scope.names (eA X.env.cells scope.names [])) s3.heap.objs.size X.env)) (compPost (model X.prog X.w) X.A X.xe use Qf (.ref D) s3.heap.objs.size) {s3 with heap:=pushCells (s3.heap.push {cls:= .type "dict",data:= .dict #[]}) scope.names};have nfp:∀b∈fp,(upd H2 D (.lst [])) b=none:=λb hb=>(f3 b hb).1.1;generalize hce:compEnvC scope (cellsFrom (s3.heap.objs.size+1) scope.names (eA X.env.cells scope.names [])) s3.heap.objs.size X.env=ce at I4 pg pt pe⊢;have cL:ce.locals=s3.heap.objs.size:=by subst hce;rfl
 generalize hH3:upd H2 D (.lst [])=H3 at I3 I4 pg pt pe w0 nfp f3;generalize hs4:({s3 with heap:=pushCells (s3.heap.push {cls:= .type "dict",data:= .dict #[]}) scope.names}:Shared)=s4 at I4⊢;have st4:tn 0 s4.heap:=T.keep _ _ _ st3 λb _ o e=>by rw[<-hs4];exact HR _ _ _ _ (aG _ e)
 have stat:∀{σ':St}{H':Hp}{s':Shared},Inv (X.E5 s3 H3 scope ce fp) [] σ' H' s'->(∀b∈fp,H' b=none)->∀b∈fp,Dm (X.E5 s3 H3 scope ce fp) [] H' b:=λ{σ' H' s'} I' hn b hb=>
  ⟨hn b hb,(I'.ok.SI b hb).1,I'.ok.HY b hb,.inl hb,λx c e=>(I'.ok.SI b hb).2 x c e,λp hp=>absurd (show p∈([]:List (Addr×Obj))++[]from hp) (by simp)⟩
 have loop:codeAny (model X.prog X.w) X.A (.compLoop (.ListComp elt [⟨tg,iter,ifs,0⟩] scope pos) 0 (.ref it) (.ref D) ce) (compPost (model X.prog X.w) X.A X.xe use Qf (.ref D) s3.heap.objs.size) s4:=by
  refine E6 (λn s'=>∃i H',Inv (X.E5 s3 H3 scope ce fp) [] (wipe σ (own.map (·.2))) H' s'/\tn i s'.heap/\(∀b∈fp,H' b=none)/\W i n H') ?_ m0 ⟨0,H3,I4,st4,nfp,w0⟩;intro n s5;refine W6 λi H5=>Xd λI5 st5 n5 w5=>?_;rcases turn i n H5 w5 with⟨stop,qq⟩|⟨go,Nx,hNx,step⟩
  ·have td:=T.done (X.E5 s3 H3 scope ce fp) rfl rfl rfl hc i [] s5 _ H5 (λ_ _=>False) I5 (stat I5 n5) st5 stop;refine KW td λr s6 ⟨hr,I6⟩=>?_;subst hr;have I7:Inv X pins σ H5 s6:=I3.Qz (ch:=fp) I6.os I6.base I6.dI I6.bare λb hb=>⟨(f3 b hb).1.2.2.2.1,(f3 b hb).1.2.1,(f3 b hb).1.2.2.2.2.1,(f3 b hb).1.2.2.2.2.2⟩;have nC:H5 s3.heap.objs.size=none:=by
    have z:H5 ce.locals=none:=I6.free;rw[cL]at z;exact z
   refine Xa (λm=>W9 λhn _=>?_) I6.loc;have hn:s6.heap.Ns ce.locals m:=hn;rw[cL]at hn;exact hRR D s3.heap.objs.size s6 m H5 I7 qq hn (I3.Ml (aH _) nC)
  ·have ti:=T.item (X.E5 s3 H3 scope ce fp) rfl rfl rfl hc i [] s5 _ H5 (λ_ _=>False) I5 (stat I5 n5) st5 go;refine KW ti λr s6 h_0=>?_;revert h_0;refine Xa λu=>W9 λhr h6=>?_;subst hr;refine KW h6 λ_ s7 h_0=>?_;revert h_0;refine W6 λx H7=>Xe λI7 r7 y7 st7 n7=>?_;have I7':=I7.pinned (stat I7 n7) (T.obj _ _ st7);refine KW (pg _ s7 _ H7 x u _ I7' r7 (step x H7 y7)) λ_ s8 h_0=>?_;revert h_0;refine W6 λσ8 H8=>W8 λI8 hw8 q8=>?_;refine KW (pt _ s8 σ8 H8 _ I8 q8) λb s9 h_0=>?_;revert h_0;refine Xa λH9=>W9 λI9 q9=>?_;have fin:∀{s':Shared}{H':Hp},Inv (X.E5 s3 H3 scope ce fp) ([]++BD fp s7.heap) σ8 H' s'->Nx H'->∃m,m<n/\∃i H',Inv (X.E5 s3 H3 scope ce fp) [] (wipe σ (own.map (·.2))) H' s'/\tn i s'.heap/\(∀b∈fp,H' b=none)/\W i m H':=λ{s' H'} I' nx=>by
    obtain⟨m',hm,w'⟩:=hNx H' nx;have pin':∀b∈fp,∀o,s7.heap.get? b=some o->s'.heap.get? b=some o/\H' b=none:=λb hb o e=>
     let z:=I'.pin (b,o) (dZ _ (dZ _ (w6 hb e)))
     ⟨z.1,z.2.1⟩
    have hl:(wipe σ (own.map (·.2))).length=σ8.length:=by rw[<-hw8,t9]
    refine⟨m',hm,i+1,H',(I'.xP (pins:=[])).weak hl (λj v e=>?_),T.keep _ _ _ st7 λb hb o e=>(pin' b hb o e).1,λb hb=>?_,w'⟩
    ·rw[<-hw8]at e;exact(zt e).1
    ·obtain⟨o,e,_⟩:=T.obj _ _ st7 b hb;exact(pin' b hb o e).2
   cases b with
   |false=>
    simp only[fm,kx]at q9⊢;exact fin I9 q9
   |true=>
    simp only[zd]at q9⊢;refine KW (pe _ s9 σ8 H9 _ I9 q9) λz s10=>W6 λyv H10=>W8 λI10 r10=>Xa λacc=>W8 λhD10 hz10 nx=>?_;exact RH (X:=X.E5 s3 H3 scope ce fp) I10 hD10 hz10 r10 λs11 I11=>fin I11 nx
 exact codeAny_compStart_list loop (T.self X.A 0 _ _ _ st4 loop)
theorem D6{elt tg iter:Expr}{ifs:List Expr}{scope:Scope}{own:List (Str×Nat)}{pos:Pos}{wi:TI}{g:TG}{tt:TT}{te:TE}(hc:X.calm=true)(hN:X.N.Nodup)(hi:PI X tg iter wi)(ok:t6 X.N X.env.scope scope own)
 (hg:∀(s:Shared)(H:Hp)(C:Addr)(cl:List (Str×Addr))(fp:List Addr),PG (X.E5 s H scope (compEnvC scope cl C X.env) fp) tg g) (ht:∀(s:Shared)(H:Hp)(C:Addr)(cl:List (Str×Addr))(fp:List Addr),Te (X.E5 s H scope (compEnvC scope cl C X.env) fp) ifs tt)
 (he:∀(s:Shared)(H:Hp)(C:Addr)(cl:List (Str×Addr))(fp:List Addr),PE (X.E5 s H scope (compEnvC scope cl C X.env) fp) elt te) (hs:∀x,foldedSetIterable iter X.env x=pure x:=by intro _;rfl):
 PE X (.ListComp elt [⟨tg,iter,ifs,0⟩] scope pos) (Us wi g tt te (own.map (·.2))):=by
 intro pins s σ H Q I h;rw[eval_ListComp];refine JX hc hN I hi ok hg ht he hs h λD C s' m H' I' q hn f=>⟨m,hn,λh'' sb=>?_⟩;revert f;refine Xb λf0 f1 f2 f3 f4 f5=>?_;exact⟨.ref D,H',I'.turned (t':=s'.toks) (λb o hb e=>(sb.2 b hb).trans e) f0 f1 f3 f4 f5,rfl,q⟩
theorem MH{i:Nat}{y:Str}{py:Pos}{elt tg iter:Expr}{ifs:List Expr}{scope:Scope}{own:List (Str×Nat)}{pos spos:Pos}{wi:TI}{g:TG}{tt:TT}{te:TE}(hc:X.calm=true)(hN:X.N.Nodup)(hy:X.N[i]?=some y)(hyl:X.env.scope.names.lookup y=some .local)
 (hsw:swapsWith (.ListComp elt [⟨tg,iter,ifs,0⟩] scope pos) (some (.Name y py)) spos.line X.env=pure true) (hi:PI X tg iter wi) (ok:t6 X.N X.env.scope scope own)
 (hg:∀(s:Shared)(H:Hp)(C:Addr)(cl:List (Str×Addr))(fp:List Addr),PG (X.E5 s H scope (compEnvC scope cl C X.env) fp) tg g) (ht:∀(s:Shared)(H:Hp)(C:Addr)(cl:List (Str×Addr))(fp:List Addr),Te (X.E5 s H scope (compEnvC scope cl C X.env) fp) ifs tt)
 (he:∀(s:Shared)(H:Hp)(C:Addr)(cl:List (Str×Addr))(fp:List Addr),PE (X.E5 s H scope (compEnvC scope cl C X.env) fp) elt te) (hs:∀x,foldedSetIterable iter X.env x=pure x:=by intro _;rfl):
 PS X (.Assign [.Name y py] (.ListComp elt [⟨tg,iter,ifs,0⟩] scope pos) spos) (Rm (Us wi g tt te (own.map (·.2))) (JL i)):=by
 intro pins s σ H D I h;rw[exec_Assign_Name_used _ _ _ _ hsw];refine ae (pK (ae ?_));show wpAny _ X.A (do let _<-comprehension (.ListComp elt [⟨tg,iter,ifs,0⟩] scope pos) scope X.env (firstIterPos [⟨tg,iter,ifs,0⟩] pos) (newList []) false (eval iter X.env) (some (assign (.Name y py) X.env))) _ _ s;have h:Us wi g tt te (own.map (·.2)) σ H (λx H1=>JL i x σ H1 D.nx):=h;refine ae (eu (JX (Qf:=λ_ s'=>SP X pins D .next s') hc hN I hi ok hg ht he hs h λL C s' m H' I' q hn f=>?_) λ_ s' hq=>aA (aA hq));show wpAny _ _ (assign (.Name y py) X.env (.ref L)) _ _ _;refine wpAny_assign_Name (DW (v:=V.ref L) I' hN hy (.inl hyl) rfl (λs2 I2=>Xa λa=>W9 λsb ha=>?_) (.inr hyl));revert f;refine Xb λf0 f1 f2 f3 f4 f5=>?_;have haC:C≠a:=by
  rcases ha with z|z
  ·rw[z];exact f1
  ·exact λe=>f4 y a z e.symm
 refine⟨m,hn.sameBut sb haC,λh3 sb3=>?_⟩;exact⟨_,H',I2.turned (t':=s2.toks) (λb o hb e=>(sb3.2 b hb).trans e) f0 f1 f3 f4 f5,q⟩
theorem O5{elt:Expr}{gs:List Comprehension}{scope:Scope}{pos py:Pos}{y:Str}{l:Nat}{env:Env}(hk:env.scope.kind= .function)(hy:env.scope.names.lookup y=some .local)(hl:(py.line==pos.line)=true)
 (ha:(scope.names.any λ(n,k)=>n==y&&(k== .local||k== .cell))=false):swapsWith (.ListComp elt gs scope pos) (some (.Name y py)) l env=pure true:=by
 have ky:env.kindOf y=some .local:=hy;have hb:env.blockKind= .function:=by unfold Env.blockKind;rw[hk];rfl
 unfold swapsWith;simp only[hb,ky,ha,Expr.pos,hl];rfl
end
theorem xU{K:PySem.W.Frag}{a:Addr}{xs:List V}{g:TG}{tt:TT}{te:TE}{vs:List Nat}{σ:St}{H1:Hp}{D:Addr}{Qd:Hp->Prop}(Pv:Nat->Hp->Prop)(h0:Pv 0 (upd H1 D (.lst [])))(hl:∀i H,i<=xs.length->Pv i H->cN K H a xs)
 (hs:∀i x H,xs[i]?=some x->Pv i H->g x (wipe σ vs) H λσ2 H2=>wipe σ2 vs=wipe σ vs/\tt σ2 H2 λb H3=>
  if b=true then te σ2 H3 λy H4=>∃acc,H4 D=some (.lst acc)/\acc.length<sizeLine/\Pv (i+1) (upd H4 D (.lst (acc++[y])))else Pv (i+1) H3) (hd:∀H,Pv xs.length H->Qd H):
 ∃W:Nat->Nat->Hp->Prop,(∃m,W 0 m (upd H1 D (.lst [])))/\∀i m H,W i m H->
  ((QB K a).stop i H/\Qd H)\/((QB K a).go i H/\∃Nx:Hp->Prop,(∀H',Nx H'->∃m',m'<m/\W (i+1) m' H')/\∀x H',(QB K a).QA i H x H'->g x (wipe σ vs) H' λσ2 H2=>wipe σ2 vs=wipe σ vs/\tt σ2 H2 λb H3=>
    if b=true then te σ2 H3 λy H4=>∃acc,H4 D=some (.lst acc)/\acc.length<sizeLine/\Nx (upd H4 D (.lst (acc++[y])))else Nx H3):=by
 refine⟨λi m H=>m=xs.length-i/\i<=xs.length/\Pv i H,⟨xs.length,by simp,br _,h0⟩,?_⟩;rintro i m H ⟨rfl,hi,p⟩;have q:=hl i H hi p;by_cases hlt:i<xs.length
 ·refine .inr ⟨⟨xs,xs[i],q,by simp[hlt]⟩,Pv (i+1),λH' p'=>⟨xs.length-(i+1),VX,rfl,hlt,p'⟩,λx H' y=>?_⟩;obtain⟨e,y⟩:=y;subst e;exact hs i x _ (y xs q) p
 ·have e:i=xs.length:=by lia
  subst e;exact .inl ⟨⟨xs,q,aH _⟩,hd H p⟩
section
variable{κ:Type}[DecidableEq κ]
noncomputable def fv(kvs:List (κ×V))(k:κ):Option V:=(kvs.find? λkv=>decide (kv.1=k)).map (·.2)
noncomputable def putK(kvs:List (κ×V))(k:κ)(v:V):List (κ×V):=
 if(kvs.any λkv=>decide (kv.1=k))=true then kvs.map (λkv=>if kv.1=k then(kv.1,v)else kv)else kvs++[(k,v)]
theorem mv{p:κ×V}{r:List (κ×V)}{k:κ}(e:p.1=k):fv (p::r) k=some p.2:=by simp[fv,c8,e]
theorem mw{p:κ×V}{r:List (κ×V)}{k:κ}(e:¬p.1=k):fv (p::r) k=fv r k:=by simp[fv,c8,e]
theorem BL(k:κ):∀kvs:List (κ×V),(kvs.any λkv=>decide (kv.1=k))=(fv kvs k).isSome
 |[]=>rfl
 |p::r=>by
  rw[tz];by_cases e:p.1=k
  ·simp only[mv e,au e,Bool.true_or,Option.isSome_some]
  ·rw[mw e,aQ e,Ai];exact BL k r
theorem ua(kvs:List (κ×V))(k:κ)(v:V):(putK kvs k v).length<=kvs.length+1:=by
 unfold putK;split
 ·rw[ay];lia
 ·rw[aE,aT,Qt];lia
theorem xV{kvs:List (κ×V)}{k:κ}(v:V)(h:fv kvs k=none):putK kvs k v=kvs++[(k,v)]:=by
 unfold putK;rw[BL,h];exact ah VW
theorem lZ.mi{o:Option V}{u:Option Value}(r:lZ o u):o.isSome=u.isSome:=by
 cases o with
 |none=>cases u with
  |none=>rfl
  |some _=>exact(show False from r).elim
 |some _=>cases u with
  |none=>exact(show False from r).elim
  |some _=>rfl
theorem KV.val{kvs:List (κ×V)}{vs:List (κ×Value)}(r:KV kvs vs)(k:κ):lZ (fv kvs k) (valueAt vs k):=by
 unfold KV at r
 induction r with
 |nil=>exact True.intro
 |@cons p q ps qs h t ih=>
  obtain⟨h1,h2⟩:=h;by_cases e:p.1=k
  ·have e':q.1=k:=h1.symm.trans e;have b:valueAt (q::qs) k=some q.2:=by simp[valueAt,c8,e']
   rw[mv e,b];exact h2
  ·have e':¬q.1=k:=λz=>e (h1.trans z);have b:valueAt (q::qs) k=valueAt qs k:=by simp[valueAt,c8,e']
   rw[mw e,b];exact ih
theorem KV.any{kvs:List (κ×V)}{vs:List (κ×Value)}(r:KV kvs vs)(k:κ):(kvs.any λkv=>decide (kv.1=k))=vs.any λkv=>decide (kv.1=k):=by
 unfold KV at r
 induction r with
 |nil=>rfl
 |cons h t ih=>rw[tz,tz,ih,h.1]
theorem KV.RI{kvs:List (κ×V)}{vs:List (κ×Value)}(r:KV kvs vs)(k:κ){y:V}{u:Value}(ry:RelV y u):
 KV (kvs.map λkv=>if kv.1=k then(kv.1,y)else kv) (vs.map λkv=>if kv.1=k then(kv.1,u)else kv):=by
 unfold KV at r⊢
 induction r with
 |nil=>exact .nil
 |@cons p q ps qs h t ih=>
  rw[bW,bW];refine .cons ?_ ih;obtain⟨h1,h2⟩:=h;by_cases e:p.1=k
  ·rw[ao e,ao (h1.symm.trans e)];exact⟨h1,ry⟩
  ·rw[ah e,ah (λz=>e (h1.trans z))];exact⟨h1,h2⟩
theorem KV.put{kvs:List (κ×V)}{vs:List (κ×Value)}(r:KV kvs vs)(k:κ){y:V}{u:Value}(ry:RelV y u):KV (putK kvs k y) (stored vs k u):=by
 unfold putK stored;rw[r.any k];by_cases e:(vs.any λkv=>decide (kv.1=k))=true
 ·rw[ao e,ao e];exact r.RI k ry
 ·rw[ah e,ah e];exact Paired.snoc r ⟨rfl,ry⟩
theorem KV.length{kvs:List (κ×V)}{vs:List (κ×Value)}(r:KV kvs vs):kvs.length=vs.length:=pJ r
end
theorem Ap{P:Program}{w:World}{k:Key}{u:Value}(r:RelV (kV k) u):(dG P w).is k u=true:=by
 cases k with
 |inl i=>obtain⟨t,e⟩:=(show∃t,u=Value.int i t from r);subst e;exact Al P w i t
 |inr x=>obtain⟨t,e⟩:=(show∃t,u=Value.str x t from r);subst e;exact Gc P w x t
theorem D7{P:Program}{w:World}:∀{ks:List Key}{us:List Value},cE (ks.map kV) us->ItemsAre (dG P w) ks us
 |[],_,r=>by rw[C9]at r;cases r;exact .nil
 |k::ks,_,r=>by
  rw[bW]at r;cases r with
  |cons h t=>exact .cons (Ap h) (D7 t)
abbrev KT(H:Hp):List (List Key×V)->List (List Key×Addr×Value)->Prop:=Paired λp q=>p.1=q.1/\H q.2.1=some (.tup (p.1.map kV))/\RelV p.2 q.2.2
theorem KT.val{H:Hp}{kvs:List (List Key×V)}{xs:List (List Key×Addr×Value)}(r:KT H kvs xs)(k:List Key):lZ (fv kvs k) ((atKey xs k).map (·.2)):=by
 induction r with
 |nil=>exact True.intro
 |@cons p q ps qs h t ih=>
  obtain⟨h1,_,h2⟩:=h;by_cases e:p.1=k
  ·have e':q.1=k:=h1.symm.trans e;have b:atKey (q::qs) k=some q.2:=by simp[atKey,c8,e']
   rw[mv e,b];exact h2
  ·have e':¬q.1=k:=λz=>e (h1.trans z);have b:atKey (q::qs) k=atKey qs k:=by simp[atKey,c8,e']
   rw[mw e,b];exact ih
theorem KT.RI{H:Hp}{kvs:List (List Key×V)}{xs:List (List Key×Addr×Value)}(r:KT H kvs xs)(k:List Key){y:V}{u:Value}(ry:RelV y u):
 KT H (kvs.map λkv=>if kv.1=k then(kv.1,y)else kv) (xs.map (putAt k u)):=by
 induction r with
 |nil=>exact .nil
 |@cons p q ps qs h t ih=>
  rw[bW,bW];refine .cons ?_ ih;obtain⟨h1,h2,h3⟩:=h;unfold putAt;by_cases e:p.1=k
  ·rw[ao e,ao (h1.symm.trans e)];exact⟨h1,h2,ry⟩
  ·rw[ah e,ah (λz=>e (h1.trans z))];exact⟨h1,h2,h3⟩
theorem KT.put{H:Hp}{kvs:List (List Key×V)}{xs:List (List Key×Addr×Value)}(r:KT H kvs xs)(k:List Key){b:Addr}{y:V}{u:Value}(hb:H b=some (.tup (k.map kV)))(ry:RelV y u):
 KT H (putK kvs k y) (storedH xs k b u):=by
 have e:(kvs.any λkv=>decide (kv.1=k))=(atKey xs k).isSome:=by
  rw[BL,(r.val k).mi,LR]
 unfold putK storedH;rw[e];by_cases q:(atKey xs k).isSome=true
 ·rw[ao q,ao q];exact r.RI k ry
 ·rw[ah q,ah q];exact Paired.snoc r ⟨rfl,hb,ry⟩
theorem KT.keeps{H H':Hp}{kvs:List (List Key×V)}{xs:List (List Key×Addr×Value)}(r:KT H kvs xs)(ht:∀b ys,H b=some (.tup ys)->H' b=some (.tup ys)):KT H' kvs xs:=
 Paired.Rg r λ_ _ z=>⟨z.1,ht _ _ z.2.1,z.2.2⟩
section
variable{P:Program}{w:World}{H:Hp}{h:Heap}{a:Addr}
theorem QE{u:HO}(ok:sr P w H h)(e:Rd H a u):eI P w H h a u:=e.ok ok
theorem Gp{kvs:List (Key×V)}(ok:sr P w H h)(e:Rd H a (.dK kvs)):kvs.length<=sizeLine/\(a==sysModules)=false/\∃vs,KV kvs vs/\h.DictOf (dG P w) a vs:=
 show eI P w H h a (.dK kvs)from QE ok e
theorem QF{kvs:List (Key×V)}(ok:sr P w H h)(e:H a=some (.dK kvs)):kvs.length<=sizeLine/\(a==sysModules)=false/\∃vs,KV kvs vs/\h.DictOf (dG P w) a vs:=Gp ok (.inl e)
theorem BM{ks:List Key}(ok:sr P w H h)(e:H a=some (.tup (ks.map kV))):(tupleKind (dG P w)).is h ks a:=by
 obtain⟨_,its,r,o,h1,h2,n,h3⟩:=(show eI P w H h a (.tup (ks.map kV))from ok a _ e);exact⟨o,its.toArray,n,h1,h2,h3,by simpa using D7 r⟩
theorem Gq{kvs:List (List Key×V)}(ok:sr P w H h)(e:Rd H a (.dT kvs)):kvs.length<=sizeLine/\(a==sysModules)=false/\
 ∃xs,KT H kvs xs/\h.DictOfH (tupleKind (dG P w)) a xs:=by
 obtain⟨z,y,xs,r,o,es,ep,h1,h2,h3,h4,h5⟩:=(show eI P w H h a (.dT kvs)from QE ok e);refine⟨z,y,xs,r,o,es,ep,h1,h2,h3,h4,λx hx=>?_,h5⟩;have all:∀{l:List (List Key×V)}{m:List (List Key×Addr×Value)},KT H l m->∀x∈m,(tupleKind (dG P w)).is h x.1 x.2.1:=by
  intro l m q
  induction q with
  |nil=>intro x hx;exact nomatch hx
  |@cons p q ps qs hq t ih=>
   intro x hx;rcases List.mem_cons.mp hx with e|hx
   ·subst e;exact BM ok (by rw[<-hq.1];exact hq.2.1)
   ·exact ih x hx
 exact all r x hx
theorem Tf{kvs:List (List Key×V)}(ok:sr P w H h)(e:H a=some (.dT kvs)):kvs.length<=sizeLine/\(a==sysModules)=false/\
 ∃xs,KT H kvs xs/\h.DictOfH (tupleKind (dG P w)) a xs:=Gq ok (.inl e)
end
def tF(H:Hp)(a:Addr)(y:V)(r:Option V):Prop:=
 (∃kvs k,Rd H a (.dK kvs)/\y=kV k/\r=fv kvs k)\/∃kvs k b,Rd H a (.dT kvs)/\y= .ref b/\H b=some (.tup (k.map kV))/\r=fv kvs k
def Dt(H:Hp)(a:Addr)(y v:V)(H':Hp):Prop:=
 (∃kvs k,H a=some (.dK kvs)/\y=kV k/\kvs.length<sizeLine/\H'=upd H a (.dK (putK kvs k v)))\/
 ∃kvs k b,H a=some (.dT kvs)/\y= .ref b/\H b=some (.tup (k.map kV))/\kvs.length<sizeLine/\H'=upd H a (.dT (putK kvs k v))
theorem tF.k{H:Hp}{a:Addr}{kvs:List (Key×V)}{k:Key}(e:H a=some (.dK kvs)):tF H a (kV k) (fv kvs k):= .inl ⟨kvs,k,.inl e,rfl,rfl⟩
theorem tF.t{H:Hp}{a b:Addr}{kvs:List (List Key×V)}{k:List Key}(e:H a=some (.dT kvs))(eb:H b=some (.tup (k.map kV))):tF H a (.ref b) (fv kvs k):= .inr ⟨kvs,k,b,.inl e,rfl,eb,rfl⟩
theorem Dt.k{H:Hp}{a:Addr}{kvs:List (Key×V)}{k:Key}{v:V}(e:H a=some (.dK kvs))(hl:kvs.length<sizeLine):Dt H a (kV k) v (upd H a (.dK (putK kvs k v))):= .inl ⟨kvs,k,e,rfl,hl,rfl⟩
theorem Dt.t{H:Hp}{a b:Addr}{kvs:List (List Key×V)}{k:List Key}{v:V}(e:H a=some (.dT kvs))(eb:H b=some (.tup (k.map kV)))(hl:kvs.length<sizeLine):
 Dt H a (.ref b) v (upd H a (.dT (putK kvs k v))):= .inr ⟨kvs,k,b,e,rfl,eb,hl,rfl⟩
section
variable{X:Cx}{pins:List (Addr×Obj)}{σ:St}{H:Hp}{s:Shared}{a:Addr}{y v:V}{u r:Value}{o:Option V}{A:Around}{E:Value->Shared->Prop}
theorem Inv.Vr(I:Inv X pins σ H s):sysModules<s.heap.objs.size:=by
 have h:mainGlobals<s.heap.objs.size:=(I.mod.glob.keeps I.bk).lt;exact Nat.lt_trans VW h
theorem KY{Q:Value->Shared->Prop}(hu:A.units+1<cLine)(I:Inv X pins σ H s)(g:tF H a y (some v))(ry:RelV y u)(h:∀w' s',Inv X pins σ H s'->RelV v w'->Q w' s'):
 wpAny (model X.prog X.w) A (getItem (.ref a) u) Q E s:=by
 rcases g with⟨kvs,k,e,ey,l⟩|⟨kvs,k,b,e,ey,eb,l⟩
 ·subst ey;obtain⟨z,hd,vs,rel,dd⟩:=Gp I.dI e;obtain⟨w',hw,rw'⟩:=lZ.some_of (v:=v) (o:=valueAt vs k) (by rw[l];exact rel.val k);exact wpAny_getItem_of (Ap ry) dd.mapOf hw (h w' _ (I.tok _) rw')
 ·subst ey;cases(show u=Value.ref b from ry);obtain⟨z,hd,xs,rel,dd⟩:=Gq I.dI e;obtain⟨w',hw,rw'⟩:=lZ.some_of (v:=v) (o:=(atKey xs k).map (·.2)) (by rw[l];exact rel.val k);obtain⟨p,hp,hp2⟩:=Option.map_eq_some_iff.mp hw;refine wpAny_getItem_heap (Bd hu) (BM I.dI eb) dd hp ?_;rw[hp2];exact h w' _ (I.tok _) rw'
theorem U8{Q:Value->Shared->Prop}(hu:A.units+1<cLine)(I:Inv X pins σ H s)(g:tF H a y o)(ry:RelV y u)(h:∀s',Inv X pins σ H s'->Q (.bool o.isSome) s'):
 wpAny (model X.prog X.w) A (compareOp .In u (.ref a)) Q E s:=by
 rcases g with⟨kvs,k,e,ey,l⟩|⟨kvs,k,b,e,ey,eb,l⟩
 ·subst ey;obtain⟨z,hd,vs,rel,dd⟩:=Gp I.dI e;refine wpAny_in_of (Ap ry) hd dd.mapOf ?_;rw[<-(rel.val k).mi,<-l];exact h _ (I.tok _)
 ·subst ey;cases(show u=Value.ref b from ry);obtain⟨z,hd,xs,rel,dd⟩:=Gq I.dI e;refine wpAny_in_heap (Bd hu) (BM I.dI eb) hd dd ?_;have q:=(rel.val k).mi;rw[LR]at q;rw[<-q,<-l];exact h _ (I.tok _)
theorem O6{Q:Value->Shared->Prop}(hu:A.units+1<cLine)(I:Inv X pins σ H s)(g:tF H a y o)(ry:RelV y u)(h:∀s',Inv X pins σ H s'->Q (.bool (!o.isSome)) s'):
 wpAny (model X.prog X.w) A (compareOp .NotIn u (.ref a)) Q E s:=by
 rcases g with⟨kvs,k,e,ey,l⟩|⟨kvs,k,b,e,ey,eb,l⟩
 ·subst ey;obtain⟨z,hd,vs,rel,dd⟩:=Gp I.dI e;refine wpAny_notIn_of (Ap ry) hd dd.mapOf ?_;rw[<-(rel.val k).mi,<-l];exact h _ (I.tok _)
 ·subst ey;cases(show u=Value.ref b from ry);obtain⟨z,hd,xs,rel,dd⟩:=Gq I.dI e;refine wpAny_notIn_heap (Bd hu) (BM I.dI eb) hd dd ?_;have q:=(rel.val k).mi;rw[LR]at q;rw[<-q,<-l];exact h _ (I.tok _)
theorem E7{h':Heap}{t':Nat}{ob:HO}(I:Inv X pins σ H s)(mu:Qw (H a))(hs:Heap.SameBut a s.heap h')(he:∃q,h'.get? a=some q)(new:eI X.prog X.w (upd H a ob) h' a ob):
 Inv X pins σ (upd H a ob) {s with heap:=h',toks:=t'}:=
 I.write (x:=a) (e:=a) mu (.inl rfl) (λb q hb z=>(hs.2 b hb).trans z) he new
theorem MI{P:Program}{w:World}{H':Hp}{h':Heap}{kvs:List (Key×V)}{vs:List (Key×Value)}(z:kvs.length<=sizeLine)(hd:(a==sysModules)=false)(rel:KV kvs vs)(dd:h'.DictOf (dG P w) a vs):
 eI P w H' h' a (.dK kvs):=⟨z,hd,vs,rel,dd⟩
theorem KZ{H':Hp}{Q:Unit->Shared->Prop}(hu:A.units+1<cLine)(I:Inv X pins σ H s)(g:Dt H a y v H')(ry:RelV y u)(rv:RelV v r)(h:∀s',Inv X pins σ H' s'->Q () s'):
 wpAny (model X.prog X.w) A (setItem (.ref a) u r) Q E s:=by
 rcases g with⟨kvs,k,e,ey,l,eH⟩|⟨kvs,k,b,e,ey,eb,l,eH⟩
 ·subst ey eH;obtain⟨z,hd,vs,rel,dd⟩:=QF I.dI e;have hz:vs.length<=sizeLine:=by rw[<-rel.length];exact z
  have hl:(putK kvs k v).length<=sizeLine:=by have:=ua kvs k v;lia
  refine wpAny_setItem_pairs (hsz:=hz) (Ap ry) dd λh' dd' hs=>h _ ?_;have he:∃q,h'.get? a=some q:=let⟨q,_,_,hq,_⟩:=dd';⟨q,hq⟩;exact E7 I (by rw[e];exact True.intro) hs he (MI hl hd (rel.put k rv) dd')
 ·subst ey eH;cases(show u=Value.ref b from ry);obtain⟨z,hd,xs,rel,dd⟩:=Tf I.dI e;have hz:xs.length<=sizeLine:=by rw[<-pJ rel];exact z
  have hl:(putK kvs k v).length<=sizeLine:=by have:=ua kvs k v;lia
  refine wpAny_setItem_heap (hsz:=hz) (Bd hu) (BM I.dI eb) dd λh' dd' hs=>h _ ?_;obtain⟨q,es,ep,hq,h2,h3,h4,_,h5⟩:=dd';refine E7 I (by rw[e];exact True.intro) hs ⟨q,hq⟩ ⟨hl,hd,_,(rel.put k eb rv).keeps λc ys ec=>?_,q,es,ep,hq,h2,h3,h4,h5⟩;rw[bt (cn ec e (λz=>nomatch z))];exact ec
end
def RJ(i:Expr):Prop:=∀ov iv,subscripted i false ov iv=operate [ov,iv] (getItem ov iv)
theorem JY{prog:Program}{w:World}{A:Around}{E:Value->Shared->Prop}{s:Shared}{env:Env}{value slice:Expr}{pos:Pos}{T id:String}{Q:Value->Shared->Prop}
 (hl:typeLookup (.type T) "__getitem__"=pure (some (.builtin id))) (hs:RJ slice)
 (h:wpAny (model prog w) A (eval value env) (λo s₁=>wpAny (model prog w) A (eval slice env) (λi s₂=>s₂.TypeIs o T/\wpAny (model prog w) A (getItem o i) Q E s₂) E s₁) E s):
 wpAny (model prog w) A (eval (.Subscript value slice pos) env) Q E s:=by
 refine Subscript_ (dN h (λo s₁ h₁=>dN h₁ (λi s₂ h₂=>?_) λ_ _ x=>x) λ_ _ x=>x);obtain⟨hT,h₂⟩:=h₂;unfold subscriptTail;refine ae ?_;rw[getitemInPython_of_ne hT.not_modules];refine ae (wpAny_specialOf hT hl ?_);have fin:wpAny (model prog w) A (subscripted slice false o i) (λr s₃=>wpAny (model prog w) A (letTemporaryGo value o r>>=λ_=>pure r) Q E s₃) E s₂:=by
  rw[hs o i];exact wpAny_operating (dN h₂ (λr s₃ h₃=>ae (wpAny_letTemporaryGo (aA h₃))) λ_ _ x=>x)
 first
  |exact aA (ae fin)
  |exact ae (aA (ae fin))
  |exact ae fin
theorem Gr{X:Cx}{pins:List (Addr×Obj)}{σ:St}{H:Hp}{s:Shared}{a:Addr}{y:V}{o:Option V}(I:Inv X pins σ H s)(g:tF H a y o):s.TypeIs (.ref a) "dict":=by
 rcases g with⟨kvs,k,e,_,_⟩|⟨kvs,k,b,e,_,_,_⟩
 ·obtain⟨_,_,vs,_,dd⟩:=Gp I.dI e;exact dd.typeIs
 ·obtain⟨_,_,xs,_,dd⟩:=Gq I.dI e;exact dd.typeIs
def Tg(td ty:TE):TE:=λσ H Q=>td σ H λx H1=>ty σ H1 λy H2=>∃a v,x= .ref a/\tF H2 a y (some v)/\Q v H2
def U9(ty td:TE):TE:=λσ H Q=>ty σ H λy H1=>td σ H1 λx H2=>∃a o,x= .ref a/\tF H2 a y o/\Q (.bl o.isSome) H2
def O7(ty td:TE):TE:=λσ H Q=>ty σ H λy H1=>td σ H1 λx H2=>∃a o,x= .ref a/\tF H2 a y o/\Q (.bl (!o.isSome)) H2
def Th(td ty tv:TE):TS:=λD σ H=>tv σ H λv H1=>td σ H1 λx H2=>ty σ H2 λy H3=>∃a H4,x= .ref a/\Dt H3 a y v H4/\D.nx σ H4
section
variable{X:Cx}{o i e value:Expr}{pos pos' tpos:Pos}{td ty tv:TE}
theorem E8(hu:X.A.units+1<cLine)(ho:PE X o td)(hi:PE X i ty)(hs:RJ i):PE X (.Subscript o i pos) (Tg td ty):=by
 intro pins s σ H Q I h;refine JY PySem.F.slot_dict_getitem.lookup hs (eu (ho pins s σ H _ I h) λu s1 ⟨x,H1,I1,rx,q1⟩=>eu (hi pins s1 σ H1 _ I1 q1) λiv s2=>W6 λy H2=>W8 λI2 ry=>W6 λa v=>W8 λex g q2=>?_);subst ex;obtain rfl:u=Value.ref a:=rx;exact⟨Gr I2 g,KY hu I2 g ry λw' s3 I3 rw'=>⟨v,H2,I3,rw',q2⟩⟩
theorem RK(hu:X.A.units+1<cLine)(hi:PE X i ty)(ho:PE X o td):PC X .In i o (U9 ty td):=by
 intro pins s σ H Q I h;refine eu (hi pins s σ H _ I h) λiv s1 ⟨y,H1,I1,ry,q1⟩=>eu (ho pins s1 σ H1 _ I1 q1) λu s2=>W6 λx H2=>W8 λI2 rx=>W6 λa ov=>W8 λex g q2=>?_;subst ex;obtain rfl:u=Value.ref a:=rx;exact U8 hu I2 g ry λs3 I3=>⟨.bl ov.isSome,H2,I3,rfl,q2⟩
theorem zu(hu:X.A.units+1<cLine)(hi:PE X i ty)(ho:PE X o td):PC X .NotIn i o (O7 ty td):=by
 intro pins s σ H Q I h;refine eu (hi pins s σ H _ I h) λiv s1 ⟨y,H1,I1,ry,q1⟩=>eu (ho pins s1 σ H1 _ I1 q1) λu s2=>W6 λx H2=>W8 λI2 rx=>W6 λa ov=>W8 λex g q2=>?_;subst ex;obtain rfl:u=Value.ref a:=rx;exact O6 hu I2 g ry λs3 I3=>⟨.bl (!ov.isSome),H2,I3,rfl,q2⟩
theorem Bk(hu:X.A.units+1<cLine)(ho:PE X o td)(hi:PE X i ty)(hv:PE X value tv)(hs:swapsWith value (some (.Subscript o i pos')) pos.line X.env=pure false):
 PS X (.Assign [.Subscript o i pos'] value pos) (Th td ty tv):=by
 intro pins s σ H D I h;refine wpAny_Assign_Subscript (eu (hv pins s σ H _ I h) λr s1 ⟨v,H1,I1,rv,q1⟩=>eu (ho pins s1 σ H1 _ I1 q1) λu s2 ⟨x,H2,I2,rx,q2⟩=>eu (hi pins s2 σ H2 _ I2 q2) λiv s3=>W6 λy H3=>W8 λI3 ry=>W6 λa H4=>W8 λex g q3=>?_) hs;subst ex;obtain rfl:u=Value.ref a:=rx;exact KZ hu I3 g ry rv λs4 I4=>⟨σ,H4,I4,q3⟩
end
theorem MJ{P:Program}{w:World}{H:Hp}(h:Heap)(hb:sysModules<h.objs.size):eI P w H (h.push {cls:= .type "dict",data:= .dict #[]}) h.objs.size (.dK []):=
 ⟨br _,beq_eq_false_iff_ne.mpr (bh (bZ hb)),[],.nil,Heap.DictOf.new h⟩
theorem MK{P:Program}{w:World}{H:Hp}(h:Heap)(hb:sysModules<h.objs.size):eI P w H (h.push {cls:= .type "dict",data:= .dict #[]}) h.objs.size (.dT []):=
 ⟨br _,beq_eq_false_iff_ne.mpr (bh (bZ hb)),[],.nil,_,#[],0,aW _ rfl,⟨rfl,rfl,rfl⟩,rfl,rfl,List.nodup_nil⟩
def RL:TE:=λ_ H Q=>∀p,H p=none->Q (.ref p) (upd H p (.dT []))
section
variable{X:Cx}{pos:Pos}
theorem xW:PE X (.Dict [] [] pos) RL:=λpins s σ H Q I h=>
 wpAny_Dict_empty ⟨.ref s.heap.objs.size,_,I.laid (a:=s.heap.objs.size) (o:= .dT []) (t':=s.toks) (λ_ _ q=>aG _ q) (aH _) (MK s.heap I.Vr),rfl,h _ (I.dI.fresh (aH _))⟩
end
def Iq:List (TE×TE)->St->Hp->(List (V×V)->Hp->Prop)->Prop
 |[],_,H,Q=>Q [] H
 |(tk,tv)::r,σ,H,Q=>tk σ H λx H1=>tv σ H1 λy H2=>Iq r σ H2 λps H3=>Q ((x,y)::ps) H3
abbrev VV:List (V×V)->List (Value×Value)->Prop:=Paired λp q=>RelV p.1 q.1/\RelV p.2 q.2
def Ut(X:Cx)(pos:Pos)(keys:List (Option Expr))(values:List Expr)(trs:List (TE×TE)):Prop:=
 ∀(pins:List (Addr×Obj))(s:Shared)(σ:St)(H:Hp)(Q:List (V×V)->Hp->Prop),Inv X pins σ H s->Iq trs σ H Q->
  wpAny (model X.prog X.w) X.A (evalPairs (pairTrees keys values X.env pos)) (λvs s'=>∃ps H',Inv X pins σ H' s'/\VV ps vs/\Q ps H') X.xe s
theorem O8{X:Cx}{pos:Pos}:Ut X pos [] [] []:=λpins s σ H Q I h=>pairTrees_nil_walk ⟨[],H,I,.nil,h⟩
theorem ML{X:Cx}{pos:Pos}{k v:Expr}{ks:List (Option Expr)}{vs:List Expr}{tk tv:TE}{trs:List (TE×TE)}(hk:PE X k tk)(hv:PE X v tv)(hr:Ut X pos ks vs trs):
 Ut X pos (some k::ks) (v::vs) ((tk,tv)::trs):=λpins s σ H Q I h=>
 pairTrees_cons_walk (eu (hk pins s σ H _ I h) λu s1 ⟨x,H1,I1,rx,q1⟩=>eu (hv pins s1 σ H1 _ I1 q1) λw2 s2 ⟨y,H2,I2,ry,q2⟩=>
  eu (hr pins s2 σ H2 _ I2 q2) λws s3 ⟨ps,H3,I3,rel,q3⟩=>⟨(x,y)::ps,H3,I3,.cons ⟨rx,ry⟩ rel,q3⟩)
noncomputable def qX(kvs more:List (Key×V)):List (Key×V):=more.foldl (λacc kv=>putK acc kv.1 kv.2) kvs
theorem KV.merge:∀{more:List (Key×V)}{rs:List (Key×Value)}{kvs:List (Key×V)}{vs:List (Key×Value)},KV more rs->KV kvs vs->KV (qX kvs more) (merged vs rs):=by
 intro more rs kvs vs r;unfold KV at r
 induction r generalizing kvs vs with
 |nil=>intro q;exact q
 |@cons p q ps qs h t ih=>
  intro r0;have e:KV (putK kvs p.1 p.2) (stored vs q.1 q.2):=by
   have:=r0.put p.1 h.2;rw[<-h.1];exact this
  exact ih e
theorem vX:∀(more kvs:List (Key×V)),(qX kvs more).length<=kvs.length+more.length
 |[],kvs=>by show kvs.length<=kvs.length+0;lia
 |p::r,kvs=>by
  have h1:=vX r (putK kvs p.1 p.2);have h2:=ua kvs p.1 p.2;show(qX (putK kvs p.1 p.2) r).length<=_;rw[aT];lia
theorem BN{P:Program}{w:World}:∀{kvs:List (Key×V)}{ws:List (Value×Value)},VV (kvs.map λkv=>(kV kv.1,kv.2)) ws->∃rs,Carries (dG P w) ws rs/\KV kvs rs
 |[],_,r=>by rw[C9]at r;cases r;exact⟨[],True.intro,.nil⟩
 |p::kvs,_,r=>by
  rw[bW]at r;cases r with
  |@cons a b as bs h t=>
   obtain⟨rs,c,q⟩:=BN (P:=P) (w:=w) t;obtain⟨b1,b2⟩:=b;exact⟨(p.1,b2)::rs,⟨Ap h.1,rfl,c⟩,.cons ⟨rfl,h.2⟩ q⟩
def Ti(trs:List (TE×TE)):TE:=λσ H Q=>∀p,H p=none->Iq trs σ (upd H p (.dK [])) λps H2=>H2 p=some (.dK [])/\∃kvs:List (Key×V),ps=kvs.map (λkv=>(kV kv.1,kv.2))/\kvs.length<=15/\Q (.ref p) (upd H2 p (.dK (qX [] kvs)))
theorem O9{X:Cx}{pos:Pos}{keys:List (Option Expr)}{values:List Expr}{trs:List (TE×TE)}(h:Ut X pos keys values trs)(hall:keys.all (·.isSome)=true)(hl:keys.length=values.length)(h0:keys≠[])
 (h15:keys.length<=15):PE X (.Dict keys values pos) (Ti trs):=by
 intro pins s σ H Q I q;have hn:=I.dI.fresh (aH s.heap.objs.size);have I1:=I.laid (a:=s.heap.objs.size) (o:= .dK []) (h':=s.heap.push {cls:= .type "dict",data:= .dict #[]}) (t':=s.toks) (λ_ _ q=>aG _ q) (aH _) (MJ s.heap I.Vr);refine wpAny_Dict_walk (knd:=dG X.prog X.w) hall hl h0 h15 (eu (h pins _ σ _ _ I1 (q _ hn)) λws s2 h_0=>?_);obtain⟨ps,H2,I2,rel,e,kvs,ep,lk,q2⟩:=h_0;subst ep;obtain⟨rs,c,rk⟩:=BN (P:=X.prog) (w:=X.w) rel;obtain⟨z,hd,vs0,r0,dd⟩:=QF I2.dI e;cases r0;refine⟨rs,c,dd,λh' dd' hs=>⟨.ref s.heap.objs.size,_,?_,rfl,q2⟩⟩;have hz:(qX [] kvs).length<=sizeLine:=by
  have h1:=vX kvs [];rw[Qt]at h1;rw[aM];lia
 have he:∃q,h'.get? s.heap.objs.size=some q:=let⟨q,_,_,hq,_⟩:=dd';⟨q,hq⟩;exact E7 I2 (by rw[e];exact True.intro) hs he (MI hz hd (rk.merge .nil) dd')
section
variable{X:Cx}{pins:List (Addr×Obj)}{σ:St}{H:Hp}{s:Shared}{h':Heap}
theorem Inv.lock{d:Addr}{u:HO}(I:Inv X pins σ H s)(h:H d=some u)(mu:Qw (some u)):∃od,Inv X pins σ (upd H d (.j0 od u)) s:=by
 have x:=I.dI d u h;have ex:∃od,s.heap.get? d=some od:=by
  cases u with
  |lst xs=>obtain⟨_,_,_,_,e⟩:=x;exact⟨_,e⟩
  |dK kvs=>obtain⟨_,_,_,_,o,_,_,e,_⟩:=x;exact⟨o,e⟩
  |dT kvs=>obtain⟨_,_,_,_,o,_,_,e,_⟩:=x;exact⟨o,e⟩
  |set S n=>obtain⟨o,_,_,_,e,_⟩:=x;exact⟨o,e⟩
  |ins C dx fs=>obtain⟨_,_,_,e,_⟩:=x;exact⟨_,e⟩
  |ext φ=>obtain⟨_,⟨_,e⟩,_⟩:=x;exact⟨_,e⟩
  |_=>exact False.elim mu
 obtain⟨od,e⟩:=ex;have new:eI X.prog X.w (upd H d (.j0 od u)) s.heap d (.j0 od u):=by
  refine⟨e,x.tE (λb v _ q=>q) (λb q=>?_) λb xs q=>?_⟩
  ·rw[bt (λz=>by rw[z,h]at q;cases q;exact mu)];exact q
  ·rw[bt (λz=>by rw[z,h]at q;cases q;exact mu)];exact q
 exact⟨od,I.write (x:=d) (e:=d) (t':=s.toks) (h':=s.heap) (by rw[h];exact mu) (.inl rfl) (λb v _ q=>q) ⟨od,e⟩ new⟩
theorem Inv.JZ{d:Addr}{u:HO}(I:Inv X pins σ H s)(h:H d=some u)(mu:Qw (some u)):∀o' u',X.Rh d≠some (.j0 o' u'):=λo' u' e=>by
 have q:=I.base.zl d o' u' e;rw[h]at q;cases q;exact mu
theorem Inv.unlock{d:Addr}{od:Obj}{u:HO}(I:Inv X pins σ H s)(h:H d=some (.j0 od u))(hn:∀o' u',X.Rh d≠some (.j0 o' u')):Inv X pins σ (upd H d u) s:=by
 have neH:∀b o,H b=some o->(∀o' u',o≠ .j0 o' u')->b≠d:=λb o e hne z=>by
  rw[z,h]at e;cases e;exact hne _ _ rfl
 have neN:∀b,H b=none->b≠d:=λb e z=>by rw[z,h]at e;cases e
 refine⟨I.ok,I.os,I.bare,⟨I.base.keep,I.base.slot,λb o e n hx=>?_,I.base.there,λb xs e=>?_,λb o x e=>?_,λb ps e=>?_⟩,I.loc,I.cell,?_,λx c e=>?_,λp hp=>?_,λb o e=>?_,I.len⟩
 ·rw[bt (neN b (I.base.free b o e n hx))];exact I.base.free b o e n hx
 ·have q:=I.base.By b xs e;rw[bt (neH b _ q (λ_ _ z=>nomatch z))];exact q
 ·have q:=I.base.zl b o x e;rw[bt (λz=>by rw[z]at e;exact hn _ _ e)];exact q
 ·obtain⟨m,q⟩:=I.base.Bz b ps e;exact⟨m,by rw[bt (neH b _ q (λ_ _ z=>nomatch z))];exact q⟩
 ·rw[bt (neN _ I.free)];exact I.free
 ·rw[bt (neN c (I.kJ x c e))];exact I.kJ x c e
 ·obtain⟨e,n,r⟩:=I.pin p hp;exact⟨e,by rw[bt (neN _ n)];exact n,r⟩
 ·by_cases hb:b=d
  ·rw[hb,aC]at e;cases e;rw[hb];obtain⟨_,x⟩:=I.dI d _ h;exact x.tE (λc v _ q=>q) (λc q=>by rw[bt (neH c _ q (λ_ _ z=>nomatch z))];exact q) λc xs q=>by rw[bt (neH c _ q (λ_ _ z=>nomatch z))];exact q
  ·rw[bt hb]at e;exact(I.dI b o e).tE (λc v _ q=>q) (λc q=>by rw[bt (neH c _ q (λ_ _ z=>nomatch z))];exact q) λc xs q=>by rw[bt (neH c _ q (λ_ _ z=>nomatch z))];exact q
end
def Tj(t:TS):TS:=λD σ H=>∃d u,H d=some u/\Qw (some u)/\∀od,t ⟨λσ' H'=>H' d=some (.j0 od u)/\D.nx σ' (upd H' d u),λv H'=>H' d=some (.j0 od u)/\D.rt v (upd H' d u),λσ' H'=>H' d=some (.j0 od u)/\D.bk σ' (upd H' d u),λσ' H'=>H' d=some (.j0 od u)/\D.ct σ' (upd H' d u)⟩ σ (upd H d (.j0 od u))
section
variable{X:Cx}
theorem J0{st:Stmt}{t:TS}(h:PS X st t):PS X st (Tj t):=by
 intro pins s σ H D I hw;obtain⟨d,u,hd,mu,hw⟩:=hw;obtain⟨od,I1⟩:=I.lock hd mu;refine eu (h pins s σ _ _ I1 (hw od)) λf s1 q=>?_;cases f with
 |next=>obtain⟨σ',H',I2,e,q⟩:=q;exact⟨σ',_,I2.unlock e (I.JZ hd mu),q⟩
 |brk=>obtain⟨σ',H',I2,e,q⟩:=q;exact⟨σ',_,I2.unlock e (I.JZ hd mu),q⟩
 |cont=>obtain⟨σ',H',I2,e,q⟩:=q;exact⟨σ',_,I2.unlock e (I.JZ hd mu),q⟩
 |ret v=>obtain⟨x,σ',H',I2,r,e,q⟩:=q;exact⟨x,σ',_,I2.unlock e (I.JZ hd mu),r,q⟩
theorem E9{tg:Expr}{pins:List (Addr×Obj)}{σ:St}{H:Hp}{s:Shared}{R:It->Hp->Prop}{J:It}{tn:Nat->Heap->Prop}{tk:Nat}(I:Inv X pins σ H s)(o:Obj)
 (T:Turn X.prog X.w X.K tg J [s.heap.objs.size] s.heap.objs.size tn) (st:tn 0 (s.heap.push o)) (q:R J H):UO X pins σ tg R (.ref s.heap.objs.size) {s with heap:=s.heap.push o,toks:=tk}:=by
 refine⟨s.heap.objs.size,[s.heap.objs.size],tn,J,H,rfl,I.kept λb ob e=>aG _ e,T,st,λb hb=>?_,q⟩;have e:b=s.heap.objs.size:=by simpa using hb
 subst e;exact I.Ml (aH _) (I.dI.fresh (aH _))
end
noncomputable def Tn(x:Str):It:=⟨λi _=>i<x.cps.size,λi H v H'=>H'=H/\∃c,x.cps[i]?=some c/\v= .str ⟨#[c]⟩,λi _=>x.cps.size<=i⟩
theorem Gs{P:Program}{w:World}{K:PySem.W.Frag}{tg:Expr}(it:Addr)(x:Str)(t:Tok)(ty:String)(hty:ty="str_ascii_iterator"\/ty="str_iterator"):
 Turn P w K tg (Tn x) [it] it (λi h=>h.IsStrIter it ty x t i)where
 mem:=by simp
 obj:=λi h st b hb=>by
  have e:b=it:=by simpa using hb
  subst e;obtain⟨o,e,c,d⟩:=st;exact⟨o,e,λv z=>by rw[d]at z;cases z⟩
 keep:=λi h h' st k=>let⟨o,ho,r⟩:=st;⟨o,k it (by simp) o ho,r⟩
 item:=by
  intro X hP hw hK hc i pins s σ H E I hf st hg;subst hP hw hK;obtain⟨f0,f1,f2,f3,f4,f5⟩:=hf it (by simp);have W:Walks X.prog X.w X.A it [it] [it] x.cps.size (SignAt x) (λi h=>h.IsStrIter it ty x t i):=by
   rcases hty with e|e
   ·rw[e];exact Walks.strAscii (I.ok.hd hc) it x t
   ·rw[e];exact Walks.strWide (I.ok.hd hc) it x t
  have hno:["enumerate","zip","dict_itemiterator","dict_reverseitemiterator","odict_iterator","itertools.zip_longest","itertools.pairwise"].contains ty=false:=by
   rcases hty with e|e
   ·rw[e];decide
   ·rw[e];decide
  refine W.item i s _ _ hg st λv h' tk hv st' kk=>?_;obtain⟨c,u,hcx,rfl⟩:=hv;have I1:Inv X pins σ H {s with heap:=h',toks:=tk}:=I.turned (λb o hb e=>kk b o (by simpa using hb) e) f0 f1 f3 f4 f5;obtain⟨oi,e,cc,dd⟩:=id st';exact⟨_,rfl,DX (s:={s with heap:=h',toks:=tk}) e cc dd hno ⟨.str ⟨#[c]⟩,H,I1,⟨u,rfl⟩,⟨rfl,c,hcx,rfl⟩,st',λb hb=>(hf b hb).1⟩⟩
 done:=by
  intro X hP hw hK hc i pins s σ H E I hf st hg;subst hP hw hK;obtain⟨f0,f1,f2,f3,f4,f5⟩:=hf it (by simp);have hx:x.cps[i]?=none:=Dc hg;rcases hty with e|e
  ·rw[e]at st;exact wpAny_pyNext_ascii_end (I.ok.hd hc) st hx λh' eb=>⟨rfl,I.turned (t':=s.toks) (λb o hb e=>eb b o hb e) f0 f1 f3 f4 f5⟩
  ·rw[e]at st;exact wpAny_pyNext_wide_end (I.ok.hd hc) st hx λh' eb=>⟨rfl,I.turned (t':=s.toks) (λb o hb e=>eb b o hb e) f0 f1 f3 f4 f5⟩
 self:=λA i s Q E st h=>by
  rcases hty with e|e
  ·rw[e]at st;exact wpAny_pyIter_striter_ascii st h
  ·rw[e]at st;exact wpAny_pyIter_striter_wide st h
def Va(te:TE):TI:=λσ H R=>te σ H λv H1=>∃x,v= .str x/\R (Tn x) H1
theorem RM{X:Cx}{tg e:Expr}{te:TE}(he:PE X e te):PI X tg e (Va te):=by
 intro pins s σ H R I h;refine eu (he pins s σ H _ I h) λv s1=>W6 λy H1=>W8 λI1 r1=>Xa λx=>W9 λex q=>?_;subst ex;obtain⟨t,rfl⟩:=r1;cases ha:x.cps.all (·<128)
 ·exact wpAny_pyIter_wide ha (E9 (tk:=s1.toks) I1 _ (Gs _ x t "str_iterator" (.inr rfl)) ⟨_,aW _ rfl,rfl,rfl⟩ q)
 ·exact wpAny_pyIter_ascii ha (E9 (tk:=s1.toks) I1 _ (Gs _ x t "str_ascii_iterator" (.inl rfl)) ⟨_,aW _ rfl,rfl,rfl⟩ q)
section
variable{prog:Program}{w:World}{A:Around}{E:Value->Shared->Prop}{s:Shared}
theorem D8{d:Addr}{o:Obj}{es:Array DictEntry}{ep:Nat}{Q:Value->Shared->Prop}(hd:(d==sysModules)=false)(ho:s.heap.get? d=some o)(hc:o.ExactDict)(hdat:o.data= .dict es ep)
 (hQ:Q (.ref s.heap.objs.size) {s with heap:=s.heap.push {cls:= .type "dict_keyiterator",data:= .fields #[.ref d,.int 0 0,.int es.size 0,.int ep 0]}}):
 wpAny (model prog w) A (pyIter (.ref d)) Q E s:=by
 have hT:s.TypeIs (.ref d) "dict":=⟨o,ho,hc.1⟩;refine Dh hT F.slot_dict_iter (fF F.slot_dict_iter hT F.entry_dict_iter ?_ (F.args_dict_iter_1 _));unfold Builtin.«dict.__iter__»;refine ae ?_;unfold Builtin.Dict.dictSlotNone;refine ae (wpAny_notOrdered_dict hT ?_);show wpAny _ _ (pure (Value.ref d)) _ _ s;refine aA ?_;show wpAny _ _ (Builtin.Dict.showsAll d>>=_) _ _ s;unfold Builtin.Dict.showsAll;rw[ah (by rw[hd];exact aj)];refine ae (aA ?_);refine ae (Di ho hdat ?_);refine ae (wpAny_dictEpoch ho hdat ?_);refine ae (fe (aA ⟨_,rfl,"dict_keyiterator",_,⟨_,aW _ rfl,rfl⟩,F.slot_dict_keyiterator_next.lookup,?_⟩));simpa[rawInt]using hQ
theorem Du{it d:Addr}{i n ep:Nat}{od:Obj}{es:Array DictEntry}{en:DictEntry}{Q:Option Value->Shared->Prop}(hit:s.heap.IsKeyIter it d i n ep)(hod:s.heap.get? d=some od)(hdd:od.data= .dict es ep)
 (hsz:es.size=n) (hx:es[i]?=some en) (hQ:∀h',h'.IsKeyIter it d (i+1) n ep->Heap.SameBut it s.heap h'->Q (some en.key) {s with heap:=h'}):wpAny (model prog w) A (pyNext (.ref it)) Q E s:=by
 obtain⟨o,ho,hc,hd⟩:=id hit;unfold pyNext;refine ae (DT (jr (name:=Str.ofString "__next__") hit.typeIs kC
  (fF kC hit.typeIs F.entry_dict_keyiterator_next ?_ (F.args_dict_keyiterator_next_1 _))))
 refine ae (aA ?_);refine ae ?_;refine ae ?_
 first|refine ae (jQ hit.typeIs (aA ?_))|refine ae (pL hit.typeIs (aA ?_))
 refine ae (LS ho hd ?_);have hown:Builtin.Dict_items.ownsTuple "dict_keyiterator"=false:=VW;simp only[hown,fm,kx];show wpAny _ _ (if(Value.ref d==Value.none)=true then _ else _) _ _ s;rw[ah (show¬((Value.ref d==Value.none)=true)from aj)];refine ae (aA ?_);refine ae (Di hod hdd ?_);rw[ah (by rw[hsz];simp)];refine ae (aA ?_);refine ae (wpAny_dictEpoch hod hdd ?_);rw[ah (by simp)];refine aA ?_;obtain⟨hlt',hen⟩:=Array.getElem?_eq_some_iff.mp hx;simp only[show¬((i:Int)<0)from by lia,kx,bc,dO hlt'];refine ae ?_
 first|refine ae (jQ hit.typeIs (aA ?_))|refine ae (pL hit.typeIs (aA ?_))
 refine ae (wpAny_isOneOf_keyiter hit.typeIs ?_);show wpAny _ _ (setField (.ref it) 1 (rawInt ((i:Int)+1))>>=_) _ _ s;refine ae (dq ho hd (by simp) ?_);have hit':(s.heap.update it (Obj.mapFields (·.setIfInBounds 1 (rawInt ((i:Int)+1))))).IsKeyIter it d (i+1) n ep:=
  ⟨_,cW _ ho (Obj.isFreed_of_fields (Obj.data_mapFields hd _)),(Obj.cls_mapFields ..).trans hc,by rw[Obj.data_mapFields hd];simp[rawInt]⟩
 refine ae (dP ?_);refine ae (wpAny_isOneOf_keyiter (s:={s with heap:=s.heap.update it (Obj.mapFields (·.setIfInBounds 1 (rawInt ((i:Int)+1))))}) hit'.typeIs ?_);show wpAny _ _ (pure es[i].key) _ _ _;rw[hen];exact aA (aA ⟨_,rfl,aA (hQ _ hit' (zf ..))⟩)
theorem xX{it d:Addr}{i n ep:Nat}{od:Obj}{es:Array DictEntry}{Q:Option Value->Shared->Prop}(hh:A.handled=none)(hit:s.heap.IsKeyIter it d i n ep)(hod:s.heap.get? d=some od)(hdd:od.data= .dict es ep)
 (hsz:es.size=n) (hge:n<=i) (hQ:∀h',Heap.ExtBut it s.heap h'->Q none {s with heap:=h'}):wpAny (model prog w) A (pyNext (.ref it)) Q E s:=by
 obtain⟨o,ho,hc,hd⟩:=id hit;unfold pyNext;refine ae (DT (jr (name:=Str.ofString "__next__") hit.typeIs kC
  (fF kC hit.typeIs F.entry_dict_keyiterator_next ?_ (F.args_dict_keyiterator_next_1 _))))
 refine ae (aA ?_);refine ae ?_;refine ae ?_
 first|refine ae (jQ hit.typeIs (aA ?_))|refine ae (pL hit.typeIs (aA ?_))
 refine ae (LS ho hd ?_);have hown:Builtin.Dict_items.ownsTuple "dict_keyiterator"=false:=VW;simp only[hown,fm,kx];show wpAny _ _ (if(Value.ref d==Value.none)=true then _ else _) _ _ s;rw[ah (show¬((Value.ref d==Value.none)=true)from aj)];refine ae (aA ?_);refine ae (Di hod hdd ?_);rw[ah (by rw[hsz];simp)];refine ae (aA ?_);refine ae (wpAny_dictEpoch hod hdd ?_);rw[ah (by simp)];refine aA ?_;have hge':es.size<=i:=by rw[hsz];exact hge
 simp only[show¬((i:Int)<0)from by lia,kx,bc,Dc hge'];refine ae ?_
 first|refine ae (jQ hit.typeIs (aA ?_))|refine ae (pL hit.typeIs (aA ?_))
 show wpAny _ _ (setField (.ref it) 0 .none>>=_) _ _ s;refine ae (dq ho hd (by simp) ?_);show wpAny _ _ (newExc (.type "StopIteration") []>>=_) _ _ _;refine ae ?_;simp only[newExc,newTuple];refine ae (fe ?_ (by size_fits));refine ae (m:=firstArgMember _ _) (wpAny_of_eq (a:=Value.none) (by first|rfl|(simp only[firstArgMember];rfl)) ?_);refine fe ?_ (by size_fits);simp only[raiseNew];refine ae (wpAny_handled ?_);rw[show A.in1.handled=none from hh];refine ae (aA (wpAny_throw ?_));refine ae (wpAny_isInstance (T:="StopIteration") (b:=true) ⟨_,aW _ rfl,rfl⟩ isSubtype_stop ?_);exact aA (hQ _ (((zf ..).extBut.push _).push _))
end
theorem RN{κ:Type}{kvs:List (κ×V)}{vs:List (κ×Value)}(h:KV kvs vs):∀{i:Nat}{k:κ}{v:V},kvs[i]?=some (k,v)->∃u,vs[i]?=some (k,u)/\RelV v u:=by
 unfold KV at h
 induction h with
 |nil=>intro i k v e;simp at e
 |@cons a b l₁ l₂ r t ih=>
  intro i k v e;cases i with
  |zero=>
   simp only[nV,zg]at e;subst e;refine⟨b.2,?_,r.2⟩;simp only[nV];exact bJ some (Prod.ext r.1.symm rfl)
  |succ j=>
   simp only[iH]at e⊢;exact ih e
theorem Ir{α β:Type}{G:α->β->Prop}{l₁:List α}{l₂:List β}(h:Paired G l₁ l₂):∀{i:Nat}{a:α},l₁[i]?=some a->∃b,l₂[i]?=some b/\G a b:=by
 induction h with
 |nil=>intro i a e;simp at e
 |@cons a b l₁ l₂ r t ih=>
  intro i a' e;cases i with
  |zero=>
   simp only[nV,zg]at e;subst e;exact⟨b,rfl,r⟩
  |succ j=>
   simp only[iH]at e⊢;exact ih e
theorem MM{k:Key}{u:Value}(h:Ak k u=true):RelV (kV k) u:=by
 rcases eU h with⟨i,t,rfl,rfl⟩|⟨x,t,rfl,rfl⟩
 ·exact⟨t,rfl⟩
 ·exact⟨t,rfl⟩
section
variable{X:Cx}{pins:List (Addr×Obj)}{σ:St}{H:Hp}{s:Shared}{d:Addr}{o:Obj}
theorem Inv.RO{kvs:List (Key×V)}(I:Inv X pins σ H s)(h:H d=some (.j0 o (.dK kvs))):
 (d==sysModules)=false/\s.heap.get? d=some o/\o.ExactDict/\∃(es:Array DictEntry)(ep:Nat)(vs:List (Key×Value)),o.data= .dict es ep/\es.size=kvs.length/\KV kvs vs/\s.heap.DictAt (dG X.prog X.w) d vs ep:=by
 obtain⟨hd,z,hs,vs,kv,o',es,ep,ho,hx,hdt,r⟩:=I.dI d _ h;rw[hd]at ho;cases ho;refine⟨hs,hd,hx,es,ep,vs,hdt,?_,kv,o,es,hd,hx,hdt,r⟩;have l1:=r.2.1.length;have l2:kvs.length=vs.length:=pJ kv;rw[bY]at l1;lia
theorem Inv.RP{kvs:List (List Key×V)}(I:Inv X pins σ H s)(h:H d=some (.j0 o (.dT kvs))):
 (d==sysModules)=false/\s.heap.get? d=some o/\o.ExactDict/\∃(es:Array DictEntry)(ep:Nat),o.data= .dict es ep/\es.size=kvs.length/\
  ∀(i:Nat)(k:List Key)(v:V),kvs[i]?=some (k,v)->∃(en:DictEntry)(q:Addr),es[i]?=some en/\en.key= .ref q/\H q=some (.tup (k.map kV)):=by
 obtain⟨hd,z,hs,xs,pr,o',es,ep,ho,hx,hdt,he,_⟩:=I.dI d _ h;rw[hd]at ho;cases ho;refine⟨hs,hd,hx,es,ep,hdt,?_,λi k v e=>?_⟩
 ·have l1:es.size=xs.length:=size_of_entries he;have l2:kvs.length=xs.length:=pJ pr;lia
 ·obtain⟨b,hb,e1,e2,_⟩:=Ir pr e;have q:=entry_at he i;rw[hb]at q;exact⟨_,b.2.1,q,rfl,e2⟩
end
noncomputable def Vs(d:Addr)(o:Obj)(kvs:List (Key×V)):It:=
 ⟨λi H=>H d=some (.j0 o (.dK kvs))/\i<kvs.length,λi H x H'=>H'=H/\∃k v,kvs[i]?=some (k,v)/\x=kV k,λi H=>H d=some (.j0 o (.dK kvs))/\kvs.length<=i⟩
noncomputable def To(d:Addr)(o:Obj)(kvs:List (List Key×V)):It:=
 ⟨λi H=>H d=some (.j0 o (.dT kvs))/\i<kvs.length,λi H x H'=>H'=H/\∃(k:List Key)(v:V)(q:Addr),kvs[i]?=some (k,v)/\x= .ref q/\H q=some (.tup (k.map kV)),λi H=>H d=some (.j0 o (.dT kvs))/\kvs.length<=i⟩
theorem Bl{o:Obj}{es es':Array DictEntry}{ep ep':Nat}(h:o.data= .dict es ep)(h':o.data= .dict es' ep'):es'=es/\ep'=ep:=by
 rw[h]at h';cases h';exact⟨rfl,rfl⟩
section
variable{P:Program}{w:World}{K:PySem.W.Frag}{tg:Expr}{d:Addr}{o:Obj}{es:Array DictEntry}{ep:Nat}
theorem K0{kvs:List (Key×V)}(it:Addr)(hod:o.data= .dict es ep):Turn P w K tg (Vs d o kvs) [it] it (λi h=>h.IsKeyIter it d i kvs.length ep)where
 mem:=by simp
 obj:=λi h st b hb=>by
  have e:b=it:=by simpa using hb
  subst e;obtain⟨oi,e,c,dd⟩:=st;exact⟨oi,e,λv z=>by rw[dd]at z;cases z⟩
 keep:=λi h h' st k=>st.at λoi e=>k it (by simp) oi e
 item:=by
  intro X hP hw hK hc i pins s σ H E I hf st hg;subst hP hw hK;obtain⟨hd,hi⟩:=hg;obtain⟨f0,f1,f2,f3,f4,f5⟩:=hf it (by simp);obtain⟨hs,hgd,hx,es',ep',vs,hdt,hsz,kv,hm⟩:=I.RO hd;obtain⟨rfl,rfl⟩:=Bl hod hdt;obtain⟨⟨k,v⟩,hkv⟩:∃p,kvs[i]?=some p:=⟨kvs[i],af hi⟩;obtain⟨u,hu,ru⟩:=RN kv hkv;have hl:kvs.length=vs.length:=pJ kv;rw[hl]at st;refine wpAny_pyNext_dict_item st hm hu λkey h' hkey st' sb=>?_;have I1:Inv X pins σ H {s with heap:=h'}:=I.turned (t':=s.toks) (λb ob hb e=>(sb.2 b hb).trans e) f0 f1 f3 f4 f5;obtain⟨oi,e,c,dd⟩:=id st';refine⟨key,rfl,DX (s:={s with heap:=h'}) e c dd VW ⟨kV k,H,I1,MM (show Ak k key=true from hkey),⟨rfl,k,v,hkv,rfl⟩,?_,λb hb=>(hf b hb).1⟩⟩;show h'.IsKeyIter it d (i+1) kvs.length _;rw[hl];exact st'
 done:=by
  intro X hP hw hK hc i pins s σ H E I hf st hg;subst hP hw hK;obtain⟨hd,hi⟩:=hg;obtain⟨f0,f1,f2,f3,f4,f5⟩:=hf it (by simp);obtain⟨hs,hgd,hx,es',ep',vs,hdt,hsz,kv,hm⟩:=I.RO hd;obtain⟨rfl,rfl⟩:=Bl hod hdt;exact xX (I.ok.hd hc) st hgd hdt hsz hi λh' eb=>⟨rfl,I.turned (t':=s.toks) (λb ob hb e=>eb b ob hb e) f0 f1 f3 f4 f5⟩
 self:=λA i s Q E st h=>wpAny_pyIter_keyiter st h
theorem Iu{kvs:List (List Key×V)}(it:Addr)(hod:o.data= .dict es ep):Turn P w K tg (To d o kvs) [it] it (λi h=>h.IsKeyIter it d i kvs.length ep)where
 mem:=by simp
 obj:=λi h st b hb=>by
  have e:b=it:=by simpa using hb
  subst e;obtain⟨oi,e,c,dd⟩:=st;exact⟨oi,e,λv z=>by rw[dd]at z;cases z⟩
 keep:=λi h h' st k=>st.at λoi e=>k it (by simp) oi e
 item:=by
  intro X hP hw hK hc i pins s σ H E I hf st hg;subst hP hw hK;obtain⟨hd,hi⟩:=hg;obtain⟨f0,f1,f2,f3,f4,f5⟩:=hf it (by simp);obtain⟨hs,hgd,hx,es',ep',hdt,hsz,ent⟩:=I.RP hd;obtain⟨rfl,rfl⟩:=Bl hod hdt;obtain⟨⟨k,v⟩,hkv⟩:∃p,kvs[i]?=some p:=⟨kvs[i],af hi⟩;obtain⟨en,q,hen,hkey,hq⟩:=ent i k v hkv;refine Du st hgd hdt hsz hen λh' st' sb=>?_;have I1:Inv X pins σ H {s with heap:=h'}:=I.turned (t':=s.toks) (λb ob hb e=>(sb.2 b hb).trans e) f0 f1 f3 f4 f5;obtain⟨oi,e,c,dd⟩:=id st';exact⟨en.key,rfl,DX (s:={s with heap:=h'}) e c dd VW ⟨.ref q,H,I1,hkey,⟨rfl,k,v,q,hkv,rfl,hq⟩,st',λb hb=>(hf b hb).1⟩⟩
 done:=by
  intro X hP hw hK hc i pins s σ H E I hf st hg;subst hP hw hK;obtain⟨hd,hi⟩:=hg;obtain⟨f0,f1,f2,f3,f4,f5⟩:=hf it (by simp);obtain⟨hs,hgd,hx,es',ep',hdt,hsz,ent⟩:=I.RP hd;obtain⟨rfl,rfl⟩:=Bl hod hdt;exact xX (I.ok.hd hc) st hgd hdt hsz hi λh' eb=>⟨rfl,I.turned (t':=s.toks) (λb ob hb e=>eb b ob hb e) f0 f1 f3 f4 f5⟩
 self:=λA i s Q E st h=>by
  refine Dh st.typeIs F.slot_dict_keyiterator_iter (fF F.slot_dict_keyiterator_iter st.typeIs F.entry_dict_keyiterator_iter ?_ (F.args_dict_keyiterator_iter_1 _));show wpAny _ _ (ret (.ref it)) _ _ s;exact aA ⟨_,rfl,"dict_keyiterator",_,st.typeIs,F.slot_dict_keyiterator_next.lookup,h⟩
end
def Tp(td:TE):TI:=λσ H R=>td σ H λx H1=>∃d o,x= .ref d/\((∃kvs,H1 d=some (.j0 o (.dK kvs))/\R (Vs d o kvs) H1)\/∃kvs,H1 d=some (.j0 o (.dT kvs))/\R (To d o kvs) H1)
section
variable{X:Cx}{tg e:Expr}{td:TE}{apos cpos:Pos}
theorem J1(he:PE X e td):PI X tg e (Tp td):=by
 intro pins s σ H R I h;refine eu (he pins s σ H _ I h) λu s1=>W6 λx H1=>W8 λI1 rx=>W6 λd o=>W9 λex q=>?_;subst ex;obtain rfl:u=Value.ref d:=rx;rcases q with⟨kvs,hd,q⟩|⟨kvs,hd,q⟩
 ·refine Xd (λhs hgd hx=>Xc λes ep vs=>Xd λhdt hsz kv hm=>?_) (I1.RO hd);refine D8 hs hgd hx hdt (E9 (tk:=s1.toks) I1 _ (K0 _ hdt) ⟨_,aW _ rfl,rfl,?_⟩ q);rw[hsz]<;>rfl
 ·refine Xd (λhs hgd hx=>W6 λes ep=>W8 λhdt hsz ent=>?_) (I1.RP hd);refine D8 hs hgd hx hdt (E9 (tk:=s1.toks) I1 _ (Iu _ hdt) ⟨_,aW _ rfl,rfl,?_⟩ q);rw[hsz]<;>rfl
end
end L2
section
namespace TL
open PySem PySem.Builtin PySem.Builtin.Str PySem.StrLaws
theorem join_eq(y:Str)(parts:List Str):Txt.join y parts=Str.join y parts:=glued_eq_join y parts
end TL
end
namespace L2
open PySem PySem.Spec PyProof.Rows
theorem qY:∀{ys:List Str}{us:List Value},cE (ys.map V.str) us->StrsAre us ys
 |[],_,.nil=>.nil
 |y::ys,_,.cons r t=>by
  obtain⟨k,rfl⟩:=r;exact .cons y k (qY t)
section
variable{X:Cx}
theorem Pa:Rz X "str.join" (λx xs H Q=>∃a p,∃ys:List Str,x= .str a/\xs=[.ref p]/\(cN X.K H p (ys.map V.str)\/iK X.K H p (ys.map V.str))/\
 (ys.map (·.length)).sum+ys.length*a.length<=16777216/\Q (.str (Txt.join a ys)) H):=by
 intro pins s σ H x xs v us Q I rx rs h;obtain⟨a,p,ys,rfl,rfl,hp,hz,h⟩:=h;obtain⟨t,rfl⟩:=rx;cases rs with
 |cons r1 rs=>
  cases rs;cases r1;rcases hp with hp|hp
  ·obtain⟨its,r,⟨o,n,ho,hc,_,hd⟩,_⟩:=I.list hp;exact PyProof.Rows.join_list (items:=its.toArray) ⟨o,ho,hc,n,hd⟩ (by rw[List.toList_toArray];exact qY r) hz λt' k=>⟨.str _,H,I.tok k,⟨t',rfl⟩,h⟩
  ·obtain⟨its,r,ht,_⟩:=I.tuple hp;exact PyProof.Rows.join_tuple (items:=its.toArray) ht (by rw[List.toList_toArray];exact qY r) hz λt' k=>⟨.str _,H,I.tok k,⟨t',rfl⟩,h⟩
end
section
variable{X:Cx}{o e:Expr}{to te:TE}
def Vt(r:V->List V->Hp->VK->Prop)(to te:TE):TE:=λσ H Q=>to σ H λx H1=>(∃a,x= .str a)/\te σ H1 λy H2=>r x [y] H2 Q
theorem Tq{id:String}{name:Str}{apos pos:Pos}{r:V->List V->Hp->VK->Prop}(slot:Slot "str" name id)(ty:typeOf (.builtin id)=pure (.type "method_descriptor"))(rule:Rz X id r)(ho:PE X o to)(he:PE X e te)
 (hs:starEach [e] X.env=[(false,eval e X.env)]:=by rfl) (hbase:attributeBase o name X.env (eval o X.env)=eval o X.env:=by rfl) (hline:(apos.endLine==pos.line)=true:=by rfl):
 PE X (.Call (.Attribute o name apos) [e] [] pos) (Vt r to te):=by
 intro pins s σ H Q I h;refine PySem.Call_method1 hbase hs hline (eu (ho pins s σ H _ I h) λv s1=>W6 λx H1=>W8 λI1 r1 q1=>?_);obtain⟨⟨a,rfl⟩,q1⟩:=q1;obtain⟨t,rfl⟩:=_root_.id r1;refine⟨"str",_,F.plainAttrs_str,slot,ty,typeIs_str _ _ _,(λ_ e=>nomatch e),HH rfl (Calls.evalArgs_plain (Calls.spliced_cons ?_))⟩;exact eu (he pins s1 σ H1 _ I1 q1) λu s2 ⟨y,H2,I2,r2,q2⟩=>Calls.spliced_nil (rule pins s2 σ H2 _ [y] _ [u] Q I2 r1 (.cons r2 .nil) q2)
theorem Pb{apos pos:Pos}(ho:PE X o to)(he:PE X e te)(hs:starEach [e] X.env=[(false,eval e X.env)]:=by rfl)(hbase:attributeBase o "join" X.env (eval o X.env)=eval o X.env:=by rfl)(hline:(apos.endLine==pos.line)=true:=by rfl):
 PE X (.Call (.Attribute o "join" apos) [e] [] pos) (Vt (λx xs H Q=>∃a p,∃ys:List Str,x= .str a/\xs=[.ref p]/\(cN X.K H p (ys.map V.str)\/iK X.K H p (ys.map V.str))/\
  (ys.map (·.length)).sum+ys.length*a.length<=16777216/\Q (.str (Txt.join a ys)) H) to te):=
 Tq F.slot_str_join F.type_str_join Pa ho he hs hbase hline
end
end L2
namespace L2
open PySem PySem.Spec PyProof.Rows
noncomputable def inClass(s:Stmt)(j:Nat):Stmt:=match s with
 | .ClassDef _ _ _ body _ _ _ _ _ _ _=>body.getD j (.Pass ⟨0,0,0,0⟩)
 |_=>.Pass ⟨0,0,0,0⟩
noncomputable def vy(s:Stmt):Arguments:=match s with
 | .FunctionDef _ a _ _ _ _ _ _ _ _=>a
 |_=>{posonlyargs:=[],args:=[],vararg:=none,kwonlyargs:=[],kw_defaults:=[],kwarg:=none,defaults:=[]}
noncomputable def kE(s:Stmt):List Stmt:=match s with
 | .FunctionDef _ _ b _ _ _ _ _ _ _=>b
 |_=>[]
noncomputable def aI(s:Stmt):Scope:=match s with
 | .FunctionDef _ _ _ _ _ _ sc _ _ _=>sc
 |_=>{kind:= .function,names:=[],isGenerator:=false,isCoroutine:=false}
structure OM(K:PySem.W.Frag)(x qual:Str)(st:Stmt)(f:Addr)(fd:FuncData):Prop where
 ex:∃(oc:Value)(od:Option Addr)(kV doc pm:Value)(an:Option Addr)(cdv ct:Value)(osl:Array (Option Value)),
  fd=PySem.W.fnOf x qual (vy st) (kE st) (aI st) .none kV doc pm an cdv ct/\K.lookup f=some ⟨oc,od,.func fd,osl⟩/\PySem.W.codeIn K cdv qual=true
 kp:PySem.W.keepIn K (.ref f)=true
section
variable{P:Program}{w:World}{K:PySem.W.Frag}{mg:Str->Option Value}{base:Heap}
theorem OM.binds{x qual:Str}{st:Stmt}{f:Addr}{fd:FuncData}{ps:List Str}(F:OM K x qual st f fd)
 (h:∀(kV doc pm:Value)(an:Option Addr)(cdv ct:Value)(us:List Value),us.length=ps.length->bindArgs (PySem.W.fnOf x qual (vy st) (kE st) (aI st) .none kV doc pm an cdv ct) ⟨us,[]⟩=pure (ps.zip us)):Binds K fd ps []:=by
 refine W7 (λoc od kV doc=>W7 λpm an cdv ct=>Xa λosl=>W8 λe0_ lk hcd=>?_) F.ex;subst e0_;exact .all (h kV doc pm an cdv ct)
theorem MN{x qual:Str}{st:Stmt}{f:Addr}{oc:Value}{od an:Option Addr}{osl:Array (Option Value)}{kV doc pm cdv ct:Value}(l:K.lookup f=some ⟨oc,od,.func (PySem.W.fnOf x qual (vy st) (kE st) (aI st) .none kV doc pm an cdv ct),osl⟩)
 (c:PySem.W.codeIn K cdv qual=true) (k:PySem.W.keepIn K (.ref f)=true):OM K x qual st f (PySem.W.fnOf x qual (vy st) (kE st) (aI st) .none kV doc pm an cdv ct):=⟨⟨oc,od,kV,doc,pm,an,cdv,ct,osl,rfl,l,c⟩,k⟩
end
section
variable{X:Cx}
theorem pv(i:Nat){x:Str}{pos:Pos}(hN:X.N[i]?=some x:=by rfl)(hv:SG X.env.scope x:=by first|exact Or.inl rfl|exact Or.inr (Or.inl rfl)|exact Or.inr (Or.inr rfl))(hd:(x==("__debug__":Str))=false:=by decide)
 (hcd:(x==("__classdict__":Str))=false:=by decide):PE X (.Name x pos) (SO i):=Rj hN hv hd hcd
end
theorem cq{A B:Prop}(h:B):if false=true then A else B:=by
 rw[ah aj];exact h
theorem d4{A B:Prop}(h:A):if true=true then A else B:=by
 rw[ao rfl];exact h
theorem c6{c A B:Prop}[Decidable c](h1:c->A)(h2:¬c->B):if c then A else B:=by
 by_cases h:c
 ·rw[ao h];exact h1 h
 ·rw[ah h];exact h2 h
def bq(H H':Hp):Prop:=∀b o,H b=some o->H' b=some o
theorem bq.trans{H H1 H2:Hp}(a:bq H H1)(b:bq H1 H2):bq H H2:=λc o h=>b c o (a c o h)
theorem bq.free{H H':Hp}(e:bq H H'){l:Addr}(h:H' l=Option.none):H l=Option.none:=by
 cases q:H l with
 |none=>rfl
 |some o=>
  rw[e l o q]at h;cases h
theorem bq.seq{K:PySem.W.Frag}{H H':Hp}{a:Addr}{xs:List V}(e:bq H H')(h:cN K H a xs):cN K H' a xs:=by
 rcases h with(h|⟨o,h⟩)|h
 ·exact .inl (.inl (e _ _ h))
 ·exact .inl (.inr ⟨o,e _ _ h⟩)
 ·exact .inr h
theorem at_of{xs:List V}{z:Int}{j:Nat}{v:V}(e:z=(j:Int))(h:xs[j]?=some v):Dr xs z=some v:=by
 rw[e];exact cx h
theorem bq.made{H H1:Hp}{x dx C:Addr}(nx:H x=Option.none)(nd:H dx=Option.none)(k:∀b o,(upd (upd H dx (.own x)) x (.ins C dx [])) b=some o->b≠x->H1 b=some o):bq H H1:=λb o e=>
 k b o (by rw[bt (aq e nx),bt (aq e nd)];exact e) (aq e nx)
end L2
section
namespace L2
open PySem PySem.Spec PyProof.Rows
open PySem.W (WData Codec OpenSpec Well WellAll ReadsW ReadsAllW)
mutual
inductive Dw(K:PySem.W.Frag)(H:Hp):V->WData->Prop
 |gb:Dw K H .gb .none
 |bl (b:Bool):Dw K H (.bl b) (.bool b)
 |int (i:Int):Dw K H (.int i) (.int i)
 |str (x:Str):Dw K H (.str x) (.str x)
 |F9 (b:Array UInt8):Dw K H (.F9 b) (.bytes b.toList)
 |lst {a:Addr} {xs:List V} {ds:List WData}:cN K H a xs->vY K H xs ds->Dw K H (.ref a) (.list ds)
 |tup {a:Addr} {xs:List V} {ds:List WData}:iK K H a xs->vY K H xs ds->Dw K H (.ref a) (.tuple ds)
inductive vY(K:PySem.W.Frag)(H:Hp):List V->List WData->Prop
 |nil:vY K H [] []
 |cons {v:V} {vs:List V} {d:WData} {ds:List WData}:Dw K H v d->vY K H vs ds->vY K H (v::vs) (d::ds)
end
theorem UD{K:PySem.W.Frag}{H:Hp}:∀ns:List Int,vY K H (ns.map V.int) (ns.map WData.int)
 |[]=>.nil
 |n::r=>.cons (.int n) (UD r)
theorem UC{K:PySem.W.Frag}{H:Hp}:∀(ns:List Int)(xs:List V),vY K H xs (ns.map WData.int)->xs=ns.map V.int
 |[],xs,h=>by
  cases h;rfl
 |n::r,xs,h=>by
  cases h with
  |cons h1 h2=>
   cases h1;rw[UC r _ h2]<;>rfl
section
variable{P:Program}{w:World}{K:PySem.W.Frag}{H:Hp}{h:Heap}{R:PySem.W.WRecords}{cl:Str->Option Addr}
theorem RQ{a:Addr}{xs:List V}(dI:sr P w H h)(KX:K.In h)(q:cN K H a xs):∃(its:List Value)(o:Obj)(n:Nat),cE xs its/\h.get? a=some o/\o.cls= .type "list"/\o.data= .seq its.toArray n:=by
 rcases q with q|⟨o,its,n,e,hc,_,hd,_,hv⟩
 ·obtain⟨_,its,n,hv,e⟩:=(show eI P w H h a (.lst xs)from q.ok dI);exact⟨its,_,n,hv,e,rfl,rfl⟩
 ·exact⟨its.toList,o,n,hv,KX _ _ e,hc,by simp[hd]⟩
theorem RR{a:Addr}{xs:List V}(dI:sr P w H h)(KX:K.In h)(q:iK K H a xs):∃(its:List Value)(o:Obj)(n:Nat),cE xs its/\h.get? a=some o/\o.cls= .type "tuple"/\o.data= .seq its.toArray n:=by
 rcases q with q|⟨o,its,n,e,hc,hd,_,hv⟩
 ·obtain⟨_,its,hv,o,e,hc,n,hd⟩:=(show eI P w H h a (.tup xs)from q.ok dI);exact⟨its,o,n,hv,e,hc,hd⟩
 ·exact⟨its.toList,o,n,hv,KX _ _ e,hc,by simp[hd]⟩
mutual
theorem Dw.reads(dI:sr P w H h)(KX:K.In h):∀(d:WData)(v:V)(u:Value),Dw K H v d->RelV v u->∃as,ReadsW R cl h u d as
 | .none,_,_,x,r=>by
   cases x;cases r;exact⟨_,ReadsW.none⟩
 | .bool b,_,_,x,r=>by
   cases x;cases r;exact⟨_,ReadsW.bool b⟩
 | .int i,_,_,x,r=>by
   cases x;obtain⟨t,rfl⟩:=r;exact⟨_,ReadsW.int i t⟩
 | .str s,_,_,x,r=>by
   cases x;obtain⟨t,rfl⟩:=r;exact⟨_,ReadsW.str s t⟩
 | .bytes b,_,_,x,r=>by
   cases x;obtain⟨t,rfl⟩:=r;exact⟨_,ReadsW.bytes _ t⟩
 | .list ds,_,_,x,r=>by
   cases x with
   |lst hs ha=>
    cases r;obtain⟨its,o,n,rv,ho,hc,hd⟩:=RQ dI KX hs;obtain⟨as,hr⟩:=Dw.readsAll dI KX ds _ its ha rv;exact⟨_,ReadsW.list ho hc hd hr⟩
 | .tuple ds,_,_,x,r=>by
   cases x with
   |tup hs ha=>
    cases r;obtain⟨its,o,n,rv,ho,hc,hd⟩:=RR dI KX hs;obtain⟨as,hr⟩:=Dw.readsAll dI KX ds _ its ha rv;exact⟨_,ReadsW.tuple ho hc hd hr⟩
 | .float _,_,_,x,_=>by cases x
 | .dict _,_,_,x,_=>by cases x
 | .bytearray _,_,_,x,_=>by cases x
 | .set _,_,_,x,_=>by cases x
 | .frozenset _,_,_,x,_=>by cases x
 | .obj _ _,_,_,x,_=>by cases x
theorem Dw.readsAll(dI:sr P w H h)(KX:K.In h):∀(ds:List WData)(vs:List V)(us:List Value),vY K H vs ds->cE vs us->∃as,ReadsAllW R cl h us ds as
 |[],_,_,x,r=>by
  cases x;cases r;exact⟨_,ReadsAllW.nil⟩
 |d::ds,_,_,x,r=>by
  cases x with
  |cons h1 h2=>
   cases r with
   |cons r1 r2=>
    obtain⟨as,q1⟩:=Dw.reads dI KX d _ _ h1 r1;obtain⟨bs,q2⟩:=Dw.readsAll dI KX ds _ _ h2 r2;exact⟨_,ReadsAllW.cons q1 q2⟩
end
end
mutual
noncomputable def J6:WData->Bool
 | .none=>true
 | .bool _=>true
 | .int _=>true
 | .str _=>true
 | .bytes _=>true
 | .list xs=>AV xs
 | .tuple xs=>AV xs
 |_=>false
noncomputable def AV:List WData->Bool
 |[]=>true
 |x::r=>J6 x&&AV r
end
theorem Gu{α:Type}{f:α->WData}(h:∀a,J6 (f a)=true):∀l:List α,AV (l.map f)=true
 |[]=>rfl
 |x::r=>by
  show(J6 (f x)&&AV (r.map f))=true;rw[h x,Gu h r]<;>rfl
theorem ub:∀(c:Codec)(a:c.denote),J6 (c.enc a)=true
 | .unit,_=>rfl
 | .bool,_=>rfl
 | .int _ _,_=>rfl
 | .nat _ _,_=>rfl
 | .u8,_=>rfl
 | .bytes _ _,_=>rfl
 | .text _ _ _ _,_=>rfl
 | .list _ _ c,a=>Gu (λx=>ub c x) a
 | .pair c d,a=>by
   show(J6 (c.enc a.1)&&(J6 (d.enc a.2)&&true))=true;rw[ub c a.1,ub d a.2]<;>rfl
 | .triple c d e,a=>by
   show(J6 (c.enc a.1)&&(J6 (d.enc a.2.1)&&(J6 (e.enc a.2.2)&&true)))=true;rw[ub c a.1,ub d a.2.1,ub e a.2.2]<;>rfl
 | .option c,none=>rfl
 | .option c,some x=>ub c x
theorem D9:∀(cs:List Codec)(a:Codec.denoteAll cs),AV (Codec.encAll cs a)=true
 |[],_=>rfl
 |c::cs,a=>by
  show(J6 (c.enc a.1)&&AV (Codec.encAll cs a.2))=true;rw[ub c a.1,D9 cs a.2]<;>rfl
theorem w9:∀{xs:List WData}{d:WData},d∈xs->d.weight<=WData.weightAll xs
 |[],d,h=>absurd h (by simp)
 |x::r,d,h=>by
  show d.weight<=x.weight+1+WData.weightAll r;rcases List.mem_cons.mp h with e|m
  ·rw[e];lia
  ·have z:=w9 m;lia
noncomputable def toV:Value->V
 | .none=>.gb
 | .bool b=>.bl b
 | .int i _=>.int i
 | .str x _=>.str x
 | .bytes b _=>.F9 b
 | .ref a=>.ref a
 |_=>.gb
def K1(A:List Addr):Value->Prop
 | .none=>True
 | .bool _=>True
 | .int _ _=>True
 | .str _ _=>True
 | .bytes _ _=>True
 | .ref a=>a∈A
 |_=>False
theorem K1.mono{A B:List Addr}(h:∀a∈A,a∈B):∀{u:Value},K1 A u->K1 B u:=λ{u} x=>by
 cases u with
 |ref a=>exact h a x
 |none=>trivial
 |bool b=>trivial
 |int i t=>trivial
 |str s t=>trivial
 |bytes b t=>trivial
 |_=>exact False.elim x
theorem MO{A:List Addr}{u:Value}(x:K1 A u):RelV (toV u) u:=by
 cases u with
 |ref a=>rfl
 |none=>rfl
 |bool b=>rfl
 |int i t=>exact⟨t,rfl⟩
 |str s t=>exact⟨t,rfl⟩
 |bytes b t=>exact⟨t,rfl⟩
 |_=>exact False.elim x
theorem pX{A:List Addr}:∀{vs:List Value},(∀u∈vs,K1 A u)->cE (vs.map toV) vs
 |[],_=>.nil
 |u::r,h=>.cons (MO (h u (aV ..))) (pX λx hx=>h x (aL _ hx))
def su(h:Heap)(A:List Addr)(a:Addr):Prop:=∃vs:List Value,vs.length<=sizeLine/\(∀u∈vs,K1 A u)/\
 (h.get? a=some {cls:= .type "list",data:= .seq vs.toArray}\/h.get? a=some {cls:= .type "tuple",data:= .seq vs.toArray})
theorem su.mono{h:Heap}{A B:List Addr}{a:Addr}(k:∀a∈A,a∈B)(x:su h A a):su h B a:=by
 obtain⟨vs,h1,h2,h3⟩:=x;exact⟨vs,h1,λu hu=>(h2 u hu).mono k,h3⟩
theorem og{P:Params}{h:Heap}:∀{vs:List Value}{ds:List WData},WellAll P h vs ds->vs.length=ds.length
 |_,_,.nil=>rfl
 |_,_,.cons _ b=>by
  show _+1=_+1;rw[og b]
theorem Ea{P:Params}{h:Heap}{v:Value}{ds:List WData}(x:Well P h v (.list ds)):∃(a:Addr)(vs:List Value),v= .ref a/\h.get? a=some {cls:= .type "list",data:= .seq vs.toArray}/\WellAll P h vs ds:=by
 cases x with
 |list ho hall=>exact⟨_,_,rfl,ho,hall⟩
theorem BO{P:Params}{h:Heap}{v:Value}{ds:List WData}(x:Well P h v (.tuple ds)):∃(a:Addr)(vs:List Value),v= .ref a/\h.get? a=some {cls:= .type "tuple",data:= .seq vs.toArray}/\WellAll P h vs ds:=by
 cases x with
 |tuple ho hall=>exact⟨_,_,rfl,ho,hall⟩
theorem Ec{P:Params}{h:Heap}{us:List Value}{d:WData}{ds:List WData}(x:WellAll P h us (d::ds)):∃(v:Value)(vs:List Value),us=v::vs/\Well P h v d/\WellAll P h vs ds:=by
 cases x with
 |cons a b=>exact⟨_,_,rfl,a,b⟩
theorem J7{n:Nat}(h:n<=1048576):n<=sizeLine:=be h VW
section
variable{P:Params}{h:Heap}
mutual
theorem MP:∀(d:WData)(v:Value),Well P h v d->J6 d=true->d.weight<=1048576->∃A:List Addr,K1 A v/\∀a∈A,su h A a
 | .none,_,x,_,_=>by
   cases x;exact⟨[],trivial,λa m=>absurd m (by simp)⟩
 | .bool b,_,x,_,_=>by
   cases x;exact⟨[],trivial,λa m=>absurd m (by simp)⟩
 | .int i,_,x,_,_=>by
   cases x;exact⟨[],trivial,λa m=>absurd m (by simp)⟩
 | .str s,_,x,_,_=>by
   cases x;exact⟨[],trivial,λa m=>absurd m (by simp)⟩
 | .bytes b,_,x,_,_=>by
   cases x;exact⟨[],trivial,λa m=>absurd m (by simp)⟩
 | .list ds,_,x,p,z=>by
   obtain⟨a,vs,rfl,ho,hall⟩:=Ea x;have z2:WData.weightAll ds<=1048576:=z;obtain⟨A,h1,h2⟩:=xY ds _ hall p λd hd=>be (w9 hd) z2;have k:∀b∈A,b∈a::A:=λb hb=>aL _ hb;refine⟨a::A,aV ..,λb hb=>?_⟩;rcases List.mem_cons.mp hb with e|m
   ·rw[e];exact⟨vs,J7 (by rw[og hall];exact be (Qu ds) z2),λu hu=>(h1 u hu).mono k,.inl ho⟩
   ·exact(h2 b m).mono k
 | .tuple ds,_,x,p,z=>by
   obtain⟨a,vs,rfl,ho,hall⟩:=BO x;have z2:WData.weightAll ds<=1048576:=z;obtain⟨A,h1,h2⟩:=xY ds _ hall p λd hd=>be (w9 hd) z2;have k:∀b∈A,b∈a::A:=λb hb=>aL _ hb;refine⟨a::A,aV ..,λb hb=>?_⟩;rcases List.mem_cons.mp hb with e|m
   ·rw[e];exact⟨vs,J7 (by rw[og hall];exact be (Qu ds) z2),λu hu=>(h1 u hu).mono k,.inr ho⟩
   ·exact(h2 b m).mono k
 | .float _,_,_,p,_=>Bool.noConfusion (show false=true from p)
 | .dict _,_,_,p,_=>Bool.noConfusion (show false=true from p)
 | .bytearray _,_,_,p,_=>Bool.noConfusion (show false=true from p)
 | .set _,_,_,p,_=>Bool.noConfusion (show false=true from p)
 | .frozenset _,_,_,p,_=>Bool.noConfusion (show false=true from p)
 | .obj _ _,_,_,p,_=>Bool.noConfusion (show false=true from p)
theorem xY:∀(ds:List WData)(vs:List Value),WellAll P h vs ds->AV ds=true->(∀d∈ds,d.weight<=1048576)->∃A:List Addr,(∀u∈vs,K1 A u)/\∀a∈A,su h A a
 |[],_,x,_,_=>by
  cases x;exact⟨[],λu m=>absurd m (by simp),λa m=>absurd m (by simp)⟩
 |d::ds,_,x,p,z=>by
  obtain⟨v,vs,rfl,x1,x2⟩:=Ec x;have q:J6 d=true/\AV ds=true:=Bool.and_eq_true_iff.mp p;obtain⟨A,a1,a2⟩:=MP d v x1 q.1 (z d (aV ..));obtain⟨B,b1,b2⟩:=xY ds vs x2 q.2 λe he=>z e (aL _ he);have kA:∀b∈A,b∈A++B:=λb hb=>List.mem_append.mpr (.inl hb);have kB:∀b∈B,b∈A++B:=λb hb=>List.mem_append.mpr (.inr hb);refine⟨A++B,λu hu=>?_,λb hb=>?_⟩
  ·rcases List.mem_cons.mp hu with e|m
   ·rw[e];exact a1.mono kA
   ·exact(b1 u m).mono kB
  ·rcases List.mem_append.mp hb with m|m
   ·exact(a2 b m).mono kA
   ·exact(b2 b m).mono kB
end
end
noncomputable def Pc(o:Obj):Option HO:=match o.data with
 | .seq vs _=>if(o.cls==Value.type "list")=true then some (.j0 o (.lst (vs.toList.map toV)))else some (.j0 o (.tup (vs.toList.map toV)))
 |_=>none
noncomputable def qZ(K:PySem.W.Frag)(h:Heap)(A:List Addr):Hp:=λb=>if b∈A then(if(K.lookup b).isNone=true then(h.get? b).bind Pc else none)else none
def Gv(H:Hp):Prop:=∀b,H b=none\/∃o u,H b=some (.j0 o u)
theorem Gw(vs:List Value):Pc {cls:= .type "list",data:= .seq vs.toArray}=some (.j0 {cls:= .type "list",data:= .seq vs.toArray} (.lst (vs.map toV))):=by
 show(if(Value.type "list"==Value.type "list")=true then some (HO.j0 {cls:= .type "list",data:= .seq vs.toArray} (.lst (vs.toArray.toList.map toV)))else some (HO.j0 {cls:= .type "list",data:= .seq vs.toArray} (.tup (vs.toArray.toList.map toV))))=_;rw[ao (Be _)]
theorem Gx(vs:List Value):Pc {cls:= .type "tuple",data:= .seq vs.toArray}=some (.j0 {cls:= .type "tuple",data:= .seq vs.toArray} (.tup (vs.map toV))):=by
 show(if(Value.type "tuple"==Value.type "list")=true then some (HO.j0 {cls:= .type "tuple",data:= .seq vs.toArray} (.lst (vs.toArray.toList.map toV)))else some (HO.j0 {cls:= .type "tuple",data:= .seq vs.toArray} (.tup (vs.toArray.toList.map toV))))=_;rw[ah VW]
section
variable{P:Program}{w:World}{K:PySem.W.Frag}{h:Heap}{A:List Addr}
theorem Bm{b:Addr}{o:Obj}(hb:b∈A)(hk:K.lookup b=none)(e:h.get? b=some o):qZ K h A b=Pc o:=by
 unfold qZ;rw[ao hb,hk,ao (show(none:Option Obj).isNone=true from rfl),e]<;>rfl
theorem Pd{b:Addr}{u:HO}(q:qZ K h A b=some u):b∈A/\K.lookup b=none:=by
 unfold qZ at q;by_cases hb:b∈A
 ·rw[ao hb]at q;cases hk:K.lookup b with
  |none=>exact⟨hb,rfl⟩
  |some o=>
   rw[hk,ah (by simp)]at q;cases q
 ·rw[ah hb]at q;cases q
theorem Bn(ar:∀a∈A,su h A a){b:Addr}{u:HO}(q:qZ K h A b=some u):K.lookup b=none/\∃vs:List Value,vs.length<=sizeLine/\(∀u∈vs,K1 A u)/\
 ((h.get? b=some {cls:= .type "list",data:= .seq vs.toArray}/\u= .j0 {cls:= .type "list",data:= .seq vs.toArray} (.lst (vs.map toV)))\/
  (h.get? b=some {cls:= .type "tuple",data:= .seq vs.toArray}/\u= .j0 {cls:= .type "tuple",data:= .seq vs.toArray} (.tup (vs.map toV)))):=by
 obtain⟨hb,hk⟩:=Pd q;obtain⟨vs,h1,h2,h3⟩:=ar b hb;refine⟨hk,vs,h1,h2,?_⟩;rcases h3 with e|e
 ·rw[Bm hb hk e,Gw]at q;exact .inl ⟨e,(bX q).symm⟩
 ·rw[Bm hb hk e,Gx]at q;exact .inr ⟨e,(bX q).symm⟩
theorem K2(ar:∀a∈A,su h A a):Gv (qZ K h A):=λb=>by
 cases q:qZ K h A b with
 |none=>exact .inl rfl
 |some u=>
  obtain⟨_,vs,_,_,⟨_,e⟩|⟨_,e⟩⟩:=Bn ar q
  ·exact .inr ⟨_,_,by rw[e]⟩
  ·exact .inr ⟨_,_,by rw[e]⟩
theorem Pe(ar:∀a∈A,su h A a):sr P w (qZ K h A) h:=λb u q=>by
 obtain⟨_,vs,h1,h2,⟨e,rfl⟩|⟨e,rfl⟩⟩:=Bn ar q
 ·exact⟨e,by rw[ay];exact h1,vs,_,pX h2,e⟩
 ·exact⟨e,by rw[ay];exact h1,vs,pX h2,_,e,rfl,_,rfl⟩
theorem Bo{c c':Value}{vs us:List Value}(e:(some {cls:=c,data:= .seq vs.toArray}:Option Obj)=some {cls:=c',data:= .seq us.toArray}):c=c'/\vs=us:=by
 have e1:=bX e;have e2:c=c':=bJ Obj.cls e1;have e3:Data.seq vs.toArray=Data.seq us.toArray:=bJ Obj.data e1;injection e3 with e4
 refine⟨e2,?_⟩;have e5:=bJ Array.toList e4;simpa using e5
theorem Vc(KX:K.In h)(ar:∀a∈A,su h A a){a:Addr}{vs:List Value}(ha:a∈A)(e:h.get? a=some {cls:= .type "list",data:= .seq vs.toArray}):(∀u∈vs,K1 A u)/\cN K (qZ K h A) a (vs.map toV):=by
 obtain⟨us,h1,h2,h3⟩:=ar a ha;have hu:us=vs:=by
  rcases h3 with q|q
  ·rw[e]at q;exact(Bo q).2.symm
  ·rw[e]at q;exact absurd (Value.type.inj (Bo q).1) VW
 subst hu;refine⟨h2,?_⟩;cases hk:K.lookup a with
 |none=>exact .inl (.inr ⟨_,by rw[Bm ha hk e,Gw]⟩)
 |some o=>
  have e2:=KX a o hk;rw[e]at e2;obtain rfl:=bX e2;exact .inr ⟨_,us.toArray,_,hk,rfl,rfl,rfl,by rw[bz];exact h1,by simpa using pX h2⟩
theorem Vd(KX:K.In h)(ar:∀a∈A,su h A a){a:Addr}{vs:List Value}(ha:a∈A)(e:h.get? a=some {cls:= .type "tuple",data:= .seq vs.toArray}):(∀u∈vs,K1 A u)/\iK K (qZ K h A) a (vs.map toV):=by
 obtain⟨us,h1,h2,h3⟩:=ar a ha;have hu:us=vs:=by
  rcases h3 with q|q
  ·rw[e]at q;exact absurd (Value.type.inj (Bo q).1) VW
  ·rw[e]at q;exact(Bo q).2.symm
 subst hu;refine⟨h2,?_⟩;cases hk:K.lookup a with
 |none=>exact .inl (.inr ⟨_,by rw[Bm ha hk e,Gx]⟩)
 |some o=>
  have e2:=KX a o hk;rw[e]at e2;obtain rfl:=bX e2;exact .inr ⟨_,us.toArray,_,hk,rfl,rfl,by rw[bz];exact h1,by simpa using pX h2⟩
mutual
theorem RS{Pm:Params}(KX:K.In h)(ar:∀a∈A,su h A a):∀(d:WData)(v:Value),Well Pm h v d->J6 d=true->K1 A v->Dw K (qZ K h A) (toV v) d
 | .none,_,x,_,_=>by
   cases x;exact .gb
 | .bool b,_,x,_,_=>by
   cases x;exact .bl b
 | .int i,_,x,_,_=>by
   cases x;exact .int i
 | .str s,_,x,_,_=>by
   cases x;exact .str s
 | .bytes b,_,x,_,_=>by
   cases x;have z:=Dw.F9 (K:=K) (H:=qZ K h A) b.toArray;exact z
 | .list ds,_,x,p,hu=>by
   obtain⟨a,vs,rfl,ho,hall⟩:=Ea x;obtain⟨h2,hs⟩:=Vc KX ar hu ho;exact .lst hs (Fb KX ar ds _ hall p h2)
 | .tuple ds,_,x,p,hu=>by
   obtain⟨a,vs,rfl,ho,hall⟩:=BO x;obtain⟨h2,hs⟩:=Vd KX ar hu ho;exact .tup hs (Fb KX ar ds _ hall p h2)
 | .float _,_,_,p,_=>Bool.noConfusion (show false=true from p)
 | .dict _,_,_,p,_=>Bool.noConfusion (show false=true from p)
 | .bytearray _,_,_,p,_=>Bool.noConfusion (show false=true from p)
 | .set _,_,_,p,_=>Bool.noConfusion (show false=true from p)
 | .frozenset _,_,_,p,_=>Bool.noConfusion (show false=true from p)
 | .obj _ _,_,_,p,_=>Bool.noConfusion (show false=true from p)
theorem Fb{Pm:Params}(KX:K.In h)(ar:∀a∈A,su h A a):∀(ds:List WData)(vs:List Value),WellAll Pm h vs ds->AV ds=true->(∀u∈vs,K1 A u)->vY K (qZ K h A) (vs.map toV) ds
 |[],_,x,_,_=>by
  cases x;exact .nil
 |d::ds,_,x,p,hu=>by
  obtain⟨v,vs,rfl,x1,x2⟩:=Ec x;have q:J6 d=true/\AV ds=true:=Bool.and_eq_true_iff.mp p;exact .cons (RS KX ar d v x1 q.1 (hu _ (aV ..))) (Fb KX ar ds vs x2 q.2 λu m=>hu u (aL _ m))
end
end
theorem K3{P:Program}{w:World}{K:PySem.W.Frag}{mg mb:Str->Option Value}{CX:HL}{k:Nat}{fa:Addr}{fd:FuncData}{ps:List Str}{sp:Sp}{s₁:Shared}{vals:List Value}{ds:List WData}{R:PySem.W.WRecords}{cl:Str->Option Addr}{d0:WData}
 (KX:K.In s₁.heap) (hns:s₁.heap.Ns mainGlobals mg) (hb:s₁.heap.Ns builtinsNs mb) (hbb:∀x:Str,x≠"__name__"->mb x=bootBuiltins x) (hlim:s₁.heap.NoLimit) (hg:s₁.gens= #[])
 (hwl:WellAll w.params s₁.heap vals ds) (hpl:AV ds=true) (hwt:∀d∈ds,d.weight<=1048576) (hr:fK k callerA)
 (F:∀base:Heap,K.In base->base.Ns mainGlobals mg->lq P w K mg base CX k fa fd ps sp) (hbind:∀(s:Shared)(us:List Value),us.length=ps.length->BindsTo s fd ⟨us,[]⟩ (ps.zip us)) (hlen:ds.length=ps.length)
 (hsp:∀(H:Hp)(xs:List V),Gv H->vY K H xs ds->sp xs H (λv H'=>Dw K H' v d0) λ_ _ _=>False)
 (hCX:∀H e s',CX [] H s₁ (λ_ _ _=>False) e s'->False):
 codeAny (model P w) callerA (.call (.ref fa) ⟨vals,[]⟩) (λr s'=>∃u as,r= .ok (.ret u)/\ReadsW R cl s'.heap u d0 as/\OldK s₁.heap s'.heap/\s'.os=s₁.os/\AllBare s'.gens) s₁:=by
 obtain⟨A,ho,ar⟩:=xY ds vals hwl hpl hwt;have hO:Gv (qZ K s₁.heap A):=K2 ar;have dI:sr P w (qZ K s₁.heap A) s₁.heap:=Pe ar;have hS:=Fb KX ar ds vals hwl hpl ho;have hV:=pX ho;have hK:∀b u,qZ K s₁.heap A b=some u->K.lookup b=none:=λb u q=>(Bn ar q).1;have noA:∀{b:Addr}{o:Obj}{es:Array DictEntry}{ep:Nat},s₁.heap.get? b=some o->o.data= .dict es ep->qZ K s₁.heap A b=none:=λ{b o es ep} e d=>by
  cases q:qZ K s₁.heap A b with
  |none=>rfl
  |some u=>
   obtain⟨_,vs,_,_,⟨e2,_⟩|⟨e2,_⟩⟩:=Bn ar q
   ·rw[e2]at e;cases e;have d':Data.seq vs.toArray _=Data.dict es ep:=d;cases d'
   ·rw[e2]at e;cases e;have d':Data.seq vs.toArray _=Data.dict es ep:=d;cases d'
 generalize qZ K s₁.heap A=H at hO dI hS hK noA;have base_of:∀{b:Addr}{o:Obj},s₁.heap.get? b=some o->H b=none->(ES s₁.heap H).get? b=some o:=λe n=>Md e n;have nsK:∀{b:Addr}{m:Str->Option Value},s₁.heap.Ns b m->(ES s₁.heap H).Ns b m:=λ{b m} ⟨o,es,ep,e,d,r⟩=>⟨o,es,ep,base_of e (noA e d),d,r⟩;have nK:∀b o,K.lookup b=some o->H b=none:=λb o e=>by
  cases q:H b with
  |none=>rfl
  |some u=>
   rw[hK b u q]at e;cases e
 have hKb:K.In (ES s₁.heap H):=λb o e=>base_of (KX b o e) (nK b o e);have hM:Mod K mg (ES s₁.heap H):=⟨hKb,nsK hns,⟨mb,nsK hb,hbb⟩,let⟨mc,h1,h2⟩:=hlim;⟨mc,nsK h1,h2⟩⟩;have e0:Il P w K mg (ES s₁.heap H) callerA [] s₁ H:=⟨rfl,hM,λb o e=>OQ e,gR (KN _ _),trivial,λb hb=>absurd (show b∈([]:List Addr)from hb) (by simp),dI,.of_eq hg⟩;have hl:vals.length=ps.length:=by rw[og hwl];exact hlen
 refine jT ((F _ hKb (nsK hns)).run callerA [] s₁ H ⟨vals,[]⟩ vals (vals.map toV) _ _ hr e0 (hbind s₁ vals hl) hV (hsp H _ hO hS)) λr s' x=>?_;cases r with
 |error e=>exact(hCX H e s' x).elim
 |ok fl=>
  cases fl with
  |next=>exact False.elim x
  |brk=>exact False.elim x
  |cont=>exact False.elim x
  |ret u=>
   obtain⟨v,H',os,bare,un,hok',r',q⟩:=x;have kept:∀b o,s₁.heap.get? b=some o->s'.heap.get? b=some o:=λb o e=>by
    cases q2:H b with
    |none=>exact un.keep b o e q2 (by intro z;exact absurd (show b∈([]:List Addr)from z) (by simp)) (by simp)
    |some u2=>
     rcases hO b with z|⟨ob,u3,z⟩
     ·rw[q2]at z;cases z
     ·have z2:=un.zl b ob _ z;obtain⟨e1,_⟩:=dI b _ z;obtain⟨e2,_⟩:=hok' b _ z2;rw[e]at e1;cases e1;exact e2
   have KX':K.In s'.heap:=λb o e=>kept b o (KX b o e);obtain⟨as,hrd⟩:=Dw.reads (R:=R) (cl:=cl) hok' KX' d0 v u q r';exact⟨u,as,rfl,hrd,OldK.of_keep kept,os,bare⟩
theorem BP{ds:List WData}(h:WData.layableAll ds=true):∀d∈ds,d.weight<=1048576:=λd hd=>
 (PySem.W.layableW_iff.mp (List.all_eq_true.mp h d hd)).2.2
theorem BQ:∀(cs:List Codec)(a:Codec.denoteAll cs),(Codec.encAll cs a).length=cs.length
 |[],_=>rfl
 |c::cs,a=>by
  show(Codec.encAll cs a.2).length+1=cs.length+1;rw[BQ cs a.2]
theorem K4{r:OpenSpec}{k:Nat}{q:Program}{loose:List Str}{XP:(Str->Option Value)->Heap->Prop}{YP:World->Heap->Prop}{d:DefRec}{K:Params->PySem.W.Frag}{CX:World->HL}{ps:List Str}{sp:World->Sp}
 (hwell:r.wellSaid=true) (hdf:d.params.defaults=[]) (hlen:r.args.length=ps.length) (hr:fK k callerA)
 (hY:∀(w:World)(h:Heap),YP w h->(K w.params).In h)
 (F:∀(w:World)(mg:Str->Option Value)(fa:Addr)(h:Heap),YP w h->(K w.params).In h->h.Ns mainGlobals mg->mg d.name=some (.ref fa)->
  ∃fd:FuncData,(∀(s:Shared)(us:List Value),us.length=ps.length->BindsTo s fd ⟨us,[]⟩ (ps.zip us))/\
   ∀base:Heap,(K w.params).In base->base.Ns mainGlobals mg->lq r.prog w (K w.params) mg base (CX w) k fa fd ps (sp w))
 (hsp:∀(w:World)(H:Hp)(xs:List V)(a:Codec.denoteAll r.args),Gv H->Codec.withinAll r.args a=true->Codec.app r.args r.asked a=true->vY (K w.params) H xs (Codec.encAll r.args a)->
  sp w xs H (λv H'=>Dw (K w.params) H' v (r.ret.enc (Codec.app r.args r.f a))) λ_ _ _=>False)
 (hCX:∀(w:World)(H:Hp)(s:Shared)(e:Value)(s':Shared),CX w [] H s (λ_ _ _=>False) e s'->False):
 PySem.W.WalkOS q loose XP YP r d [] (λf vs=>PySem.call f vs):=by
 intro w xJ s₁ mg mb G Y fa o pm cd doc dV kV ho hd hcd hD hmg hg args vals as hpre hlay hrd hwl hlo;obtain⟨a,e1,e2⟩:=PySem.W.os_pre_some hpre;obtain⟨e3,hwi⟩:=Codec.encAll_of_decAll r.args args a e1;subst e3;have KX:=hY w _ Y;obtain⟨fd,hb,hF⟩:=F w mg fa _ Y KX G.T.g hmg;refine PySem.W.enter_call (jT (K3 (R:=[]) (cl:=classAt xJ.heap) (d0:=r.ret.enc (Codec.app r.args r.f a)) KX G.T.g G.T.b G.T.builtins G.T.nolimit hg hwl (D9 _ _) (BP hlay) hr hF hb (by rw[BQ];exact hlen)
  (λH xs hO hS=>hsp w H xs a hO hwi e2 hS) λH e s'=>hCX w H s₁ e s') λr' s' hq=>?_)
 obtain⟨u,as',rfl,h1,h2,h3,h4⟩:=hq;exact⟨.inl ⟨u,_,as',rfl,λ_=>rfl,h1,(OpenSpec.post_iff hwell hwi _ _).mpr rfl,λz=>Bool.noConfusion (show false=true from z)⟩,h2,h3,h4⟩
end L2
end
namespace L2
open PySem PySem.Spec PyProof.Rows
structure Moved(fs ch:List Addr)(h h':Heap):Prop where
 keep:∀b o,b∉fs->b∉ch->h.get? b=some o->h'.get? b=some o
 slot:∀b o,b∈fs->b∉ch->h.get? b=some o->∃sl,h'.get? b=some {o with slots:=sl}
 there:∀b o,h.get? b=some o->∃o',h'.get? b=some o'
 size:h.objs.size<=h'.objs.size
theorem Moved.trans{fs ch:List Addr}{h1 h2 h3:Heap}(x:Moved fs ch h1 h2)(y:Moved fs ch h2 h3):Moved fs ch h1 h3 where
 keep:=λb o hf hc e=>y.keep b o hf hc (x.keep b o hf hc e)
 slot:=λb o hf hc e=>by
  obtain⟨s1,e1⟩:=x.slot b o hf hc e;obtain⟨s2,e2⟩:=y.slot b _ hf hc e1;exact⟨s2,e2⟩
 there:=λb o e=>by
  obtain⟨o1,e1⟩:=x.there b o e;exact y.there b o1 e1
 size:=be x.size y.size
theorem Moved.mono{fs fs' ch ch':List Addr}{h h':Heap}(x:Moved fs ch h h')(hf:∀b,b∈fs->b∈fs')(hc:∀b,b∈ch->b∈ch'):Moved fs' ch' h h' where
 keep:=λb o nf nc e=>x.keep b o (λz=>nf (hf b z)) (λz=>nc (hc b z)) e
 slot:=λb o _ nc e=>by
  by_cases hb:b∈fs
  ·exact x.slot b o hb (λz=>nc (hc b z)) e
  ·exact⟨o.slots,x.keep b o hb (λz=>nc (hc b z)) e⟩
 there:=x.there
 size:=x.size
theorem Moved.after{fs ch ch':List Addr}{h1 h2 h3:Heap}(x:Moved fs ch h1 h2)(y:Moved fs ch' h2 h3)(n:∀b,b∈ch'->b∈ch\/h1.objs.size<=b):Moved fs ch h1 h3 where
 keep:=λb o hf hc e=>y.keep b o hf (λz=>(n b z).elim hc λq=>absurd (aZ (aY e) q) (cV _)) (x.keep b o hf hc e)
 slot:=λb o hf hc e=>by
  obtain⟨s1,e1⟩:=x.slot b o hf hc e;obtain⟨s2,e2⟩:=y.slot b _ hf (λz=>(n b z).elim hc λq=>absurd (aZ (aY e) q) (cV _)) e1;exact⟨s2,e2⟩
 there:=λb o e=>by
  obtain⟨o1,e1⟩:=x.there b o e;exact y.there b o1 e1
 size:=be x.size y.size
def BR(h:Heap)(e:Addr)(cls:Value)(od:Option Addr)(tr:Option Addr)(fl:Value):Prop:=
 ∃(oe:Obj)(vs:Array Value),h.get? e=some oe/\oe.cls=cls/\oe.dict=od/\oe.data= .fields vs/\
  match tr with
  |none=>vs[1]?=some .none
  |some T=>vs[1]?=some (.ref T)/\T≠e/\∃(oT:Obj)(ts:Array Value),h.get? T=some oT/\oT.data= .fields ts/\ts[3]?=some fl
theorem BR.rec{h:Heap}{e:Addr}{cls fl:Value}{od tr:Option Addr}(x:BR h e cls od tr fl){b:Addr}{o:Obj}(hb:b∈e::tr.toList)(q:h.get? b=some o):∃vs,o.data= .fields vs:=by
 obtain⟨oe,vs,h1,h2,h3,h4,h5⟩:=x;rcases List.mem_cons.mp hb with rfl|hb
 ·rw[h1]at q;cases q;exact⟨vs,h4⟩
 ·cases tr with
  |none=>exact nomatch hb
  |some T=>
   obtain⟨_,_,oT,ts,c,d,_⟩:=h5;have e2:b=T:=by simpa using hb
   subst e2;rw[c]at q;cases q;exact⟨ts,d⟩
theorem xZ{o:Obj}{vs:Array Value}(hd:o.data= .fields vs)(f:Array Value->Array Value):o.mapFields f={o with data:= .fields (f vs)}:=by
 obtain⟨c,d,dt,sl⟩:=o;dsimp only at hd;subst hd;rfl
theorem Fc{h:Heap}{a:Addr}{o:Obj}{vs:Array Value}(f:Array Value->Array Value)(e:h.get? a=some o)(hd:o.data= .fields vs):
 (h.update a (Obj.mapFields f)).get? a=some {o with data:= .fields (f vs)}:=by
 have q:=cW (Obj.mapFields f) e (by rw[xZ hd];rfl);rw[q,xZ hd]
theorem zw{h:Heap}{fs:List Addr}{a:Addr}{o:Obj}{vs:Array Value}(f:Array Value->Array Value)(e:h.get? a=some o)(hd:o.data= .fields vs):Moved fs [a] h (h.update a (Obj.mapFields f))where
 keep:=λb u _ hb q=>by
  rw[bC _ _ (λz:a=b=>hb (by simp[z]))];exact q
 slot:=λb u _ hb q=>⟨u.slots,by
  rw[bC _ _ (λz:a=b=>hb (by simp[z]))];exact q⟩
 there:=λb u q=>by
  by_cases z:a=b
  ·subst z;exact⟨_,Fc f e hd⟩
  ·exact⟨u,by rw[bC _ _ z];exact q⟩
 size:=gR (Heap.size_after_update _ _ _).symm
theorem Iv{h:Heap}{fs ch:List Addr}(o:Obj):Moved fs ch h (h.push o)where
 keep:=λb u _ _ q=>aG _ q
 slot:=λb u _ _ q=>⟨u.slots,aG _ q⟩
 there:=λb u q=>⟨u,aG _ q⟩
 size:=by rw[cG];exact nQ _
section
variable{M:Model}{A:Around}{E:Value->Shared->Prop}{s:Shared}
theorem Gy{e T:Addr}{cls fl:Value}{od:Option Addr}{Q:Unit->Shared->Prop}(x:BR s.heap e cls od (some T) fl)
 (h:∀h',Moved [] [T] s.heap h'->BR h' e cls od (some T) .none->Q () {s with heap:=h'}):wpAny M A (setFlight (.ref e) none) Q E s:=by
 obtain⟨oe,vs,h1,h2,h3,h4,h5,h6,oT,ts,h7,h8,h9⟩:=x;have hz:3<ts.size:=(Array.getElem?_eq_some_iff.mp h9).1;unfold setFlight;refine ae (LU h1 h4 h5 ?_);rw[ao (show(Value.ref T !=Value.none)=true from by simp)];refine dq h7 h8 hz (h _ (zw _ h7 h8) ?_);refine⟨oe,vs,?_,h2,h3,h4,h5,h6,_,_,Fc _ h7 h8,rfl,?_⟩
 ·rw[bC _ _ h6];exact h1
 ·simp[hz]
theorem MQ{e:Addr}{cls fl:Value}{od:Option Addr}{Q:Unit->Shared->Prop}(x:BR s.heap e cls od none fl)(h:Q () s):wpAny M A (setFlight (.ref e) none) Q E s:=by
 obtain⟨oe,vs,h1,h2,h3,h4,h5⟩:=x;unfold setFlight;refine ae (LU h1 h4 h5 ?_);rw[ah (show¬((Value.none !=Value.none)=true)from by simp)];exact aA h
theorem J8{base:Heap}{env:Env}{outer:List Env}{L e:Addr}{oe:Obj}{vs:Array Value}{head:Value}{hadNext:Bool}{Q:Unit->Shared->Prop}
 (hfr:A.frames=some (env::outer)) (hl:s.heap.FunFrames base (env::outer)) (hf:env.frame=some L) (he:s.heap.get? e=some oe) (hd:oe.data= .fields vs) (hz:1<vs.size)
 (h:∀h' T,s.heap.objs.size<=T->Moved (xM (env::outer)) [e] s.heap h'->BR h' e oe.cls oe.dict (some T) (rawInt L)->Q () {s with heap:=h'}):
 wpAny M A (do let a<-frameOf env;let pl<-entryPlaceOf L hadNext;let b<-EntryCells.newEntry head a .none (rawInt L) .none pl;setField (.ref e) 1 b) Q E s:=by
 have ne:e∉xM (env::outer):=λhm=>by
  obtain⟨_,o,ho,hn⟩:=hl.mem hm;rw[he]at ho;cases ho;exact hn vs hd
 refine ae (wpAny_frameOf_fun hfr hl hf λh1 hs1=>?_);have m1:Moved (xM (env::outer)) [e] s.heap h1:=⟨λb o nb _ q=>(hs1.2.1 b nb).trans q,λb o _ _ q=>hs1.2.2 b o q,λb o q=>let⟨sl,z⟩:=hs1.2.2 b o q;⟨_,z⟩,gR hs1.1.symm⟩;have e1:h1.get? e=some oe:=(hs1.2.1 e ne).trans he;refine ae (wpAny_entryPlaceOf λpl hpl=>?_);unfold EntryCells.newEntry newFields;refine ae (fe ?_ (hpl.sizeOk5 _ _ _ _ _));generalize hR:([head,Value.ref L,Value.none,rawInt L,Value.none]++(if pl.isEmpty then List.replicate 6 Value.none else pl)).toArray=R;have hR3:R[3]?=some (rawInt L):=by
  rw[<-hR];simp
 have e2:=aG (h:=h1) {cls:= .type "traceback",dict:=none,data:= .fields R} e1;have eT:(h1.push {cls:= .type "traceback",dict:=none,data:= .fields R}).get? h1.objs.size=some {cls:= .type "traceback",dict:=none,data:= .fields R}:=aW h1 rfl;have nT:h1.objs.size≠e:=eM (aY e1);refine dq e2 hd hz (h _ h1.objs.size (gR hs1.1.symm) ?_ ?_)
 ·exact(m1.trans (Iv _)).trans (zw _ e2 hd)
 ·refine⟨_,_,Fc _ e2 hd,rfl,rfl,rfl,?_,nT,{cls:= .type "traceback",dict:=none,data:= .fields R},R,?_,rfl,hR3⟩
  ·simp[hz]
  ·rw[bC _ _ (bh nT)];exact eT
theorem RT{base:Heap}{env:Env}{outer:List Env}{L e:Addr}{cls:Value}{od tr:Option Addr}{Q:Unit->Shared->Prop}
 (hfr:A.frames=some (env::outer)) (hl:s.heap.FunFrames base (env::outer)) (hf:env.frame=some L) (x:BR s.heap e cls od tr .none)
 (h:∀h' T,s.heap.objs.size<=T->Moved (xM (env::outer)) (e::tr.toList) s.heap h'->BR h' e cls od (some T) (rawInt L)->Q () {s with heap:=h'}):wpAny M A (noteFrame (.ref e) env) Q E s:=by
 have xr:=λb o=>x.rec (b:=b) (o:=o);obtain⟨oe,vs,h1,rfl,rfl,h4,h5⟩:=x;unfold noteFrame;simp only[hf];cases tr with
 |none=>
  refine ae (LU h1 h4 h5 ?_);rw[ah (show¬((Value.none !=Value.none)=true)from by simp)];exact J8 hfr hl hf h1 h4 (Array.getElem?_eq_some_iff.mp h5).1 h
 |some T0=>
  obtain⟨h5,h6,oT,ts,h7,h8,h9⟩:=h5;have hz:3<ts.size:=(Array.getElem?_eq_some_iff.mp h9).1;refine ae (LU h1 h4 h5 ?_);rw[ao (show(Value.ref T0 !=Value.none)=true from by simp)];refine ae (LU h7 h8 h9 ?_);rw[ah (show¬((Value.none==rawInt L)=true)from by simp[rawInt])];refine ae (dq h7 h8 hz ?_);have m0:Moved (xM (env::outer)) [T0] s.heap (s.heap.update T0 (Obj.mapFields (·.setIfInBounds 3 Value.none))):=zw _ h7 h8;have e1:(s.heap.update T0 (Obj.mapFields (·.setIfInBounds 3 Value.none))).get? e=some oe:=by
   rw[bC _ _ h6];exact h1
  refine J8 (s:={s with heap:=s.heap.update T0 (Obj.mapFields (·.setIfInBounds 3 Value.none))}) hfr (hl.of_keeps λb o hb hn=>⟨o,?_,rfl⟩) hf e1 h4 (Array.getElem?_eq_some_iff.mp h5).1 λh' T z1 z2 z3=>h h' T (be m0.size z1) ?_ z3
  ·rw[bC _ _ (λz:T0=b=>?_)]
   ·exact hb
   ·obtain⟨ws,hw⟩:=xr b o (by rw[<-z];simp) hb;exact hn ws hw
  ·exact(m0.mono (λ_ z=>z) (by simp)).trans (z2.mono (λ_ z=>z) (by simp))
theorem MR{base:Heap}{env:Env}{outer:List Env}{L e:Addr}{cls:Value}{od tr:Option Addr}{Q:Unit->Shared->Prop}
 (hfr:A.frames=some (env::outer)) (hl:s.heap.FunFrames base (env::outer)) (hf:env.frame=some L) (x:BR s.heap e cls od tr .none)
 (h:∀h' T,s.heap.objs.size<=T->Moved (xM (env::outer)) (e::tr.toList) s.heap h'->BR h' e cls od (some T) .none->Q () {s with heap:=h'}):
 wpAny M A (noteFrame (.ref e) env) (λ_ s1=>wpAny M A (setFlight (.ref e) none) Q E s1) E s:=by
 refine RT hfr hl hf x λh1 T z1 z2 z3=>Gy z3 λh2 m2 z4=>h h2 T z1 (z2.after (m2.mono (by simp) (λ_ q=>q)) λb hb=>?_) z4;have eb:b=T:=by simpa using hb
 subst eb;exact .inr z1
theorem Pf{base:Heap}{env:Env}{outer:List Env}{L e:Addr}{cls:Value}{od tr:Option Addr}{Q:Unit->Shared->Prop}
 (hfr:A.frames=some (env::outer)) (hl:s.heap.FunFrames base (env::outer)) (hf:env.frame=some L) (x:BR s.heap e cls od tr .none)
 (h:∀h' T,s.heap.objs.size<=T->Moved (xM (env::outer)) (e::tr.toList) s.heap h'->BR h' e cls od (some T) .none->Q () {s with heap:=h'}):
 wpAny M A (leaving env (.ref e)) Q E s:=by
 unfold leaving;exact ae (MR hfr hl hf x h)
end
structure vM(K:PySem.W.Frag)(C:Addr):Prop where
 ga:PySem.W.findIn K (.ref C) "__getattribute__"=some (some (.builtin "BaseException.__getattribute__"))
 gk:PySem.W.findIn K (.ref C) "__getattr__"=some none
 sa:PySem.W.findIn K (.ref C) "__setattr__"=some (some (.builtin "object.__setattr__"))
 ba:PySem.W.mroIn K C (.type "BaseException")=some true
 hd:PySem.W.hasDictIn K C=true
section
variable{prog:Program}{w:World}{A:Around}{E:Value->Shared->Prop}{s:Shared}{K:PySem.W.Frag}{x C:Addr}{ox:Obj}{od:Option Obj}{name:Str}{expr:Bool}{Q:Value->Shared->Prop}
theorem Pg:builtinKind "BaseException.__getattribute__"=some .slot:=VY
theorem MS:splitId "BaseException.__getattribute__"=some ("BaseException","__getattribute__"):=VY
theorem Tr:(Value.builtin "BaseException.__getattribute__"==Value.builtin "object.__getattribute__")=false:=VY
theorem RU{v:Value}{tk:Tok}{R:Result->Shared->Prop}(X:K.In s.heap)(I:PySem.W.InstAt s.heap x ox C od)(T:vM K C)(hf:PySem.W.findObj K C od name=some (.value v))(h:R (.ok (.ret v)) s):
 codeAny (model prog w) A (.call (.builtin "BaseException.__getattribute__") ⟨[.ref x,.str name tk],[]⟩) R s:=by
 obtain⟨hp,g,d,t,os⟩:=s;have L0:=I.type (M:=model prog w);have L3:=PySem.W.looks_find (M:=model prog w) X I hf;have L4:PySem.W.Looks (model prog w) hp (isInstance (.ref x) (.type "BaseException")) true:=L0.andThen (HI X T.ba);refine LV F.attr_Exception.ga.plain F.entry_bexc_ga (@JI (model prog w) _ _ _ "BaseException.__getattribute__" "BaseException" "__getattribute__" (.ref x) [.str name tk] [] _ Pg MS L4 (F.args_bexc_ga (.ref x) (.str name tk)) ?_);unfold Builtin.«object.__getattribute__»;refine ae (aA (ae (aA (ae (L0.at (ae (L3.at ?_)))))));exact aA h
theorem Ts{v:Value}(X:K.In s.heap)(I:PySem.W.InstAt s.heap x ox C od)(T:vM K C)(hf:PySem.W.findObj K C od name=some (.value v))(hh:PySem.W.handedIn v=true)(h:Q v {s with toks:=s.toks+1}):
 wpAny (model prog w) A (getAttr (.ref x) name expr) Q E s:=by
 obtain⟨hp,g,d,t,os⟩:=s;have L0:=I.type (M:=model prog w);have L1:=ku (M:=model prog w) X T.ga;have L2:=ku (M:=model prog w) X T.gk;have hx0:(expr&&onTheHeap (Value.builtin "BaseException.__getattribute__"))=false:=by cases expr<;>rfl
 have e1:getAttrBy (.ref x) (.str name t) true expr=holding [.ref x,.str name t] (typeOf (.ref x)>>=λt0=>typeLookup t0 "__getattribute__">>=λo=>match o with
  |none=>unsupported "internal:no-__getattribute__"
  |some ga=>if onTheHeap t0&&ga== .builtin "object.__getattribute__"then getAttrEveryday (.ref x) (.str name t) true else getAttrByItsOwn (.ref x) (.str name t) t0 ga true expr):=rfl
 unfold getAttr;refine ae (wpAny_mkText ?_);rw[e1];refine dP (ae (L0.at (ae (L1.at ?_))));dsimp only;rw[Tr,kz,ah aj];unfold getAttrByItsOwn;refine ae ?_;show wpAny _ _ (typeLookup (.ref C) "__getattr__") _ _ _;refine L2.at (ae (DT (dP ?_)));unfold callGetattribute;rw[hx0,ah aj];unfold boundAndCalled;rw[F.attr_Exception.ga.bind (.ref x)];refine ae (aA (HF (RU X I T hf ?_)));show wpAny _ _ (handedOut v) _ _ _;rw[PySem.W.handedOut_of hh];exact aA h
noncomputable def MT:Value->Bool
 | .ref _=>true
 |_=>false
noncomputable def Fd:List Value:=[.type "Exception",.type "BaseException",.type "object"]
noncomputable def vz(l:List Value):Bool:=l.dropWhile MT==Fd
theorem Iw(self:Value):refuseLoop self "__setattr__" Fd=pure ():=by kernel_rfl
theorem vZ{v:Value}{r:List Value}(e:vz (v::r)=true):(∃c,v= .ref c/\vz r=true)\/v::r=Fd:=by
 unfold vz at e;cases hv:MT v with
 |true=>
  rw[vI,ao hv]at e;cases v<;>first|exact .inl ⟨_,rfl,e⟩|cases hv
 |false=>
  rw[vI,ah (by rw[hv];exact aj)]at e;exact .inr (beq_iff_eq.mp e)
theorem uc(self:Value):∀{l:List Value},vz l=true->refuseLoop self "__setattr__" l=pure ()
 |[],e=>by cases e
 |v::r,e=>by
  rcases vZ e with⟨c,rfl,e2⟩|q
  ·rw[refuseLoop_ref];exact uc self e2
  ·rw[q];exact Iw self
theorem Aq:∀{l:List Value},vz l=true->l.contains (.type "object")=true
 |[],e=>by cases e
 |v::r,e=>by
  rcases vZ e with⟨c,rfl,e2⟩|q
  ·rw[ej,Aq e2,jh]
  ·rw[q];decide
noncomputable def j2(K:PySem.W.Frag)(C:Addr):Bool:=(PySem.W.clsIn K C).any λcd=>vz cd.mro
theorem QG{tk:Tok}{v:Value}{R:Result->Shared->Prop}(X:K.In s.heap)(I:PySem.W.InstAt s.heap x ox C od)(hp:j2 K C=true)(hn:PySem.W.findIn K (.ref C) name=some none)
 (h:∀b,wpAny (model prog w) A.in1 (Builtin.ObjectAttr.storeInOwnDict (.ref x) (.ref C) (.str name tk) name v b)
  (λfin s'=>match fin with| .done f=>R (.ok f) s'| .again c'=>c'.quiet=true/\codeAny (model prog w) A c' R s') (λe s'=>R (.error e) s') s):
 codeAny (model prog w) A (.call (.builtin "object.__setattr__") ⟨[.ref x,.str name tk,v],[]⟩) R s:=by
 have SF:=PySem.F.store_object;obtain⟨cd,hc,ho⟩:=Ba hp;have ne:cd.mro.isEmpty=false:=by
  cases q:cd.mro with
  |nil=>rw[q]at ho;cases ho
  |cons _ _=>rfl
 have sub:PySem.W.Looks (model prog w) s.heap (isInstance (.ref x) (.type "object")) true:=I.type.andThen (HI X (by
  unfold PySem.W.mroIn;rw[hc,Option.bind_some,ah (by rw[ne];decide),Aq ho]))
 have L0:=I.type (M:=model prog w);have hm:PySem.W.Looks (model prog w) s.heap (mroOf (.ref C)) cd.mro:=(vH X hc).andThen .now;have L1:=ku (M:=model prog w) X hn;refine LV SF.slot.plain SF.entry (@JI (model prog w) _ _ s "object.__setattr__" "object" "__setattr__" (.ref x) [.str name tk,v] [] _ SF.kind SF.split sub (SF.args (.ref x) (.str name tk) v) ?_);rw[PySem.W.osa_eq,refuse_eq];refine ae (ae (L0.here (ae (hm.here ?_))));rw[uc _ ho];exact aA (ae (L0.here (ae (L1.here (ae (aA (h _)))))))
end
noncomputable def XO(a C:Addr)(od:Option Addr):HO:= .ext λh=>BR h a (.ref C) od none .none
noncomputable def XD(d:Addr)(fs:List (Str×V)):HO:= .ext λh=>∃mA,h.Ns1 d mA/\∀f,lZ (fs.lookup f) (mA f)
theorem BR.VL{h h':Heap}{e:Addr}{cls fl fl':Value}{od:Option Addr}(x:BR h e cls od none fl)(k:∀o,h.get? e=some o->h'.get? e=some o):BR h' e cls od none fl':=by
 obtain⟨oe,vs,h1,h2,h3,h4,h5⟩:=x;exact⟨oe,vs,k _ h1,h2,h3,h4,h5⟩
section
variable{P:Program}{w:World}{H:Hp}{h:Heap}{a d C:Addr}{od:Option Addr}{fs:List (Str×V)}
theorem QH(x:BR h a (.ref C) od none .none):eI P w H h a (XO a C od):=
 ⟨x,let⟨oe,_,h1,_⟩:=x;⟨oe,h1⟩,λ_ _ y k=>y.VL k⟩
theorem MU(ok:sr P w H h)(e:H a=some (XO a C od)):BR h a (.ref C) od none .none:=
 (show eI P w H h a (XO a C od)from ok a _ e).1
theorem MV{mA:Str->Option Value}(n:h.Ns1 d mA)(r:∀f,lZ (fs.lookup f) (mA f)):eI P w H h d (XD d fs):=
 ⟨⟨mA,n,r⟩,let⟨o,_,_,e,_⟩:=n;⟨o,e⟩,λ_ _ ⟨m,y,q⟩ k=>⟨m,y.at k,q⟩⟩
theorem QI(ok:sr P w H h)(e:H d=some (XD d fs)):∃mA,h.Ns1 d mA/\∀f,lZ (fs.lookup f) (mA f):=
 (show eI P w H h d (XD d fs)from ok d _ e).1
theorem Ed{mA:Str->Option Value}(r:∀f,lZ (fs.lookup f) (mA f)):PySem.Within mA (fs.map (·.1)):=λf hf=>by
 have q:=r f;cases e:fs.lookup f with
 |none=>
  rw[e]at q;exact absurd q.none_of hf
 |some v=>
  exact List.mem_map.mpr ⟨(f,v),cg e,rfl⟩
end
section
variable{X:Cx}{pins:List (Addr×Obj)}{σ:St}{H:Hp}{s:Shared}{a d C:Addr}{fs:List (Str×V)}{f:Str}{v y:V}{A:Around}{E:Value->Shared->Prop}{u:Value}
theorem Iy{oe:Obj}{vs:Array Value}{od:Option Obj}{h:Heap}(h1:h.get? a=some oe)(h2:oe.cls= .ref C)(h4:oe.data= .fields vs)(h3:match oe.dict,od with
 |some dx,some o=>h.get? dx=some o
 |none,none=>True
 |_,_=>False):PySem.W.InstAt h a oe C od:=⟨h1,h2,by unfold PySem.W.notCls;rw[h4],h3⟩
theorem Tt{Q:Unit->Shared->Prop}(I:Inv X pins σ H s)(e:H a=some (XO a C (some d)))(ed:H d=some (XD d fs))(T:vM X.K C)(ho:j2 X.K C=true)(n:df X.K C f)(hl:fs.length<1000)(ry:RelV y u)
 (h:∀s',Inv X pins σ (upd H d (XD d (eG f y fs))) s'->Q () s'):wpAny (model X.prog X.w) A (setAttr (.ref a) f u) Q E s:=by
 obtain⟨oe,vs,h1,h2,h3,h4,h5⟩:=MU I.dI e;obtain⟨mA,hn,r⟩:=QI I.dI ed;obtain⟨o,es,ep,q1,q2⟩:=id hn;have IA:PySem.W.InstAt s.heap a oe C (some o):=Iy h1 h2 h4 (by rw[h3];exact q1);refine LO I.vL IA T.sa (QG (s:={s with toks:=s.toks+1}) I.vL IA ho n λb=>?_);obtain⟨cd,hc,hd'⟩:=Ba T.hd;obtain⟨oc,odi,oda,osl⟩:=oe;dsimp only at h2 h3 h4;subst h2 h3 h4;refine ae (aA (ae (ae (wpAny_loadPart h1 (ae (JH (s:={s with toks:=s.toks+1}) (vH I.vL hc) ?_))))));rw[hd'];refine aA (a:=some d) (ae (aA (ae ?_)));refine wpAny_nsSet1 (s:={s with toks:=s.toks+1}) hn λh' hn2 hs2=>?_;obtain⟨oD,esD,epD,hoD,hdD,hcD⟩:=hn2.count (LP f u (Ed r));have hz:esD.size<=sizeLine:=be hcD (by rw[aT,ay,aM];lia);refine ae (wpAny_lookBehind hoD (by rw[hdD];exact pastItsLine_dict (LW hz)) ?_);refine aA (h _ ?_);refine I.write (x:=d) (e:=d) (by rw[ed];exact True.intro) (.inl rfl) (λb q hb z=>(hs2.2 b hb).trans z) ⟨_,hoD⟩ (MV hn2 λg=>?_);show lZ ((eG f y fs).lookup g) (if g=f then some u else mA g);rw[tX];by_cases q:g=f
 ·rw[ao q,ao q];exact ry
 ·rw[ah q,ah q];exact r g
theorem Tu{Q:Unit->Shared->Prop}(I:Inv X pins σ H s)(e:H a=some (XO a C none))(T:vM X.K C)(ho:j2 X.K C=true)(n:df X.K C f)(ry:RelV y u)
 (h:∀d s',H d=none->d≠a->Inv X pins σ (upd (upd H d (XD d [(f,y)])) a (XO a C (some d))) s'->Q () s'):wpAny (model X.prog X.w) A (setAttr (.ref a) f u) Q E s:=by
 refine W6 (λoe vs=>Xe λh1 h2 h3 h4 h5=>?_) (MU I.dI e);have IA:PySem.W.InstAt s.heap a oe C none:=Iy h1 h2 h4 (by rw[h3];exact True.intro);refine LO I.vL IA T.sa (QG (s:={s with toks:=s.toks+1}) I.vL IA ho n λb=>?_);refine Xa (λcd=>W9 λhc hd'=>?_) (Ba T.hd);obtain⟨oc,odi,oda,osl⟩:=oe;dsimp only at h2 h3 h4;subst h2 h3 h4;refine ae (aA (ae (ae (wpAny_loadPart h1 (ae (JH (s:={s with toks:=s.toks+1}) (vH I.vL hc) ?_))))));rw[hd'];have e1:(s.heap.push PySem.W.emptyDict).get? a=some ⟨.ref C,none,.fields vs,osl⟩:=aG _ h1;have ne:a≠s.heap.objs.size:=bZ (aY h1);have e2:((s.heap.push PySem.W.emptyDict).update a λo=>{o with dict:=some s.heap.objs.size}).get? a=some ⟨.ref C,some s.heap.objs.size,.fields vs,osl⟩:=cW _ e1 rfl;have e3:(s.heap.push PySem.W.emptyDict).get? s.heap.objs.size=some PySem.W.emptyDict:=aW s.heap rfl;have e4:((s.heap.push PySem.W.emptyDict).update a λo=>{o with dict:=some s.heap.objs.size}).get? s.heap.objs.size=some PySem.W.emptyDict:=by
  rw[bC _ _ ne];exact e3
 have n0:Heap.Ns1 ((s.heap.push PySem.W.emptyDict).update a λo=>{o with dict:=some s.heap.objs.size}) s.heap.objs.size (λ_=>none):=Heap.Ns1.of_empty ⟨PySem.W.emptyDict,#[],_,e4,rfl,(λe he=>absurd he (by simp)),λ_=>rfl⟩;have hf:H s.heap.objs.size=none:=I.dI.fresh (aH _);refine ae (m:=alloc PySem.W.emptyDict) (wpAny_alloc (ae (wpAny_update (s:={s with heap:=s.heap.push PySem.W.emptyDict,toks:=s.toks+1}) e1 ?_)));refine aA (a:=some s.heap.objs.size) (ae (aA (ae ?_)));refine wpAny_nsSet1 (s:={s with heap:=(s.heap.push PySem.W.emptyDict).update a λo=>{o with dict:=some s.heap.objs.size},toks:=s.toks+1}) n0 λh' hn2 hs2=>?_;refine Xc (λoD esD epD=>W8 λhoD hdD hcD=>?_) (hn2.count (LP f u (Ed (fs:=[]) (mA:=λ_=>none) λ_=>True.intro)));have hz:esD.size<=sizeLine:=be hcD (by rw[aM];simp);refine ae (wpAny_lookBehind hoD (by rw[hdD];exact pastItsLine_dict (LW hz)) ?_);refine aA (h s.heap.objs.size _ hf (bh ne) ?_);have I1:=I.laid (a:=s.heap.objs.size) (o:=XD s.heap.objs.size []) (h':=s.heap.push PySem.W.emptyDict) (t':=s.toks) (λb u q=>aG _ q) (aH _)
  (MV (mA:=λ_=>none) (Heap.Ns1.of_empty ⟨PySem.W.emptyDict,#[],_,e3,rfl,(λe he=>absurd he (by simp)),λ_=>rfl⟩) λ_=>True.intro)
 have I2:=I1.write (x:=a) (e:=a) (o:=XO a C (some s.heap.objs.size)) (h':=(s.heap.push PySem.W.emptyDict).update a λo=>{o with dict:=some s.heap.objs.size}) (t':=s.toks) (by rw[bt ne,e];exact True.intro) (.inl rfl)
  (λb q hb z=>by rw[bC _ _ (bh hb)];exact z) ⟨_,e2⟩ (QH ⟨_,vs,e2,rfl,rfl,rfl,h5⟩)
 have I3:=I2.write (x:=s.heap.objs.size) (e:=s.heap.objs.size) (o:=XD s.heap.objs.size [(f,y)]) (h':=h') (t':=s.toks+1+1) (by rw[bt (bh ne),aC];exact True.intro) (.inl rfl) (λb q hb z=>(hs2.2 b hb).trans z) ⟨_,hoD⟩ (MV hn2 λg=>?_)
 ·have eq:upd (upd (upd H s.heap.objs.size (XD s.heap.objs.size [])) a (XO a C (some s.heap.objs.size))) s.heap.objs.size (XD s.heap.objs.size [(f,y)])=upd (upd H s.heap.objs.size (XD s.heap.objs.size [(f,y)])) a (XO a C (some s.heap.objs.size)):=by
   funext b
   unfold upd;by_cases z1:b=a
   ·subst z1;simp[ne]
   ·by_cases z2:b=s.heap.objs.size
    ·simp[z2,bh ne]
    ·simp[z1,z2]
  rw[eq]at I3;exact I3
 ·show lZ (List.lookup g [(f,y)]) (if g=f then some u else none);by_cases q:g=f
  ·subst q;rw[ao rfl];simp[List.lookup];exact ry
  ·rw[ah q];have hb:(g==f)=false:=beq_eq_false_iff_ne.mpr q;simp only[List.lookup,hb];exact True.intro
end
noncomputable def v7(K:PySem.W.Frag)(C:Addr):Bool:=match K.lookup C with
 |some ⟨.type "type",_,.cls cd,sl⟩=>(match cd.mro,sl.toList with
  | .ref C'::bm,[_,_,_,_,some (.builtin n),_]=>C'==C&&n=="Exception.__new__"&&!cd.hasDel&&bm.contains (.type "Exception")&&bm.contains (.type "BaseException")&&!bm.contains (.type "AttributeError")&&!bm.contains (.type "NameError")
  |_,_=>false)
 |_=>false
structure Iz(K:PySem.W.Frag)(C f:Addr):Prop where
 ok:v7 K C=true
 init:PySem.W.findIn K (.ref C) "__init__"=some (some (.ref f))
 fn:PySem.W.isFn K (.ref f)=true
 kp:PySem.W.keepIn K (.ref C)=true
structure RV(h:Heap)(C:Addr)(o:Obj)(bm:List Value):Prop where
 at_:h.get? C=some o
 ex:∃nm q N bs hdct sn sub ab col dd k0 k1 k2 k3 k5,o=excClassObj nm q C N bs bm hdct sn sub ab col dd k0 k1 k2 k3 k5 "Exception.__new__"
 sE:bm.contains (.type "Exception")=true
 sB:bm.contains (.type "BaseException")=true
 nA:bm.contains (.type "AttributeError")=false
 nN:bm.contains (.type "NameError")=false
theorem Fe{K:PySem.W.Frag}{h:Heap}{C:Addr}(X:K.In h)(q:v7 K C=true):∃o bm,RV h C o bm:=by
 unfold v7 at q;split at q
 ·rename_i dd cd sl ho;split at q
  ·rename_i C' bm k0 k1 k2 k3 n k5 hm hs;simp only[bP,jg,LY]at q;obtain⟨⟨⟨⟨⟨⟨rfl,rfl⟩,hdel⟩,a1⟩,a2⟩,a3⟩,a4⟩:=q;obtain⟨nm,bs,mro,ns,qn,hd,sn,sub,ab,col,del⟩:=cd;dsimp only at hm hdel;subst hm hdel;have hsl:sl= #[k0,k1,k2,k3,some (.builtin "Exception.__new__"),k5]:=by
    obtain⟨l⟩:=sl;simp only at hs;rw[hs]
   subst hsl;exact⟨_,bm,X _ _ ho,⟨nm,qn,ns,bs,hd,sn,sub,ab,col,dd,k0,k1,k2,k3,k5,rfl⟩,a1,a2,a3,a4⟩
  ·cases q
 ·cases q
abbrev BS(C t:Addr):Obj:={cls:= .ref C,data:= .fields #[.ref t,.none,.none,.none,.bool false,.none]}
abbrev Dv(us:List Value):Obj:={cls:= .type "tuple",data:= .seq us.toArray}
section
variable{prog:Program}{w:World}{A:Around}{R:Result->Shared->Prop}{E:Value->Shared->Prop}{h:Heap}{g:Array GenState}{d:Drawn}{t:Nat}{os:OsState}{C:Addr}{o:Obj}{bm:List Value}{us:List Value}
theorem IB{M:Model}{Q:Unit->Shared->Prop}(Y:RV h C o bm)(hq:Q () ⟨h,g,d,t,os⟩):wpAny M A (checkBuiltinCall "Exception.__new__" ⟨.ref C::us,[]⟩) Q E ⟨h,g,d,t,os⟩:=by
 obtain⟨hC,⟨nm,q,N,bs,hdct,sn,sub,ab,col,dd,k0,k1,k2,k3,k5,rfl⟩,sE,sB,nA,nN⟩:=Y;have FB:=OI;have hc:(Value.ref C::bm).contains (.type "Exception")=true:=by rw[ej,sE,jh]
 have hstar:=FB.noStar;simp only[checkBuiltinCall,FB.newKind,FB.newSplit,FB.newRow]
 repeat (first
  |refine iI hC ?_
  |(refine nX hC ?_;rw[hc])
  |refine wpAny_staticBase_exc hC ?_
  |refine wpAny_madeBy_exc hC ?_
  |simp only[bne_self_eq_false,fm,kx]
  |wp_step)
 exact hq
theorem MW(Y:RV h C o bm)(hz:us.length<=sizeLine)(hq:R (.ok (.ret (.ref (h.objs.size+1)))) ⟨(h.push (Dv us)).push (BS C h.objs.size),g,d,t,os⟩):
 codeAny (model prog w) A (.builtin "Exception.__new__" ⟨.ref C::us,[]⟩) R ⟨h,g,d,t,os⟩:=by
 obtain⟨hC,⟨nm,q,N,bs,hdct,sn,sub,ab,col,dd,k0,k1,k2,k3,k5,rfl⟩,sE,sB,nA,nN⟩:=Y;have FB:=OI;have hends:=FB.ends;have c1:(Value.ref C::bm).contains (.type "Exception")=true:=by rw[ej,sE,jh]
 have c2:(Value.ref C::bm).contains (.type "AttributeError")=false:=by rw[ej,nA];rfl
 have c3:(Value.ref C::bm).contains (.type "NameError")=false:=by rw[ej,nN];rfl
 refine codeAny_builtinAt FB.entry ?_;unfold Builtin.«BaseException.__new__»;refine PySem.wpAt_bind ?_;show PySem.wpAt _ _ _ (stack>>=_) _ _ _;refine PySem.wpAt_bind (PySem.wpAt_stack λp below=>PySem.wpAt_of_wpAny ?_)
 wp_walk
 refine PySem.wpAt_of_wpAny ?_;rw[FB.owner]
 repeat (first
  |with_reducible refine wpAny_madeHere_exc FB.canon hC ?_
  |with_reducible refine iI hC ?_
  |(with_reducible refine nX hC ?_;first|rw[c1]|rw[c2]|rw[c3])
  |wp_step)
 show R _ _;rw[cG];exact hq
theorem Tv{K:PySem.W.Frag}{f:Addr}(X:K.In h)(Mk:Iz K C f)(hz:us.length<=sizeLine)
 (hq:codeAny (model prog w) (A.under (.builtin "type.__call__" ⟨.ref C::us,[]⟩)) (.call (.ref f) ⟨.ref (h.objs.size+1)::us,[]⟩) (PySem.W.InitBack (h.objs.size+1) R) ⟨(h.push (Dv us)).push (BS C h.objs.size),g,d,t,os⟩):
 codeAny (model prog w) A (.call (.ref C) ⟨us,[]⟩) R ⟨h,g,d,t,os⟩:=by
 obtain⟨o,bm,Y⟩:=Fe X Mk.ok;have Y':=Y;obtain⟨hC,⟨nm,q,N,bs,hdct,sn,sub,ab,col,dd,k0,k1,k2,k3,k5,rfl⟩,sE,sB,nA,nN⟩:=Y;have hcall:PySem.W.Looks (model prog w) h (specialOf (.ref C) "__call__") (some (.builtin "type.__call__")):=by
  refine PySem.W.looks_specialIn X ?_;have z:=Mk.kp;unfold PySem.W.keepIn at z;dsimp only at z;split at z
  ·rename_i ho;have e1:=X _ _ ho;rw[hC]at e1;cases e1
  ·exact beq_iff_eq.mp z
  ·cases z
 have typ:PySem.W.Looks (model prog w) h (isInstance (.ref C) (.type "type")) true:=((PySem.W.Looks.ld hC).andThen .now).andThen (PySem.W.Looks.of_pure tc_sub);have hi:=ku (M:=model prog w) X Mk.init;have hb:=λself=>PySem.W.bind_fn (M:=model prog w) X self (beq_iff_eq.mp Mk.fn);refine codeAny_of_tree ?_;show wpAny _ _ (callAny (.ref C) _) _ _ _;refine PySem.W.nd_load hC ?_;show wpAny _ _ (callAny.viaDunder (.ref C) _) _ _ _;unfold callAny.viaDunder;refine ae (hcall.at ?_);dsimp only;rw[tc_bind];refine ae (aA (ae (aA ?_)));refine aA (a:=Fin.again (.call (.builtin "type.__call__") ⟨.ref C::us,[]⟩)) (And.intro rfl ?_);refine codeAny_call_builtin_at (Qv _ VY) entry_typeCall (JI tc_kind tc_split typ (PySem.W.tc_args _ _ _) ?_);unfold Builtin.«type.__call__»
 repeat (first
  |with_reducible refine iI hC ?_
  |with_reducible refine wpAny_madeBy_exc hC ?_
  |wp_step)
 have FB:=OI;refine codeAny_call_builtin_code (Qv _ FB.quiet) (IB Y' (MW Y' hz ?_));show wpAny _ _ _ _ _ _;have k:∀b u,h.get? b=some u->((h.push (Dv us)).push (BS C h.objs.size)).get? b=some u:=λb u e=>aG _ (aG _ e);have hx:((h.push (Dv us)).push (BS C h.objs.size)).get? (h.objs.size+1)=some (BS C h.objs.size):=by heap_get
 have t1:PySem.W.Looks (model prog w) ((h.push (Dv us)).push (BS C h.objs.size)) (typeOf (.ref (h.objs.size+1))) (.ref C):=(PySem.W.Looks.ld hx).andThen .now;have hcC:(Value.ref C::bm).contains (.ref C)=true:=by simp
 have s1:PySem.W.Looks (model prog w) ((h.push (Dv us)).push (BS C h.objs.size)) (isSubtype (.ref C) (.ref C)) true:=λA' Q' E' s' kk qq=>by
  obtain⟨h',g',d',t',os'⟩:=s';refine nX (kk _ _ (k _ _ hC)) ?_;rw[hcC];exact qq
 have i1:=hi.keeps k;have b1:=(hb (.ref (h.objs.size+1))).keeps k;unfold isInstance callSpecial? specialOf;refine ae (ae (t1.at (s1.at ?_)));rw[ah VW];refine ae (dP (ae (ae (t1.at (i1.at ?_)))));refine dP (ae (b1.at (ae (HF ?_))));refine jT hq λr s' z=>?_;rcases r with e|(v|_|_|_)<;>first|exact z|exact z.elim|skip
 obtain⟨rfl,z⟩:=z;exact aA (aA z)
end
noncomputable def del(H:Hp)(a:Addr):Hp:=λb=>if b=a then none else H b
theorem BU{H:Hp}{a:Addr}:del H a a=none:=by unfold del;rw[ao rfl]
theorem q0{H:Hp}{a b:Addr}(h:b≠a):del H a b=H b:=by unfold del;rw[ah h]
theorem MX{H:Hp}{a b:Addr}{o:HO}(h:del H a b=some o):b≠a/\H b=some o:=by
 by_cases z:b=a
 ·subst z;rw[BU]at h;cases h
 ·rw[q0 z]at h;exact⟨z,h⟩
section
variable{X:Cx}{pins:List (Addr×Obj)}{σ:St}{H:Hp}{s:Shared}{a:Addr}{φ:Heap->Prop}
theorem Inv.del(I:Inv X pins σ H s)(e:H a=some (.ext φ)):Inv X pins σ (del H a) s:=by
 have none_:∀b,H b=none->L2.del H a b=none:=λb n=>by
  by_cases z:b=a
  ·rw[z];exact BU
  ·rw[q0 z];exact n
 have un:Un X.fs [] H (L2.del H a) s.heap s.heap:=⟨λ_ _ q _ _ _=>q,λ_ o q _ _ _=>⟨o.slots,q⟩,λb _ _ n _=>none_ b n,λ_ o q _=>⟨o,q⟩,
  λb xs q=>by rw[q0 (cn q e (by intro z;cases z))];exact q,λb o u q=>by rw[q0 (cn q e (by intro z;cases z))];exact q,λb ps q=>⟨#[],by rw[q0 (cn q e (by intro z;cases z)),q];simp⟩⟩
 refine I.un (t':=s.toks) un λb o q=>?_;obtain⟨nb,q⟩:=MX q;exact(I.dI b o q).tE (λ_ _ _ z=>z) (λc z=>by rw[q0 (cn z e (by intro z;cases z))];exact z) λc xs z=>by rw[q0 (cn z e (by intro z;cases z))];exact z
end
structure Ee(lo:Nat)(H:Hp)(h:Heap)(a C:Addr)(od:Option Addr):Prop where
 new:lo<=a
 free:H a=none
 ex:∃tr,BR h a (.ref C) od tr .none/\∀T,tr=some T->lo<=T/\H T=none
theorem Ee.mono{lo lo':Nat}{H:Hp}{h:Heap}{a C:Addr}{od:Option Addr}(x:Ee lo H h a C od)(l:lo'<=lo):Ee lo' H h a C od:=
 let⟨tr,y,z⟩:=x.ex
 ⟨be l x.new,x.free,tr,y,λT q=>⟨be l (z T q).1,(z T q).2⟩⟩
def Ar(P:Program)(w:World):HL:=λouter H s E e s'=>∃(a C:Addr)(od:Option Addr)(H':Hp),e= .ref a/\s'.os=s.os/\AllBare s'.gens/\Un (xM outer) [] H H' s.heap s'.heap/\sr P w H' s'.heap/\
 Ee s.heap.objs.size H' s'.heap a C od/\E (.ref C) od H'
def Ph(X:Cx)(E:XK):Prop:=∀(pins:List (Addr×Obj))(σ:St)(H:Hp)(s:Shared)(a C:Addr)(od:Option Addr),Inv X pins σ H s->Ee X.xJ.heap.objs.size H s.heap a C od->E (.ref C) od H->X.xe (.ref a) s
theorem Ph.passes{X:Cx}{E:XK}(t:Ph X E):gf (Ar X.prog X.w) X E:=by
 rintro pins σ H s e s' I ⟨a,C,od,H',rfl,ho,hb,un,dI,fl,q⟩;exact t pins σ H' s' a C od (I.Qz ho un dI hb λb z=>absurd z (by simp)) (fl.mono I.sz) q
theorem aS{P:Program}{w:World}{K:PySem.W.Frag}{mg:Str->Option Value}{base:Heap}{N:List Str}{qual:Str}{scope:Scope}{f:Addr}{cd:Value}{A:Around}{outer:List Env}{s:Shared}{H:Hp}{E:XK}:
 Ph (tY (Ar P w) P w K mg base N qual scope f cd A outer s H E) E:=by
 intro pins σ H' s' a C od I fl q;have xx:=fl.ex;obtain⟨tr,xa,ht⟩:=xx;show wpAny (model P w) (A.deeper (envOfC qual scope s.heap.objs.size f cd)) (leaving (envOfC qual scope s.heap.objs.size f cd) (.ref a)) (λ_ s''=>Ar P w outer H s E (.ref a) s'') (λe' s''=>Ar P w outer H s E e' s'') s';have hfr:(A.deeper (envOfC qual scope s.heap.objs.size f cd)).frames=some (envOfC qual scope s.heap.objs.size f cd::outer):=I.ok.frames;refine Pf hfr I.stack rfl xa λh' T z1 z2 z3=>?_;have sz:s.heap.objs.size<=s'.heap.objs.size:=I.sz;have u0:Un (xM outer) [] H H' s.heap s'.heap:=I.base;have nL:∀b o,s.heap.get? b=some o->b≠s.heap.objs.size:=λb o e=>bZ (aY e);have nch:∀b o,s.heap.get? b=some o->b∉a::tr.toList:=λb o e hb=>by
  rcases List.mem_cons.mp hb with rfl|hb
  ·exact absurd (aZ (aY e) fl.new) (cV _)
  ·have e2:tr=some b:=by
    cases tr with
    |none=>exact nomatch hb
    |some T0=>
     have:b=T0:=by simpa using hb
     rw[this]
   exact absurd (aZ (aY e) (ht b e2).1) (cV _)
 have hfs:∀b o,s.heap.get? b=some o->b∉xM outer->b∉xM (envOfC qual scope s.heap.objs.size f cd::outer):=λb o e hb hm=>by
  have hm2:b∈s.heap.objs.size::xM outer:=hm;rcases List.mem_cons.mp hm2 with z|z
  ·exact nL b o e z
  ·exact hb z
 have hsl:∀b o,s'.heap.get? b=some o->b∉a::tr.toList->∃sl,h'.get? b=some {o with slots:=sl}:=λb o e hc=>by
  by_cases hm:b∈xM (envOfC qual scope s.heap.objs.size f cd::outer)
  ·exact z2.slot b o hm hc e
  ·exact⟨o.slots,z2.keep b o hm hc e⟩
 refine⟨a,C,od,H',rfl,I.os,I.bare,⟨λb o e n hb hx=>?_,λb o e n hb hx=>?_,u0.free,λb o e hx=>?_,u0.By,u0.zl,u0.Bz⟩,λb o e=>?_,⟨fl.new,fl.free,some T,z3,λT' e=>?_⟩,q⟩
 ·exact z2.keep b o (hfs b o e hb) (nch b o e) (u0.keep b o e n hb hx)
 ·obtain⟨sl,e1⟩:=u0.slot b o e n hb hx;obtain⟨sl',e2⟩:=hsl b _ e1 (nch b o e);exact⟨sl',e2⟩
 ·obtain⟨o',e1⟩:=u0.there b o e hx;exact z2.there b o' e1
 ·have nt1:∀c u,H' c=some u->c∉xM (envOfC qual scope s.heap.objs.size f cd::outer):=λc u q z=>by
   have n0:=I.Bi c z;rw[q]at n0;cases n0
  have nt2:∀c u,H' c=some u->c∉a::tr.toList:=λc u q z=>by
   rcases List.mem_cons.mp z with rfl|z
   ·rw[fl.free]at q;cases q
   ·have e2:tr=some c:=by
     cases tr with
     |none=>exact nomatch z
     |some T0=>
      have:c=T0:=by simpa using z
      rw[this]
    rw[(ht c e2).2]at q;cases q
  have nt:∀c u,H' c=some u->c∉xM (envOfC qual scope s.heap.objs.size f cd::outer)/\c∉a::tr.toList:=λc u q=>⟨nt1 c u q,nt2 c u q⟩;refine(I.dI b o e).tE (λc u hc q=>?_) (λ_ q=>q) λ_ _ q=>q;rcases hc with rfl|hc
  ·exact z2.keep c u (nt c o e).1 (nt c o e).2 q
  ·exact z2.keep c u (nt c _ hc).1 (nt c _ hc).2 q
 ·cases e;refine⟨be sz z1,I.dI.fresh z1⟩
section
variable{X:Cx}{CX:HL}{k:Nat}{f C:Addr}{fd:FuncData}{ps:List Str}{sp:Sp}{dvs:List V}{ds:List Value}{E Ei:XK}{x:Str}{p pos cpos:Pos}{e:Expr}{es:List Expr}{t:TA}
theorem Inv.Tw{pins:List (Addr×Obj)}{σ:St}{H:Hp}{s:Shared}(I:Inv X pins σ H s)(us:List Value):Inv X pins σ (upd H (s.heap.objs.size+1) (XO (s.heap.objs.size+1) C none)) {s with heap:=(s.heap.push (Dv us)).push (BS C s.heap.objs.size)}:=by
 have e2:((s.heap.push (Dv us)).push (BS C s.heap.objs.size)).get? (s.heap.objs.size+1)=some (BS C s.heap.objs.size):=by
  have z:=aW (s.heap.push (Dv us)) (o:=BS C s.heap.objs.size) rfl
  rwa [cG]at z
 have I1:=I.kept (h':=s.heap.push (Dv us)) (t':=s.toks) λb u q=>aG _ q;exact I1.laid (a:=s.heap.objs.size+1) (o:=XO (s.heap.objs.size+1) C none) (t':=s.toks) (λb u q=>aG _ q) (gR (cG _ _)) (QH ⟨_,_,e2,rfl,rfl,rfl,rfl⟩)
theorem Ef{pins:List (Addr×Obj)}{σ:St}{H:Hp}{s:Shared}{Q:Value->Shared->Prop}{us:List Value}{vs:List V}(M:Iz X.K C f)(F:lq X.prog X.w X.K X.mg X.base CX k f fd ps sp)(hr:fK (k+1) X.A)(hb:Binds X.K fd ps ds)(hd:cE dvs ds)
 (hx:gf CX X Ei) (I:Inv X pins σ H s) (r:cE vs us) (hz:us.length<=sizeLine) {Qh:Addr->Hp->Prop}
 (h:∀a,H a=none->sp (.ref a::(vs++dvs)) (upd H a (XO a C none)) (λv H2=>v= .gb/\Qh a H2) Ei)
 (hq:∀a H2 s2,X.xJ.heap.objs.size<=a->Inv X pins σ H2 s2->Qh a H2->Q (.ref a) s2):
 wpAny (model X.prog X.w) X.A (call (.ref C) us) Q X.xe s:=by
 have hh:=h (s.heap.objs.size+1) (I.dI.fresh (nQ _));have I2:=I.Tw (C:=C) us;have r2:cE (V.ref (s.heap.objs.size+1)::(vs++dvs)) (Value.ref (s.heap.objs.size+1)::(us++ds)):= .cons rfl (r.append hd);have hl:(Value.ref (s.heap.objs.size+1)::us++ds).length=ps.length:=by
  have e:=r2.length;rw[F.len _ _ _ _ hh]at e;exact e.symm
 have sz:X.xJ.heap.objs.size<=s.heap.objs.size+1:=LW I.sz;refine HF ?_;obtain⟨hp,g,d,tk,os⟩:=s;refine Tv I.vL M hz (jT (F.run _ X.stack _ _ ⟨Value.ref (hp.objs.size+1)::us,[]⟩ (Value.ref (hp.objs.size+1)::(us++ds)) _ _ Ei (hr.make C us []) (I2.Rx.make C us []) (hb _ (Value.ref (hp.objs.size+1)::us) I2.vL hl) r2 hh) λr s' hq'=>?_);cases r with
 |error e=>exact hx pins σ _ _ e s' I2 hq'
 |ok fl=>
  cases fl with
  |ret u=>
   obtain⟨v,H',I3,rv,ev,q3⟩:=I2.after hq';subst ev;exact⟨rv,hq _ _ _ sz I3 q3⟩
  |next=>exact False.elim hq'
  |brk=>exact False.elim hq'
  |cont=>exact False.elim hq'
theorem J9{M:Model}{A:Around}{env:Env}{EE:Value->Shared->Prop}{s:Shared}{ex:Sem Value}{Q:Flow->Shared->Prop}{K:PySem.W.Frag}(hh:A.handled=none)
 (h:wpAny M A ex (λv s1=>∃a C od,v= .ref a/\K.In s1.heap/\v7 K C=true/\BR s1.heap a (.ref C) od none .none/\EE (.ref a) s1) EE s):wpAny M A (raiseStmt env (some ex) none) Q EE s:=by
 unfold raiseStmt;refine ae (dN h (λv s1 h1=>?_) λ_ _ z=>z);revert h1;refine Xc λa C od=>Xe λe0_ KX hm xa hE=>?_;subst e0_;have xa0:=xa;revert xa;refine W6 λoe vs=>Xe λh1 h2 h3 h4 h5=>?_;obtain⟨oc,odi,oda,osl⟩:=oe;dsimp only at h2 h3 h4;subst h2 h3 h4;obtain⟨oC,bm,hC,⟨nm,q,N,bs,hdct,sn,sub,ab,col,dd,k0,k1,k2,k3,k5,rfl⟩,sE,sB,nA,nN⟩:=Fe KX hm;have hcB:(Value.ref C::bm).contains (.type "BaseException")=true:=by rw[ej,sB,jh]
 obtain⟨hp,g,d,tk,os⟩:=s1
 repeat (first
  |with_reducible refine iI h1 ?_
  |with_reducible refine iI hC ?_
  |(with_reducible refine nX hC ?_;rw[hcB])
  |with_reducible refine MQ xa0 ?_
  |wp_step)
 exact wpAny_raiseNew_none hh hE
def Ff(C:Addr)(sp:Sp)(dvs:List V)(Ei E:XK)(t:TA):TS:=λ_ σ H=>t σ H λvs H1=>vs.length<=sizeLine/\∀a,H1 a=none->sp (.ref a::(vs++dvs)) (upd H1 a (XO a C none)) (λv H2=>v= .gb/\∃od,H2 a=some (XO a C od)/\E (.ref C) od (del H2 a)) Ei
theorem Gz{pins:List (Addr×Obj)}{σ:St}{H2:Hp}{s2:Shared}{a:Addr}{od:Option Addr}(M:Iz X.K C f)(ht:Ph X E)(sz:X.xJ.heap.objs.size<=a)(I2:Inv X pins σ H2 s2)(e2:H2 a=some (XO a C od))(q:E (.ref C) od (del H2 a)):
 ∃a' C' od',Value.ref a= .ref a'/\X.K.In s2.heap/\v7 X.K C'=true/\BR s2.heap a' (.ref C') od' none .none/\X.xe (.ref a') s2:=
 have xa:=MU I2.dI e2
 ⟨a,C,od,rfl,I2.vL,M.ok,xa,ht pins σ (del H2 a) s2 a C od (I2.del e2) ⟨sz,BU,none,xa,λT z=>nomatch z⟩ q⟩
theorem MY(M:Iz X.K C f)(F:lq X.prog X.w X.K X.mg X.base CX k f fd ps sp)(hr:fK (k+1) X.A)(hg:Gl X x)(hm:X.mg x=some (.ref C))(hb:Binds X.K fd ps ds)(hd:cE dvs ds)(hx:gf CX X Ei)(ht:Ph X E)
 (ha:PA X (e::es) t) (hdb:(x==("__debug__":Str))=false:=by decide) (he:starEach (e::es) X.env=(false,eval e X.env)::starEach es X.env:=by rfl) (hpl:(backTo cpos (starEach es X.env)).any (·.1)=false:=by rfl):
 PS X (.Raise (some (.Call (.Name x p) (e::es) [] cpos)) none pos) (Ff C sp dvs Ei E t):=by
 intro pins s σ H D I h;rw[arm_exec_Raise];refine ae (pK (J9 (K:=X.K) hr.hd (ae (dN (gS (nY I hg hm ?_ hdb)) (λv s3 h3=>ae (pK (aA h3))) λ_ _ z=>z))));refine nH (h₀:=X.base) I.ok.mod.Qx M.kp (eu (ha cpos pins s σ H _ I h) λus s1 ⟨vs,H1,I1,r,hz,q⟩=>⟨I1.vL,?_⟩) he hpl;exact Ef M F hr hb hd hx I1 r (by show us.length<=sizeLine;rw[<-r.length];exact hz) (Qh:=λa H2=>∃od,H2 a=some (XO a C od)/\E (.ref C) od (del H2 a)) q λa H2 s2 sz I2 ⟨od,e2,q2⟩=>Gz M ht sz I2 e2 q2
theorem K5(M:Iz X.K C f)(F:lq X.prog X.w X.K X.mg X.base CX k f fd ps sp)(hr:fK (k+1) X.A)(hg:Gl X x)(hm:X.mg x=some (.ref C))(hb:Binds X.K fd ps ds)(hd:cE dvs ds)(hx:gf CX X Ei)(ht:Ph X E)
 (hdb:(x==("__debug__":Str))=false:=by decide):PS X (.Raise (some (.Call (.Name x p) [] [] cpos)) none pos) (Ff C sp dvs Ei E Ik):=by
 intro pins s σ H D I h;rw[arm_exec_Raise];refine ae (pK (J9 (K:=X.K) hr.hd (ae (dN (gS (nY I hg hm ?_ hdb)) (λv s3 h3=>ae (pK (aA h3))) λ_ _ z=>z))));exact HG I.vL M.kp (Ef (us:=[]) M F hr hb hd hx I .nil (br _) (Qh:=λa H2=>∃od,H2 a=some (XO a C od)/\E (.ref C) od (del H2 a)) h.2 λa H2 s2 sz I2 ⟨od,e2,q2⟩=>Gz M ht sz I2 e2 q2)
def Tz(K:PySem.W.Frag)(ta tv:TE)(g:Str):TS:=λD σ H=>tv σ H λy H1=>ta σ H1 λz H2=>∃a C,z= .ref a/\vM K C/\j2 K C=true/\df K C g/\
 ((H2 a=some (XO a C none)/\∀d,H2 d=none->d≠a->D.nx σ (upd (upd H2 d (XD d [(g,y)])) a (XO a C (some d))))\/∃d fs,H2 a=some (XO a C (some d))/\H2 d=some (XD d fs)/\fs.length<1000/\D.nx σ (upd H2 d (XD d (eG g y fs))))
theorem Fg{o value:Expr}{g:Str}{pos':Pos}{ta tv:TE}(ha:PE X o ta)(hv:PE X value tv)(hs:swapsWith value (some (.Attribute o g pos')) pos.line X.env=pure false):PS X (.Assign [.Attribute o g pos'] value pos) (Tz X.K ta tv g):=by
 intro pins s σ H D I h;refine plainObj_wpAny_Assign_Attribute (eu (hv pins s σ H _ I h) λu s1 ⟨y,H1,I1,ry,q⟩=>eu (ha pins s1 σ H1 _ I1 q) λov s2=>W6 λz H2=>W8 λI2 rx=>W6 λa C=>Xe λex T ho n q2=>?_) hs;subst ex;obtain rfl:ov=Value.ref a:=rx;rcases q2 with⟨ea,q2⟩|⟨d,fs,ea,ed,hl,q2⟩
 ·exact Tu I2 ea T ho n ry λd s3 h1 h2 I3=>⟨σ,_,I3,q2 d h1 h2⟩
 ·exact Tt I2 ea ed T ho n hl ry λs3 I3=>⟨σ,_,I3,q2⟩
end
section
variable{P:Program}{w:World}{K:PySem.W.Frag}{mg:Str->Option Value}{base:Heap}
theorem OM.Vu{x qual:Str}{st:Stmt}{f:Addr}{fd:FuncData}{N ps:List Str}{k:Nat}{sp:Sp}(F:OM K x qual st f fd)(S:aU N ps (aI st))(len:∀vs H Q E,sp vs H Q E->vs.length=ps.length)
 (hbody:∀(cdv:Value)(A:Around)(outer:List Env)(s:Shared)(H:Hp)(vs:List V)(Q:VK)(E:XK),fK k (A.deeper (envOfC qual (aI st) s.heap.objs.size f cdv))->sp vs H Q E->
  ∃t,Gd (tY (Ar P w) P w K mg base N qual (aI st) f cdv A outer s H E) (kE st) t/\t {nx:=λ_ H'=>Q .gb H',rt:=Q} (start N vs) H):lq P w K mg base (Ar P w) (k+1) f fd ps sp:=by
 refine W7 (λoc od kV doc=>W7 λpm an cdv ct=>Xa λosl=>W8 λe0_ lk hcd=>?_) F.ex;subst e0_;exact S8 lk hcd S len λA outer s H vs Q E hr hsp=>hbody cdv A outer s H vs Q E hr hsp
end
section
variable{X:Cx}{σ:St}{H:Hp}{s:Shared}{h':Heap}
theorem Inv.moved{a:Addr}{cls fl:Value}{od tr:Option Addr}{t':Nat}(I:Inv X [] σ H s)(hp:X.pn=[])(x:BR s.heap a cls od tr fl)(ha:X.xJ.heap.objs.size<=a/\H a=none)
 (ht:∀T,tr=some T->X.xJ.heap.objs.size<=T/\H T=none) (m:Moved (xM X.stack) (a::tr.toList) s.heap h'):Inv X [] σ H {s with heap:=h',toks:=t'}:=by
 have hc:∀b∈a::tr.toList,X.xJ.heap.objs.size<=b/\H b=none:=λb hb=>by
  rcases List.mem_cons.mp hb with rfl|hb
  ·exact ha
  ·cases tr with
   |none=>exact nomatch hb
   |some T0=>
    have e:b=T0:=by simpa using hb
    rw[e];exact ht T0 rfl
 have hr:∀b∈a::tr.toList,∀o,s.heap.get? b=some o->∃vs,o.data= .fields vs:=λb hb o q=>x.rec hb q;have nL:X.env.locals∉a::tr.toList:=λz=>by
  obtain⟨m,⟨o,es,ep,ho,hd,_⟩,_⟩:=I.loc;obtain⟨vs,e⟩:=hr _ z o ho;rw[hd]at e;cases e
 have nC:∀y c,X.env.cells.lookup y=some c->c∉a::tr.toList:=λy c e z=>by
  obtain⟨v,o,ho,hd⟩:=I.cell y c e;obtain⟨vs,q⟩:=hr _ z o ho;rw[hd]at q;cases q
 have any:∀b o,s.heap.get? b=some o->b∉a::tr.toList->∃sl,h'.get? b=some {o with slots:=sl}:=λb o e n=>by
  by_cases hm:b∈xM X.stack
  ·exact m.slot b o hm n e
  ·exact⟨o.slots,m.keep b o hm n e⟩
 refine I.step (g':=s.gens) (d':=s.drawn) (ch:=a::tr.toList) (λb hb=>⟨.inr (hc b hb).1,λz=>nL (z▸hb),λy c e z=>nC y c e (z▸hb),λp hp'=>?_⟩) (λb o n1 n2 n3 e _=>?_) (λb o _ _ n3 e _=>any b o e n3) (λ_ _ _ _ n=>n) (λb o _ e=>m.there b o e)
  (λ_ _ e=>e) (λ_ _ _ e=>e) (λb ps e=>⟨#[],by rw[e];simp⟩) (λmm hm=>?_) (λb u e=>?_) I.bare
 ·rw[hp]at hp';exact absurd hp' (by simp)
 ·exact m.keep b o (λz=>(List.mem_cons.mp (I.ET b z)).elim n1 n2) n3 e
 ·obtain⟨o,es,ep,ho,r⟩:=hm;obtain⟨sl,q⟩:=any _ o ho nL;exact⟨_,es,ep,q,r⟩
 ·have nt:∀c u,H c=some u->c∉xM X.stack/\c∉a::tr.toList:=λc u q=>⟨λz=>(by
   have n0:=I.Bi c z;rw[q]at n0;cases n0),λz=>(by
   have n0:=(hc c z).2;rw[q]at n0;cases n0)⟩
  refine(I.dI b u e).tE (λc v hc' q=>?_) (λ_ q=>q) λ_ _ q=>q;rcases hc' with rfl|hc'
  ·exact m.keep c v (nt c u e).1 (nt c u e).2 q
  ·exact m.keep c v (nt c _ hc').1 (nt c _ hc').2 q
abbrev Cx.ON(X:Cx)(a:Addr)(oe:Obj):Cx:={X with A:=X.A.mark (some (.ref a)),calm:=false,pn:=X.pn++[(a,oe)],xe:=λ_ _=>False}
theorem Inv.ON{a:Addr}{oe:Obj}{vs:Array Value}(I:Inv X [] σ H s)(e:s.heap.get? a=some oe)(n:H a=none)(hd:oe.data= .fields vs):Inv (X.ON a oe) [] σ H s:=by
 have ok:=I.ok;refine⟨⟨ok.mod,ok.kind,ok.glob,ok.blt,ok.above,ok.inj,ok.has,ok.Ri,λz=>Bool.noConfusion z,ok.frames,ok.SH,ok.SI,ok.bs,ok.Me,ok.HX,ok.HY,ok.wZ,ok.OR⟩,I.os,I.bare,I.base,I.loc,I.cell,I.free,I.kJ,λp hp=>?_,I.dI,I.len⟩;have hp:p∈(X.pn++[(a,oe)])++[]:=hp;rw[bD]at hp;rcases List.mem_append.mp hp with z|z
 ·exact I.pin p (cY _ z)
 ·have ep:p=(a,oe):=by simpa using z
  subst ep;refine⟨e,n,λq=>?_,λq=>?_,λv q=>?_⟩
  ·have q:a=X.env.locals:=q;obtain⟨m,⟨o,es,ep,ho,hd',_⟩,_⟩:=I.loc;rw[<-q,e]at ho;cases ho;rw[hd]at hd';cases hd'
  ·obtain⟨_,o,ho,hn⟩:=I.wZ.mem q;rw[e]at ho;cases ho;exact hn vs hd
  ·have q:oe.data= .cell v:=q;rw[hd]at q;cases q
theorem Inv.Ka{a:Addr}{oe:Obj}(I:Inv (X.ON a oe) [] σ H s)(hd:X.calm=true->X.A.handled=none):Inv X [] σ H s:=by
 have ok:=I.ok;exact⟨⟨ok.mod,ok.kind,ok.glob,ok.blt,ok.above,ok.inj,ok.has,ok.Ri,hd,ok.frames,ok.SH,ok.SI,ok.bs,ok.Me,ok.HX,ok.HY,ok.wZ,ok.OR⟩,I.os,I.bare,I.base,I.loc,I.cell,I.free,I.kJ,λp hp=>I.pin p (by
  have hp:p∈X.pn++[]:=hp;rw[bD]at hp;exact cY _ (cY _ hp)),I.dI,I.len⟩
end
def TB(X:Cx)(ta:TE)(f:Str):TE:=λσ H Q=>ta σ H λx H1=>∃a C oe d fs v vs,x= .ref a/\(a,oe)∈X.pn/\oe.cls= .ref C/\oe.dict=some d/\oe.data= .fields vs/\vM X.K C/\df X.K C f/\H1 d=some (XD d fs)/\fs.lookup f=some v/\Q v H1
theorem x4{X:Cx}{e:Expr}{f:Str}{pos:Pos}{ta:TE}(he:PE X e ta)(hb:attributeBase e f X.env (eval e X.env)=eval e X.env):PE X (.Attribute e f pos) (TB X ta f):=by
 intro pins s σ H Q I h;refine JP hb (eu (he pins s σ H _ I h) λu s1=>W6 λx H1=>W8 λI1 rx=>W7 λa C oe d=>Xc λfs v vs=>Xb λex hp h2 h3 h4=>Xe λT n ed hl q=>?_);subst ex;obtain rfl:u=Value.ref a:=rx;obtain⟨h1,_⟩:=I1.pin (a,oe) (cY _ hp);refine Xa (λmA=>W9 λhn r=>?_) (QI I1.dI ed);refine Xa (λo=>W9 λho hlk=>?_) (DY hn);have IA:PySem.W.InstAt s1.heap a oe C (some o):=Iy h1 h2 h4 (by rw[h3];exact ho);obtain⟨u,hu,ru⟩:=lZ.some_of (v:=v) (o:=mA f) (by rw[<-hl];exact r f);exact Ts I1.vL IA T (PySem.W.findObj_own T.hd n rfl (by rw[hlk,hu])) (DZ ru) ⟨v,H1,I1.tok _,ru,q⟩
theorem K6{M:Model}{A:Around}{E:Value->Shared->Prop}{s:Shared}{K:PySem.W.Frag}{a C CH:Addr}{od tr:Option Addr}{fl:Value}{Q:Bool->Shared->Prop}(KX:K.In s.heap)(hC:v7 K C=true)(hH:v7 K CH=true)(hm:PySem.W.mroIn K C (.ref CH)=some true)
 (xa:BR s.heap a (.ref C) od tr fl) (hq:Q true s):wpAny M A (excMatches (.ref a) (.ref CH)) Q E s:=by
 obtain⟨hp,g,d,t,os⟩:=s;revert xa;refine W6 λoe vs=>Xe λh1 h2 h3 h4 h5=>?_;obtain⟨oH,bH,gH,⟨nm,q,N,bs,hdct,sn,sub,ab,col,dd,k0,k1,k2,k3,k5,rfl⟩,sE,sB,nA,nN⟩:=Fe KX hH;have hcB:(Value.ref CH::bH).contains (.type "BaseException")=true:=by rw[ej,sB,jh]
 have LM:=HI (M:=M) KX hm;have f:=tc_notTuple;have f2:=tc_sub;unfold excMatches
 repeat (first
  |(with_reducible refine iI h1 ?_;rw[h2])
  |with_reducible refine iI gH ?_
  |(with_reducible refine nX gH ?_;rw[hcB])
  |with_reducible refine LM.at ?_
  |wp_step)
 exact hq
def Uv(X:Cx)(st:Stmt)(t:TS):Prop:=∀(s:Shared)(σ:St)(H:Hp)(D:Ends),Inv X [] σ H s->t D σ H->wpAny (model X.prog X.w) X.A (exec st X.env) (SP X [] D) X.xe s
def IC(X:Cx)(st:List Stmt)(t:TS):Prop:=∀(s:Shared)(σ:St)(H:Hp)(D:Ends),Inv X [] σ H s->t D σ H->wpAny (model X.prog X.w) X.A (execs st X.env) (SP X [] D) X.xe s
theorem PS.zero{X:Cx}{st:Stmt}{t:TS}(h:PS X st t):Uv X st t:=λs σ H D I q=>h [] s σ H D I q
theorem Gd.zero{X:Cx}{st:List Stmt}{t:TS}(h:Gd X st t):IC X st t:=λs σ H D I q=>h [] s σ H D I q
theorem zx{X:Cx}{st:Stmt}{rest:List Stmt}{t u:TS}(h1:Uv X st t)(h2:IC X rest u):IC X (st::rest) (SV t u):=by
 intro s σ H D I h;refine F4 (eu (h1 s σ H {D with nx:=u D} I h) λf s1 q=>?_);cases f with
 |next=>
  obtain⟨σ',H',I',q⟩:=q;exact h2 s1 σ' H' D I' q
 |ret v=>exact q
 |brk=>exact q
 |cont=>exact q
theorem MZ{X:Cx}{st:Stmt}{t:TS}(h1:Uv X st t):IC X [st] t:=by
 intro s σ H D I h;refine F4 (eu (h1 s σ H D I h) λf s1 q=>?_);cases f with
 |next=>exact pS q
 |ret v=>exact q
 |brk=>exact q
 |cont=>exact q
def QJ(X:Cx)(E:XK):Value->Shared->Prop:=λe s'=>∃(σ:St)(H:Hp)(a C:Addr)(od:Option Addr),e= .ref a/\Inv X [] σ H s'/\Ee X.xJ.heap.objs.size H s'.heap a C od/\E (.ref C) od H
theorem Fh{X:Cx}{E:XK}:Ph (X.BC (QJ X E)) E:=λpins σ H s a C od I fl q=>⟨σ,H,a,C,od,rfl,(I.qS).EU λp hp=>absurd hp (by simp),fl,q⟩
noncomputable def iP(n:Nat):St:=List.replicate n none
noncomputable def Ends.forget(n:Nat)(D:Ends):Ends:={nx:=λ_ H=>D.nx (iP n) H,rt:=D.rt,bk:=λ_ H=>D.bk (iP n) H,ct:=λ_ H=>D.ct (iP n) H}
def Ve(K:PySem.W.Frag)(n i:Nat)(CH:Addr)(tb:TS)(Eb:XK)(ts:Addr->Obj->TS):TS:=λD σ H=>tb D σ H/\∀(C:Addr)(od:Option Addr)(H':Hp),Eb (.ref C) od H'->v7 K C=true/\PySem.W.mroIn K C (.ref CH)=some true/\
 ∀(a:Addr)(oe:Obj)(vs:Array Value),oe.cls= .ref C->oe.dict=od->oe.data= .fields vs->H' a=none->ts a oe (D.forget n) ((iP n).set i (some (.ref a))) H'
theorem Fi{X:Cx}{σ:St}{H:Hp}{s:Shared}{M:Model}{A:Around}{E:Value->Shared->Prop}{n:Str}{pos:Pos}{Q:Unit->Shared->Prop}(I:Inv X [] σ H s)(hlo:X.env.scope.names.lookup n=some .local)
 (h:∀s',Inv X [] (iP X.N.length) H s'->Q () s'):wpAny M A (do bindName X.env n .none;unbindBehindTheSuite X.env n pos) Q E s:=by
 obtain⟨m,hn,hl⟩:=id I.loc;have hcls:(X.env.scope.kind== .class||(X.env.scope.kind== .module&&X.env.locals !=X.env.globals))=false:=by rw[I.ok.kind];rfl
 refine wpAny_nameGoes hlo hn hcls λh' m' hn' hs=>h _ ?_;obtain⟨oL,_,_,hoL,_⟩:=id hn;have lt:∀b o,X.xJ.heap.get? b=some o->b≠X.env.locals:=λb o e=>bZ (aZ (aY e) I.ok.above);refine⟨I.ok,I.os,I.bare,⟨λb o e n hb hx=>?_,λb o e n hb hx=>?_,I.base.free,λb o e hx=>?_,I.base.By,I.base.zl,I.base.Bz⟩,⟨_,hn',λj y v' e1 e2 e3=>?_⟩,λy c e=>?_,I.free,I.kJ,λp hp=>?_,λb ob e=>?_,by unfold iP;rw[jN]⟩
 ·exact(hs.2 b (lt b o e)).trans (I.base.keep b o e n hb hx)
 ·obtain⟨sl,e1⟩:=I.base.slot b o e n hb hx;exact⟨sl,(hs.2 b (lt b o e)).trans e1⟩
 ·obtain⟨o',e1⟩:=I.base.there b o e hx;exact⟨o',(hs.2 b (lt b o e)).trans e1⟩
 ·unfold iP at e2;rw[nU]at e2;split at e2<;>cases e2
 ·obtain⟨w',z⟩:=I.cell y c e;exact⟨w',z.sameBut hs (I.Qy y c e)⟩
 ·obtain⟨e,n,ne,nf,d⟩:=I.pin p hp;exact⟨(hs.2 p.1 ne).trans e,n,ne,nf,d⟩
 ·refine(I.dI b ob e).tE (λc w' hc q=>(hs.2 c ?_).trans q) (λ_ q=>q) λ_ _ q=>q;rintro rfl;rcases hc with rfl|hc
  ·rw[I.free]at e;cases e
  ·rw[I.free]at hc;cases hc
theorem Fj{X:Cx}{body:List Stmt}{x n:Str}{np hpos pos:Pos}{b0:Stmt}{suite:List Stmt}{i:Nat}{CH:Addr}{tb:TS}{Eb:XK}{ts:Addr->Obj->TS}(hc:X.calm=true)(hpn:X.pn=[])(hst:X.stack=X.env::X.outer)(hf:X.env.frame=some X.env.locals)
 (hN:X.N.Nodup) (hi:X.N[i]?=some n) (hlo:X.env.scope.names.lookup n=some .local) (hg:Gl X x) (hm:X.mg x=some (.ref CH)) (hH:v7 X.K CH=true)
 (hb:Gd (X.BC (QJ X Eb)) body tb) (hs:∀a oe,Gd (X.ON a oe) (b0::suite) (ts a oe)) (hd:(x==("__debug__":Str))=false:=by decide):
 Uv X (.Try body [.ExceptHandler (some (.Name x np)) (some n) (b0::suite) hpos] [] [] pos) (Ve X.K X.N.length i CH tb Eb ts):=by
 intro s σ H D I h;obtain⟨h1,h2⟩:=h;refine wpAny_Try_except (dN (hb [] s σ H D (I.BC _) h1) (λf s1 q=>?_) λe s1 q=>?_)
 ·have q:=q.qS;cases f with
  |next=>exact pS q
  |ret v=>exact q
  |brk=>exact q
  |cont=>exact q
 ·revert q;refine W7 λσ1 H1 a C=>Xa λod=>Xd λe0_ I1 fl qe=>?_;subst e0_;refine W8 (λm1 m2 m3=>?_) (h2 C od H1 qe);refine Xa (λtr=>W9 λxa ht=>?_) fl.ex;have fr:X.A.frames=some (X.env::X.outer):=by rw[<-hst];exact I.ok.frames
  have ff:s1.heap.FunFrames X.base (X.env::X.outer):=by rw[<-hst];exact I1.stack
  refine MR fr ff hf xa λh2' T z1 z2 z3=>?_;have I2:Inv X [] σ1 H1 {s1 with heap:=h2'}:=I1.moved (t':=s1.toks) hpn xa ⟨fl.new,fl.free⟩ ht (by rw[hst];exact z2);have hT:X.xJ.heap.objs.size<=T/\H1 T=none:=⟨be I1.sz z1,I1.dI.fresh z1⟩;have z3':=z3;revert z3;refine W6 λoe vs=>Xe λg1 g2 g3 g4 g5=>?_;have J2:Inv (X.ON a oe) [] σ1 H1 {s1 with heap:=h2'}:=I2.ON g1 fl.free g4;refine wpAny_handleBy_cons (codeAny_handlers_test (nY J2 hg hm ?_ hd)) (by intro q;cases q);refine K6 (K:=X.K) I2.vL m1 hH m2 z3' ?_;refine codeAny_handlers_suite_as ?_;refine Gy (s:={s1 with heap:=h2'}) z3' λh3 w1 w2=>?_;have I3:Inv X [] σ1 H1 {s1 with heap:=h3}:=I2.moved (s:={s1 with heap:=h2'}) (t':=s1.toks) (tr:=some T) hpn z3' ⟨fl.new,fl.free⟩ (λT' e=>by cases e;exact hT) (w1.mono (by simp) (by simp));revert w2;refine W6 λoe3 vs3=>Xe λr1 r2 r3 r4 r5=>?_;have J3:Inv (X.ON a oe3) [] σ1 H1 {s1 with heap:=h3}:=I3.ON r1 fl.free r4;refine xN (X:=X.ON a oe3) (v:= .ref a) J3 hN hi (.inl hlo) rfl (λs4 J4=>?_) (.inr hlo);have J5:Inv (X.ON a oe3) [] ((iP X.N.length).set i (some (.ref a))) H1 s4:=J4.weak (by rw[ck,ck];unfold iP;rw[jN];exact J3.len.symm) λj v e=>by
   by_cases z:j=i
   ·subst z;have hj:j<X.N.length:=(List.getElem?_eq_some_iff.mp hi).1;have l1:j<(iP X.N.length).length:=by unfold iP;rw[jN];exact hj
    have l2:j<σ1.length:=by rw[J3.len];exact hj
    rw[fX l1]at e;rw[fX l2];exact e
   ·rw[gQ (bh z)]at e;unfold iP at e;rw[nU]at e;split at e<;>cases e
  refine dN (hs a oe3 [] s4 _ H1 (D.forget X.N.length) J5 (m3 a oe3 vs3 r2 r3 r4 fl.free)) (λf s5 q=>?_) λ_ _ z=>False.elim z;show wpAny (model X.prog X.w) X.A (do bindName X.env n Value.none;unbindBehindTheSuite X.env n hpos) (λ_ s6=>SP X [] D f s6) X.xe s5;have hd0:X.calm=true->X.A.handled=none:=I.ok.hd;cases f with
  |next=>
   obtain⟨σ6,H6,I6,q6⟩:=q;exact Fi (I6.Ka hd0) hlo λs7 I7=>⟨_,_,I7,q6⟩
  |ret v=>
   revert q;refine Xc λv6 σ6 H6=>W8 λI6 rv q6=>?_;exact Fi (I6.Ka hd0) hlo λs7 I7=>⟨v6,_,_,I7,rv,q6⟩
  |brk=>
   obtain⟨σ6,H6,I6,q6⟩:=q;exact Fi (I6.Ka hd0) hlo λs7 I7=>⟨_,_,I7,q6⟩
  |cont=>
   obtain⟨σ6,H6,I6,q6⟩:=q;exact Fi (I6.Ka hd0) hlo λs7 I7=>⟨_,_,I7,q6⟩
theorem RW{CX:HL}{P:Program}{w:World}{K:PySem.W.Frag}{mg:Str->Option Value}{base:Heap}{k:Nat}{f:Addr}{name qual:Str}{params:Arguments}{body:List Stmt}{scope:Scope}{dV kV doc pm cdv ct oc:Value}{an od:Option Addr}
 {osl:Array (Option Value)} {N ps:List Str} {sp:Sp} (lk:K.lookup f=some ⟨oc,od,.func (PySem.W.fnOf name qual params body scope dV kV doc pm an cdv ct),osl⟩) (hcd:PySem.W.codeIn K cdv qual=true) (S:aU N ps scope)
 (len:∀vs H Q E,sp vs H Q E->vs.length=ps.length)
 (hbody:∀(A:Around)(outer:List Env)(s:Shared)(H:Hp)(vs:List V)(Q:VK)(E:XK),fK k (A.deeper (envOfC qual scope s.heap.objs.size f cdv))->sp vs H Q E->
  ∃t,IC (tY CX P w K mg base N qual scope f cdv A outer s H E) body t/\t {nx:=λ_ H'=>Q .gb H',rt:=Q} (start N vs) H):
 lq P w K mg base CX (k+1) f (PySem.W.fnOf name qual params body scope dV kV doc pm an cdv ct) ps sp:=by
 refine⟨len,λA outer s H args us vs Q E hr e0 hb r hsp=>?_⟩;have hl:=len _ _ _ _ hsp;have KX:K.In s.heap:=e0.mod.Qx.keeps λb o e=>(e0.bs b o e).1;have lim:s.heap.NoLimit:=e0.mod.nolimit.keeps λb o e=>(e0.bs b o e).1;have hkind:∀y∈ps.zip us,scope.names.lookup y.1=some .local\/(scope.names.lookup y.1=some .cell/\((cellsFrom (s.heap.objs.size+1) scope.names []).lookup y.1).isSome=true):=λ⟨n,v⟩ hy=>by
  rcases S.par n (Dg hy).1 with q|q
  ·exact .inl q
  ·exact .inr ⟨q,C8 _ _ _ (.inl q)⟩
 refine codeAny_call_function hr.depth (KX _ _ lk) rfl S.co S.gen rfl (PySem.W.codeRec_of KX hcd) (hb _ _ _ _ ?_);refine wpAny_newFunctionEnv_cells S.kind hkind λenv he s1 x=>?_;subst he;refine⟨lim.keeps x.toInCall.keep,codeAny_func ?_⟩;obtain⟨t,ht,hq⟩:=hbody A outer s H vs Q E (hr.deeper _) hsp;have I:Inv (tY CX P w K mg base N qual scope f cdv A outer s H E) [] (start N vs) H s1:=D4 S hr.hd e0 hl r x;refine dN (ht s1 (start N vs) H _ I hq) (λfl s' hs=>?_) λe s' hs=>hs;cases fl with
 |ret u=>
  obtain⟨v,σ',H',J,rv,q⟩:=hs;exact⟨v,H',J.os,J.bare,J.base,J.dI,rv,q⟩
 |next=>
  obtain⟨σ',H',J,q⟩:=hs;exact⟨V.gb,H',J.os,J.bare,J.base,J.dI,rfl,q⟩
 |brk=>
  obtain⟨_,_,_,q⟩:=hs;exact False.elim q
 |cont=>
  obtain⟨_,_,_,q⟩:=hs;exact False.elim q
theorem OM.TC{P:Program}{w:World}{K:PySem.W.Frag}{mg:Str->Option Value}{base:Heap}{CX:HL}{x qual:Str}{st:Stmt}{f:Addr}{fd:FuncData}{N ps:List Str}{k:Nat}{sp:Sp}(F:OM K x qual st f fd)(S:aU N ps (aI st))(len:∀vs H Q E,sp vs H Q E->vs.length=ps.length)
 (hbody:∀(cdv:Value)(A:Around)(outer:List Env)(s:Shared)(H:Hp)(vs:List V)(Q:VK)(E:XK),fK k (A.deeper (envOfC qual (aI st) s.heap.objs.size f cdv))->sp vs H Q E->
  ∃t,IC (tY CX P w K mg base N qual (aI st) f cdv A outer s H E) (kE st) t/\t {nx:=λ_ H'=>Q .gb H',rt:=Q} (start N vs) H):lq P w K mg base CX (k+1) f fd ps sp:=by
 refine W7 (λoc od kV doc=>W7 λpm an cdv ct=>Xa λosl=>W8 λe0_ lk hcd=>?_) F.ex;subst e0_;exact RW lk hcd S len λA outer s H vs Q E hr hsp=>hbody cdv A outer s H vs Q E hr hsp
structure Pj(K:PySem.W.Frag)(C:Addr)(m:Str)(f:Addr):Prop where
 rd:PySem.W.readsIn K C (.type "type")=true
 ga:PySem.W.specialIn K (.ref C) "__getattribute__"=some (some (.builtin "type.__getattribute__"))
 at_:PySem.W.findCls K (.ref C) (.type "type") m=some (.val (.ref f))
 kp:PySem.W.keepIn K (.ref f)=true
theorem Pk{X:Cx}{CX:HL}{k:Nat}{f C:Addr}{fd:FuncData}{ps:List Str}{sp:Sp}{dvs:List V}{ds:List Value}{E:XK}{x m:Str}{p pos apos:Pos}{e:Expr}{es:List Expr}{t:TA}{pl:Sem Bool}
 (hM:Pj X.K C m f) (F:lq X.prog X.w X.K X.mg X.base CX k f fd ps sp) (hr:fK k X.A) (hg:Gl X x) (hm:X.mg x=some (.ref C)) (hb:Binds X.K fd ps ds) (hd:cE dvs ds) (hx:gf CX X E) (ha:PA X (e::es) t)
 (hdb:(x==("__debug__":Str))=false:=by decide) (hst:starEach (e::es) X.env=(false,eval e X.env)::starEach es X.env:=by rfl) (hpl:(backTo pos (starEach es X.env)).any (·.1)=false:=by rfl)
 (ht:eval (.Call (.Attribute (.Name x p) m apos) (e::es) [] pos) X.env=(do
  let ov<-eval (.Name x p) X.env
  standAt apos.atName
  let(f,first)<-holding [ov] (getMethod ov m pl)
  callWith pos f first (backTo pos (starEach (e::es) X.env)) (backToKw pos (keywordEach [] X.env))):=by rfl):
 PE X (.Call (.Attribute (.Name x p) m apos) (e::es) [] pos) (JQ sp dvs E t):=by
 intro pins s σ H Q I h;refine DS (pl:=pl) (nY I hg hm ?_ hdb) ht;refine PySem.W.method_cls I.vL hM.ga (PySem.W.cls_value I.vL hM.rd hM.at_ rfl ?_);refine nH (first:=[]) (h₀:=X.base) I.ok.mod.Qx hM.kp (eu (ha pos pins _ σ H _ (I.tok _) h) λus s2 ⟨vs,H2,I2,r,q2⟩=>⟨I2.vL,?_⟩) hst hpl;exact EZ F hr hb hd hx I2 r q2
theorem RX{P:Program}{w:World}(q:Addr)(hq:(q==sysModules)=false):
 MeetsIn P w (Builtin.«dict.__len__» ⟨[.ref q],[]⟩) (λ_ R z=>∃(ob:Obj)(en:Array DictEntry)(pe:_),z.heap.get? q=some ob/\ob.data= .dict en pe/\R (.ok (.ret (.int en.size z.toks))) {z with toks:=z.toks+1}):=
 .of_wp λA R z ⟨ob,en,pe,h1,h2,g⟩=>by
  show wpAny _ _ (dictSize q>>=_) _ _ z;unfold dictSize;refine ae (ae (Di h1 h2 (aA ?_)));show wpAny _ _ (Builtin.Dict.pendingCount q>>=_) _ _ z;refine ae (wpAny_pendingCount_other hq (wpAny_ret_mkInt ?_));rw[pM];exact g
theorem K7{P:Program}{w:World}{A:Around}{E:Value->Shared->Prop}{z:Shared}{q:Addr}{ob:Obj}{en:Array DictEntry}{pe:Nat}{Q:Value->Shared->Prop}(hq:(q==sysModules)=false)(h1:z.heap.get? q=some ob)(hx:ob.ExactDict)(h2:ob.data= .dict en pe)
 (hf:(en.size:Int)<2^63) (g:Q (.int en.size (z.toks+1)) {z with toks:=z.toks+1+1}):wpAny (model P w) A (call (.builtin "len") [.ref q]) Q E z:=by
 have ty:z.TypeIs (.ref q) "dict":=⟨ob,h1,hx.1⟩;refine Calls.call_function_entry kind_len plain_len entry_len (args_len1 _) ?_;unfold Builtin.«len»;refine ae (m:=oneArg "len" _) (aA (ae (m:=callSpecial? (.ref q) (Str.ofString "__len__")) (jr (name:=Str.ofString "__len__") ty F.slot_dict_len
  (call_meetsIn F.slot_dict_len ty F.entry_dict_len (F.args_dict_len_1 _) (RX q hq) ⟨ob,en,pe,h1,h2,?_⟩))))
 show wpAny _ _ _ _ _ {z with toks:=z.toks+1};refine ae (dP (aA (ae (wpAny_letGo ?_))));show wpAny _ _ (if((en.size:Nat):Int)<0 then _ else _) _ _ _;rw[ah VX];show wpAny _ _ (if((en.size:Nat):Int)≥2^63 then _ else _) _ _ _;rw[ah VX];exact ae (wpAny_mkInt (aA ⟨_,rfl,g⟩))
theorem pY{X:Cx}:pU X (.builtin "len") (λxs H Q=>∃a kvs,xs=[V.ref a]/\H a=some (.dT kvs)/\Q (.int kvs.length) H):=by
 intro pins s σ H xs us Q I r h;obtain⟨a,kvs,rfl,ha,q⟩:=h;obtain⟨u,rfl,ru⟩:=vals1 r;cases ru;refine W8 (λz y=>Xa λys=>W9 λrel=>Xc λob en pe=>Xe λh1 h2 h3 h4 h5=>?_) ((show eI X.prog X.w H s.heap a (.dT kvs)from I.dI a _ ha));have hl:en.size=kvs.length:=by
  have e:=bJ List.length h4;rw[bY,ay]at e;rw[e];exact(pJ rel).symm
 rw[aM]at z;refine K7 y h1 h2 h3 VX ⟨.int kvs.length,H,I.tok _,?_,q⟩;rw[hl];exact⟨_,rfl⟩
section
variable{X:Cx}
theorem ID:pU X (.builtin "sorted") (λvs H Q=>∃(a:Addr)(ns:List Int),vs=[V.ref a]/\cN X.K H a (ns.map V.int)/\∀(ns':List Int)(p:Addr),ns'.Perm ns->ns'.Pairwise (·<=·)->H p=none->Q (.ref p) (upd H p (.lst (ns'.map V.int)))):=by
 intro pins s σ H vs us Q I r h;obtain⟨a,ns,rfl,hs,q⟩:=h;obtain⟨its,rv,hl,hz⟩:=I.list hs;rw[cE.ME r];have hi:=rv.ints;rw[ay]at hz;refine PyProof.Rows.sorted_intsAny hl.isList hi (by rw[hi.length];exact hz) λout ns' h1 h2 h3=>?_;obtain⟨ep,he'⟩:=PyProof.Rows.sortedAll_at s.heap its out;have hlen:(ns'.map V.int).length<=sizeLine:=by rw[ay,h2.length_eq];exact hz
 exact⟨.ref _,upd H (s.heap.objs.size+1) (.lst (ns'.map V.int)),I.laid (t':=s.toks) (λ_ _=>PyProof.Rows.sortedAll_old) (nQ _) ⟨hlen,out.toList,ep,qW h1,he'⟩,rfl,q ns' _ h2 h3 (I.dI.fresh (nQ _))⟩
theorem GA:pU X (.type "range") (λxs H Q=>∃n:Int,xs=[.int n]/\∀p,H p=none->Q (.ref p) (upd H p (.JK 0 n))):=by
 intro pins s σ H xs us Q I r h;obtain⟨n,rfl,q⟩:=h;obtain⟨u,rfl,rx⟩:=vals1 r;obtain⟨t,rfl⟩:=rx;refine call_range_1 ⟨.ref s.heap.objs.size,_,I.laid (t':=s.toks+1+1) (λb o e=>aG _ e) (aH _) (show eI X.prog X.w _ _ _ (.JK 0 n)from⟨_,_,_,aW _ rfl⟩),rfl,q _ (I.dI.fresh (aH _))⟩
theorem IE{n:Nat}:∀{acc:List Value},acc.length=n->(∀(j:Nat)(v:Value),acc[j]?=some v->∃t,v= .int ((0:Int)+(j:Int)*1) t)->cE ((List.range n).map λi:Nat=>V.int (i:Int)) acc:=by
 intro acc hl h
 induction n generalizing acc with
 |zero=>
  have:acc=[]:=List.length_eq_zero_iff.mp hl;subst this;exact .nil
 |succ n ih=>
  have e:acc=acc.take n++[acc[n]]:=by
   rw[List.take_append_getElem,List.take_of_length_le VX]
  rw[e,List.range_succ,cb];refine cE.append (ih (by rw[cz];lia) λj v hj=>?_) (.cons ?_ .nil)
  ·have hjn:j<n:=by
    have:=(List.getElem?_eq_some_iff.mp hj).1;rw[cz]at this;lia
   rw[List.getElem?_take_of_lt hjn]at hj;exact h j v hj
  ·obtain⟨t,ht⟩:=h n acc[n] (af VX);refine⟨t,?_⟩;rw[ht,Int.mul_one,Int.zero_add]
theorem BV(hc:X.calm=true):pU X (.type "list") (λxs H Q=>∃(p:Addr)(n:Nat),xs=[.ref p]/\H p=some (.JK 0 (n:Int))/\n<=2^20/\∀l,H l=none->Q (.ref l) (upd H l (.lst ((List.range n).map λi:Nat=>V.int (i:Int))))):=by
 intro pins s σ H xs us Q I r h;obtain⟨p,n,rfl,hp,hn,q⟩:=h;obtain⟨u,rfl,rx⟩:=vals1 r;cases rx;obtain⟨t,u',v,hr⟩:=I.dI p _ hp;have hsz:Builtin.Range.rangeSize 0 (n:Int) 1=n:=by
  unfold Builtin.Range.rangeSize;rw[ao VW];split
  ·lia
  ·lia
 refine call_list_range (I.ok.hd hc) hr ?_ hsz (be hn VW) λh' tk acc' c' hk hS hacc=>?_
 ·unfold Builtin.Range.small;rw[hsz];have f:∀z:Int,-(2^30)<=z->z<=2^30->Builtin.Range.rangeFitsLong z=true:=λz h1 h2=>by
   unfold Builtin.Range.rangeFitsLong;simp;lia
  have hn':(n:Int)<=2^20:=by exact_mod_cast hn
  simp only[bP];refine⟨⟨⟨⟨f _ VW VW,f _ VX VX⟩,f _ VW VW⟩,f _ VX VX⟩,?_⟩;rw[ao VW,f _ VX VX,jh]
 ·refine⟨.ref s.heap.objs.size,_,I.laid (t':=tk) hk (aH _) (show eI X.prog X.w _ h' _ (.lst ((List.range n).map λi:Nat=>V.int (i:Int)))from⟨?_,acc'.toList,c',IE (by rw[bY];exact hacc.1) λj v e=>hacc.2 j v (by rw[<-di];exact e),by rw[Array.toArray_toList];exact hS⟩),rfl,q _ (I.dI.fresh (aH _))⟩;rw[ay,cy,aM];exact be hn VW
theorem Pl:Rz X "int.bit_length" (λx xs H Q=>∃a:Int,x= .int a/\xs=[]/\Q (.int (Builtin.Int.intBits a)) H):=by
 intro pins s σ H x xs v us Q I rx rs h;obtain⟨a,rfl,rfl,q⟩:=h;obtain⟨t,rfl⟩:=rx;cases rs;exact PyProof.Rows.call_int_bit_length ⟨.int _,H,I.tok (t:=s.toks+1),⟨_,rfl⟩,q⟩
theorem Fk{K:PySem.W.Frag}{H:Hp}:∀ns:List Int,BK K H (ns.map V.int) (ns.map PyData.int)
 |[]=>.nil
 |n::ns=>.cons (.int n) (Fk ns)
theorem GB:∀ns ms:List Int,PyData.eqvAll (ns.map PyData.int) (ms.map PyData.int)=decide (ns=ms)
 |[],[]=>rfl
 |[],m::ms=>by simp[PyData.eqvAll]
 |n::ns,[]=>by simp[PyData.eqvAll]
 |n::ns,m::ms=>by
  simp only[bW,PyData.eqvAll,PyData.eqv,GB ns ms];by_cases h:n=m<;>simp[h]
theorem shaped_ints(ns:List Int):SeqAt.shaped (.list (ns.map PyData.int))=true:=by
 have h1:∀l:List Int,PyData.canLayAll0 (l.map PyData.int)=true:=λl=>by
  induction l with
  |nil=>simp[PyData.canLayAll0]
  |cons a l ih=>simp[PyData.canLayAll0,PyData.canLay0,ih]
 have h2:∀l:List Int,PyData.depthAll (l.map PyData.int)=0:=λl=>by
  induction l with
  |nil=>simp[PyData.depthAll]
  |cons a l ih=>simp[PyData.depthAll,PyData.depth,ih]
 unfold SeqAt.shaped;simp[PyData.canLay0,PyData.depth,h1,h2]
theorem RY(hu:X.A.units+64<cLine):qT X (compareOp .NotEq) (λx y H Q=>∃(a b:Addr)(ns ms:List Int),x= .ref a/\y= .ref b/\cN X.K H a (ns.map V.int)/\cN X.K H b (ms.map V.int)/\Q (.bl (!decide (ns=ms))) H):=by
 intro pins s σ H x y v u Q I rx ry h;obtain⟨a,b,ns,ms,rfl,rfl,ha,hb,q⟩:=h;refine RG hu pins s σ H _ _ v u Q I rx ry ⟨_,_,.lst ha (Fk ns),.lst hb (Fk ms),shaped_ints ns,shaped_ints ms,?_⟩;show Q (.bl (!PyData.eqvAll _ _)) H;rw[GB];exact q
end
section
variable{X:Cx}{K:PySem.W.Frag}{o e:Expr}{f:Str}{pos:Pos}{ta:TE}
theorem Pn(K:PySem.W.Frag)(he:PE X e ta)(hb:attributeBase e f X.env (eval e X.env)=eval e X.env)(hK:X.K=K:=by rfl):PE X (.Attribute e f pos) (S5 K ta f):=hK▸aO he hb
theorem IF(K:PySem.W.Frag)(hK:X.K=K:=by rfl):qT X (compareOp .In) (UZ K false):=hK▸vr
end
def IG(xs:Array Nat):Prop:=xs.toList.Pairwise (·<·)
theorem IG.lt{xs:Array Nat}(h:IG xs){i j a b:Nat}(hi:xs[i]?=some a)(hj:xs[j]?=some b)(hij:i<j):a<b:=by
 rw[<-di]at hi hj;obtain⟨h1,e1⟩:=List.getElem?_eq_some_iff.mp hi;obtain⟨h2,e2⟩:=List.getElem?_eq_some_iff.mp hj;have:=List.pairwise_iff_getElem.mp h i j h1 h2 hij;rw[e1,e2]at this;exact this
theorem BW{xs:Array Nat}(h:IG xs)(j:Nat):∀(n lo hi:Nat),hi-lo<=n->lo<=hi->hi<=xs.size->(∀i v,i<lo->xs[i]?=some v->v<j)->(∀i v,hi<=i->xs[i]?=some v->j<=v)->
 SetTable.below.go xs j n lo hi<=xs.size/\∀i v,xs[i]?=some v->(i<SetTable.below.go xs j n lo hi↔v<j)
 |0,lo,hi,hn,hl,hh,h1,h2=>by
  rw[SetTable.below.go];refine⟨VX,λi v e=>⟨λhi'=>h1 i v hi' e,λhv=>?_⟩⟩;apply f7;intro hle;have:=h2 i v VX e;lia
 |n+1,lo,hi,hn,hl,hh,h1,h2=>by
  rw[SetTable.below.go];by_cases hlt:lo<hi
  ·rw[ao hlt];have hm:(lo+hi)/2<xs.size:=VX;obtain⟨m,em⟩:∃m,xs[(lo+hi)/2]?=some m:=⟨_,dO hm⟩;have ed:xs.getD ((lo+hi)/2) j=m:=by
    rw[Array.getD_eq_getD_getElem?,em];rfl
   dsimp only;rw[ed];by_cases hmj:m<j
   ·rw[ao hmj];refine BW h j n _ hi VX VX hh (λi v hi' e=>?_) h2;by_cases he:i=(lo+hi)/2
    ·rw[he,em]at e;cases e;exact hmj
    ·have:=h.lt e em VX;lia
   ·rw[ah hmj];refine BW h j n lo _ VX VX VX h1 λi v hi' e=>?_;by_cases he:i=(lo+hi)/2
    ·rw[he,em]at e;cases e;lia
    ·have:=h.lt em e VX;lia
  ·rw[ah hlt];refine⟨VX,λi v e=>⟨λhi'=>h1 i v hi' e,λhv=>?_⟩⟩;apply f7;intro hle;have:=h2 i v VX e;lia
theorem x5{xs:Array Nat}(h:IG xs)(j:Nat):SetTable.below xs j<=xs.size/\∀i v,xs[i]?=some v->(i<SetTable.below xs j↔v<j):=
 BW h j xs.size 0 xs.size VX (br _) (aH _) (λi v hi=>absurd hi VX) λi v hi e=>by
  have:=Array.getElem?_eq_some_iff.mp e;obtain⟨h1,_⟩:=this;lia
theorem IH{xs:Array Nat}(h:IG xs):SetTable.below xs 0=0:=by
 obtain⟨h1,h2⟩:=x5 h 0;apply eW;intro z;have hs:0<xs.size:=VX;have:=(h2 0 xs[0] (dO hs)).mp VX;lia
theorem II{xs:Array Nat}(h:IG xs){i v:Nat}(e:xs[i]?=some v):SetTable.below xs (v+1)=i+1:=by
 obtain⟨h1,h2⟩:=x5 h (v+1);have a:=(h2 i v e).mpr VX;apply Nat.le_antisymm _ a;apply sj;intro z;have hs:i+1<xs.size:=VX;have e2:=dO hs;have b:=(h2 (i+1) _ e2).mp z;have:=h.lt e e2 VX;lia
theorem K8{xs:Array Nat}(h:IG xs){j:Nat}(hn:(xs[SetTable.below xs j]?==some j)=false):j∉xs.toList:=λhm=>by
 obtain⟨i,hi,e⟩:=vJ hm;have e':xs[i]?=some j:=by rw[<-di,af hi,e]
 obtain⟨h1,h2⟩:=x5 h j;have b1:SetTable.below xs j<=i:=by
  apply sj;intro z;have:=(h2 i j e').mp z;lia
 have b2:i<=SetTable.below xs j:=by
  apply sj;intro z;have hs:SetTable.below xs j<xs.size:=by
   rw[bY]at hi;lia
  have e3:=dO hs;have l:=h.lt e3 e' z;have:=(h2 _ _ e3).mpr l;lia
 have:SetTable.below xs j=i:=VX;rw[this,e',Be]at hn;cases hn
theorem IJ{xs:Array Nat}(h:IG xs){j:Nat}(hn:j∉xs.toList):IG (SetTable.insertAt xs (SetTable.below xs j) j):=by
 unfold IG;rw[SetTable.toList_insertAt];obtain⟨h1,h2⟩:=x5 h j;have hp:=h;unfold IG at hp;rw[<-jO (SetTable.below xs j) xs.toList,List.pairwise_append]at hp;obtain⟨p1,p2,p3⟩:=hp;rw[List.pairwise_append];refine⟨p1,List.pairwise_cons.mpr ⟨λa ha=>?_,p2⟩,λa ha b hb=>?_⟩
 ·obtain⟨i,hi,e⟩:=vJ ha;rw[List.getElem_drop]at e;have hl:SetTable.below xs j+i<xs.toList.length:=by
   rw[bU]at hi;lia
  have e':xs[SetTable.below xs j+i]?=some a:=by rw[<-di,af hl,e]
  have nl:¬a<j:=λz=>by
   have:=(h2 _ _ e').mpr z;lia
  have ne:a≠j:=λz=>hn (by rw[<-z,<-e];exact List.getElem_mem _);lia
 ·rcases List.mem_cons.mp hb with rfl|hb
  ·obtain⟨i,hi,e⟩:=vJ ha;rw[cz]at hi;have hl:i<xs.toList.length:=VX;have e':xs[i]?=some a:=by
    rw[<-di,af hl];rw[List.getElem_take]at e;rw[e]
   exact(h2 _ _ e').mp VX
  ·exact p3 a ha b hb
structure GT(led:Bool)(t:SetTable):Prop where
 rs:IG t.place
 dm:t.dummies= #[]
 ld:t.led=led
theorem K9(n:Nat):IG (Array.range n):=by
 unfold IG;rw[Array.toList_range];exact List.pairwise_lt_range
theorem GT.fresh(led:Bool):GT led (.fresh 0 0 led):=⟨List.Pairwise.nil,rfl,rfl⟩
theorem GT.standIn{led:Bool}{t:SetTable}(h:GT led t)(n:Nat):GT led (t.standIn n):=⟨K9 n,rfl,h.ld⟩
theorem has_none(j:Nat):SetTable.has #[] j=false:=by
 unfold SetTable.has;simp
theorem GD{t:SetTable}(hd:t.dummies= #[]){f:Nat->Int}{h:Int}:∀(n:Nat)(p:SetTable.Probe)(j:Nat)(d:Option Nat),p.dummy=none->SetTable.probe.go t f h n p=some (.empty j d)->d=none/\t.slot j= .empty
 |0,p,j,d,hp,e=>by cases e
 |n+1,p,j,d,hp,e=>by
  rw[SetTable.probe.go]at e;have adv:∀q:SetTable.Probe,q.dummy=none->(t.advance q).dummy=none:=λq hq=>by
   unfold SetTable.advance;split<;>exact hq
  cases hs:t.slot p.j with
  |empty=>
   rw[hs]at e;cases e;exact⟨hp,hs⟩
  |dummy=>
   exfalso;unfold SetTable.slot at hs;dsimp only at hs;rw[hd,has_none]at hs;split at hs<;>cases hs
  |live i=>
   rw[hs]at e;dsimp only at e;split at e
   ·cases e
   ·exact GD hd n _ j d (adv p hp) e
theorem Pp{led:Bool}{t:SetTable}(g:GT led t){h:Int}{j:Nat}{b:Bool}(e:t.freeSlot h=some (j,b)):j∉t.place.toList:=by
 unfold SetTable.freeSlot at e;split at e
 ·rename_i j' d hp;unfold SetTable.probe at hp;obtain⟨rfl,hs⟩:=GD g.dm _ _ _ _ rfl hp;cases e;refine K8 g.rs ?_;unfold SetTable.slot at hs;dsimp only at hs;cases hz:(t.place[SetTable.below t.place j']?==some j')with
  |false=>exact hz
  |true=>
   rw[ao hz]at hs;cases hs
 ·cases e
theorem GT.lay{led:Bool}{t:SetTable}(g:GT led t)(es:Array (Int×Value))(h:Int)(x:Value):GT led (layNew t es h x).2.1:=by
 unfold layNew;split
 ·rename_i slot wd hf;have hj:=Pp g hf;have gp:GT led (t.put slot).1:=by
   unfold SetTable.put;refine⟨IJ g.rs hj,?_,g.ld⟩;dsimp only;rw[g.dm,has_none];rfl
  dsimp only;unfold SetTable.orStandIn;split
  ·exact gp
  ·exact gp.standIn _
 ·exact g.standIn _
theorem GT.TF{led:Bool}{t:SetTable}(g:GT led t)(es:Array (Int×Value))(n:Nat):GT led (relayAll t es n).2.1:=by
 unfold relayAll;split
 ·rename_i t' order ht;dsimp only;split
  ·unfold SetTable.relaid SetTable.laid at ht;cases hc:SetTable.layClean (SetTable.sizeAbove n-1) (es.map (·.1))with
   |none=>
    rw[hc]at ht;cases ht
   |some owner=>
    rw[hc]at ht;cases ht;refine⟨?_,rfl,g.ld⟩;unfold IG;dsimp only;rw[zh,List.pairwise_filterMap];refine List.pairwise_lt_range.imp λ{a b} hab x hx y hy=>?_;obtain⟨u,_,rfl⟩:=Option.map_eq_some_iff.mp hx;obtain⟨v,_,rfl⟩:=Option.map_eq_some_iff.mp hy;exact hab
  ·exact g.standIn _
 ·exact g.standIn _
noncomputable def lr(es:Array (Int×Value))(ep:Nat)(t:SetTable):Obj:={cls:= .type "set",dict:=none,data:= .set es ep t,slots:= #[]}
structure Kb(P:Program)(w:World)(led:Bool)(ks:List Int)(es:Array (Int×Value))(t:SetTable):Prop where
 el:ElemsOf (intKind P w) es.toList
 mem:∀k,k∈ks↔∃e∈es.toList,(intKind P w).is k e.2=true
 sz:es.size=ks.length
 bd:es.size<scanBound
 ft:t.fits es.size=true
 gt:GT led t
def zy(P:Program)(w:World)(led:Bool)(h:Heap)(a:Addr)(ks:List Int):Prop:=∃es ep t,h.get? a=some (lr es ep t)/\Kb P w led ks es t
section
variable{P:Program}{w:World}{A:Around}{E:Value->Shared->Prop}{s:Shared}{led:Bool}
theorem Kb.perm{ks:List Int}{es es':Array (Int×Value)}{t t':SetTable}(h:Kb P w led ks es t)(hp:es'.toList.Perm es.toList)(hf:t'.fits es'.size=true)(hg:GT led t'):Kb P w led ks es' t':=by
 have hs:es'.size=es.size:=by rw[<-bY,hp.length_eq,bY]
 exact⟨h.el.perm hp,λk=>(h.mem k).trans ⟨λ⟨e,he,q⟩=>⟨e,hp.mem_iff.mpr he,q⟩,λ⟨e,he,q⟩=>⟨e,hp.mem_iff.mp he,q⟩⟩,by rw[hs];exact h.sz,by rw[hs];exact h.bd,hf,hg⟩
theorem M0{h:Heap}{a:Addr}{es es':Array (Int×Value)}{ep:Nat}{t t':SetTable}(ho:h.get? a=some (lr es ep t)):(h.update a (Obj.putSet es' t')).get? a=some (lr es' (ep+1) t'):=cW (Obj.putSet es' t') ho rfl
theorem set_tail{g:Bool->Sem Unit}(hg:∀(b:Bool)(s1:Shared)(Q1:Unit->Shared->Prop),Q1 () s1->wpAny (model P w) A (g b) Q1 E s1){a:Addr}{es0 es:Array (Int×Value)}{ep:Nat}{t0 t:SetTable}{ks:List Int}{wd:Bool}{R:Option Bool->Shared->Prop}(ho:s.heap.get? a=some (lr es0 ep t0))(hG:Kb P w led ks es t)
 (q:∀h1,Heap.SameBut a s.heap h1->zy P w led h1 a ks->R (some true) {s with heap:=h1}):
 wpAny (model P w) A (do
  storeSet a es t
  if(!wd&&t.tooFull)=true then do
   g (relayAll t es (SetTable.grown es.size)).2.2
   storeSet a (relayAll t es (SetTable.grown es.size)).1 (relayAll t es (SetTable.grown es.size)).2.1
   pure (some true)
  else pure (some true)) R E s:=by
 refine ae (wpAny_storeSet_of ho rfl ?_ (tP hG.bd));have o1:=M0 (es':=es) (t':=t) ho;have b1:=zf s.heap a (Obj.putSet es t);split
 ·have hG2:=hG.perm (relayAll_perm t es (SetTable.grown es.size)) (relayAll_fits t es (SetTable.grown es.size)) (hG.gt.TF es (SetTable.grown es.size));generalize relayAll t es (SetTable.grown es.size)=Z at hG2⊢;obtain⟨e2,t2,g2⟩:=Z;refine ae (hg _ _ _ (ae (wpAny_storeSet_of o1 rfl ?_ (tP hG2.bd))));exact aA (q _ (b1.trans (zf _ a _)) ⟨_,_,_,M0 o1,hG2⟩)
 ·exact aA (q _ b1 ⟨_,_,_,o1,hG⟩)
theorem Pq{a:Addr}{ks:List Int}{k:Int}{tk:Tok}{Q:Bool->Shared->Prop}(hS:zy P w led s.heap a ks)(hroom:ks.length+1<scanBound)(q:∀h1 b,Heap.SameBut a s.heap h1->zy P w led h1 a (step_dedup ks k)->Q b {s with heap:=h1}):
 wpAny (model P w) A (setAddHashed a (.int k tk) ((intKind P w).hash k)) Q E s:=by
 obtain⟨es,ep,t,ho,hG⟩:=hS;have hk:(intKind P w).is k (.int k tk)=true:=intKind_is _ _ _ _;unfold setAddHashed setAddHashedIn;refine dP (ae (fg ho rfl hG.ft ?_));dsimp only;rw[byScan_of (x:= .int k tk) rfl hG.bd hG.el,ao rfl];unfold setAddByScan;refine ae (ae (wpAny_rule (ae (wpAny_setScan_of hk ho rfl hG.ft hG.el ?_))));cases hr:List.findIdx? (λe=>(intKind P w).is k e.2) es.toList with
 |some j=>
  obtain⟨hj,hpj,_⟩:=List.findIdx?_eq_some_iff_getElem.mp hr;have hm:k∈ks:=(hG.mem k).mpr ⟨_,List.getElem_mem hj,hpj⟩;have e:step_dedup ks k=ks:=by
   unfold step_dedup;rw[ao (List.any_eq_true.mpr ⟨k,hm,by simp⟩)]
  refine aA (aA ?_);have:=q s.heap false (Heap.SameBut.refl a s.heap) (by rw[e];exact⟨es,ep,t,ho,hG⟩);exact this
 |none=>
  have hm:k∉ks:=λz=>by
   obtain⟨e,he,hp⟩:=(hG.mem k).mp z;have:=List.findIdx?_eq_none_iff.mp hr e he;rw[hp]at this;cases this
  have e:step_dedup ks k=ks++[k]:=by
   unfold step_dedup;rw[ah];intro z;obtain⟨y,hy,hz⟩:=List.any_eq_true.mp z;exact hm (beq_iff_eq.mp hz▸hy)
  rw[e]at q;have hperm:=layNew_perm t es ((intKind P w).hash k) (.int k tk);have hfits:=layNew_fits t es ((intKind P w).hash k) (.int k tk);have hgt:=hG.gt.lay es ((intKind P w).hash k) (.int k tk);dsimp only;generalize layNew t es ((intKind P w).hash k) (.int k tk)=Z at hperm hfits hgt⊢;obtain⟨e1,t1,wd,gv⟩:=Z;dsimp only at hperm hfits hgt⊢;rw[Array.toList_push]at hperm;have hs1:e1.size=es.size+1:=by rw[<-bY,hperm.length_eq,aE,bY];rfl
  have hG1:∀t',t'.fits e1.size=true->GT led t'->Kb P w led (ks++[k]) e1 t':=λt' f g=>by
   refine⟨(hG.el.push hk rfl).perm hperm,λk'=>?_,by rw[hs1,hG.sz,aE];rfl,by rw[hs1,hG.sz];exact hroom,f,g⟩;have hS':∀k',decide (k'∈ks)=true↔∃e∈es.toList,(intKind P w).is k' e.2=true:=λk'=>by rw[nI];exact hG.mem k'
   rw[<-mem_push_iff (S:=λk'=>decide (k'∈ks)) hk hS' hperm k',Bool.or_eq_true,nI,nI,List.mem_append,List.mem_singleton]
  have hgw:∀(b:Bool)(s1:Shared)(Q1:Unit->Shared->Prop),Q1 () s1->wpAny (model P w) A (match b with|true=>rule "set.scan.the-table-gave-way"|false=>pure ()) Q1 E s1:=λb s1 Q1 h=>by
   cases b
   ·exact aA h
   ·exact wpAny_rule h
  refine ae (hgw gv _ _ ?_);split
  ·refine ae ?_;rw[hashByValue_scannable 8 (x:= .int k tk) rfl];refine aA ?_;exact set_tail hgw ho (hG1 _ hfits hgt) λh1 b1 g1=>aA (q h1 true b1 g1)
  ·refine ae (aA ?_);rw[ao rfl];exact set_tail hgw ho (hG1 _ hfits hgt) λh1 b1 g1=>aA (q h1 true b1 g1)
end
section
variable{P:Program}{w:World}{A:Around}{R:Result->Shared->Prop}{I:Addr}{fp wr:List Addr}{G:Array GenState->Array GenState->Prop}{n:Nat}{Pi:Nat->Value->Prop}{St:Nat->Shared->Prop}{led:Bool}
theorem zy.moved{h h':Heap}{a:Addr}{ks:List Int}(g:zy P w led h a ks)(k:∀o,h.get? a=some o->h'.get? a=some o):zy P w led h' a ks:=by
 obtain⟨es,ep,t,ho,hG⟩:=g;exact⟨es,ep,t,k _ ho,hG⟩
theorem M1(W:WalksS P w A.in1 I fp wr G n Pi St)(S:Addr)(hSf:S∉fp)(val:Nat->Int)(hval:∀i v,Pi i v->∃t,v= .int (val i) t)(hb:n+1<scanBound):
 ∀(k i:Nat)(s:Shared),n-i=k->i<=n->St i s->zy P w led s.heap S (firstMet val i)->(∀s',PySem.Moved (S::wr) G s s'->zy P w led s'.heap S (firstMet val n)->R (.ok (.ret .none)) s')->codeAny (model P w) A (.builtin "set.update.loop" ⟨[.ref S,.ref I],[]⟩) R s:=by
 have hSw:S∉wr:=λz=>hSf (W.sub _ z);have hsub:∀b∈wr,b∈S::wr:=λb z=>aL _ z;intro k
 induction k with
 |zero=>
  intro i s hk hi hst hS q;obtain rfl:i=n:=VX;refine pT HJ ?_;rw[mh lV _];refine ae (W.done s _ _ hst λs' hm=>aA ?_);exact q s' (hm.mono hsub) (hS.moved λo e=>hm.heap S _ hSw e)
 |succ k ih=>
  intro i s hk hi hst hS q;have hlt:i<n:=VX;refine pT HJ ?_;rw[mh lV _];refine ae (W.item i s _ _ hlt hst λv s' hP hst' hm=>?_);obtain⟨t,rfl⟩:=hval i v hP;have hS':=hS.moved (h':=s'.heap) λo e=>hm.heap S _ hSw e;refine ae (dP ?_);unfold setAdd;refine dP (ae ((intKind P w).pyHash (k:=val i) (intKind_is _ _ _ _) ?_));refine Pq (s:={s' with toks:=s'.toks+1}) hS' (by have:=firstMet_length_le val i;lia) λh1 b hsb hS2=>?_;rw[<-firstMet_succ]at hS2;refine aA ⟨DU lV _,ih (i+1) _ VX hlt (W.frame _ s' _ _ hst' (nQ _) λc hc o e=>?_) hS2 λs2 hm2 hS3=>?_⟩
  ·rw[hsb.2 c λz=>hSf (z▸hc)];exact e
  ·refine q s2 (PySem.Moved.trans W.gtrans ((hm.mono hsub).then_heap (nQ _) λc o hc e=>?_) hm2) hS3;rw[hsb.2 c λz=>hc (by rw[z];exact aV)];exact e
end
section
variable{P:Program}{w:World}{A:Around}{E:Value->Shared->Prop}{s:Shared}
noncomputable def l0(w:World):Bool:=w.params.followText "set-order"
noncomputable def oh(w:World):Obj:=lr #[] 0 (.fresh 0 0 (!l0 w))
theorem M2(a:Value){Q1:Value->Shared->Prop}(h:Q1 (.ref s.heap.objs.size) {s with heap:=s.heap.push (oh w)}):codeAny (model P w) A (.call (.builtin "set.__new__") ⟨[.type "set",a],[]⟩) (wants Q1 E) s:=by
 refine codeAny_of_tree (show wpAny _ A.in1 (checkBuiltinCall "set.__new__" ⟨[.type "set",a],[]⟩>>=λ_=>again (.builtin "set.__new__" ⟨[.type "set",a],[]⟩)) _ _ s from ?_);refine ae (wpAny_of_eq (PySem.F.newCall_set_1 a) (aA ⟨DU PySem.F.plain_set_new _,pT PySem.F.entry_set_new ?_⟩));rw[mh PySem.F.plain_set_new _];unfold Builtin.«set.__new__» Builtin.Frozenset.newClass;have hsub:=sub_set_self;obtain⟨hp,g,d,tk,os⟩:=s;dsimp only
 wp_walk
 refine F5 (aA ?_);dsimp only;simp only[newObj];refine ae (wpAny_alloc (aA ?_));exact aA h
theorem La{l:Addr}{its:Array Value}{ns:List Int}{Q:Value->Shared->Prop}(hh:A.handled=none)(hl:s.heap.IsList l its)(hi:IntsAre its.toList ns)(hb:its.size+1<scanBound)
 (q:∀(h1:Heap)(tk:Nat),zy P w (!l0 w) h1 s.heap.objs.size (firstMet (λi=>ns.getD i 0) its.size)->(∀b o,b<s.heap.objs.size->s.heap.get? b=some o->h1.get? b=some o)->Q (.ref s.heap.objs.size) {s with heap:=h1,toks:=tk}):
 wpAny (model P w) A (call (.type "set") [.ref l]) Q E s:=by
 obtain⟨c,tl,hmro⟩:=PySem.F.called_set.mro;have hmade:=PySem.F.called_set.made;have hsub:=PySem.F.called_set.sub;refine HF (codeAny_of_tree (show wpAny _ _ (callAny (.type "set") _) _ _ _ from aA ⟨Qv _ VY,pT PySem.F.entry_type_call ?_⟩));rw[Around.under_plain (weight_type_call_type "set" [.ref l] []) rfl];have h1:=PySem.F.called_set.notType;have h2:=PySem.F.called_set.canCreate;have hct:=PySem.F.typeCall_set_1 (.ref l)
 repeat (any_goals (first|assumption|wp_step))
 refine jT (M2 (.ref l) (E:=E) (Q1:=λx s1=>x= .ref s.heap.objs.size/\s1={s with heap:=s.heap.push (oh w)}) ⟨rfl,rfl⟩) λr s1 hr=>?_;cases r with
 |error e=>exact hr
 |ok fl=>
  cases fl with
  |ret obj=>
   obtain⟨rfl,rfl⟩:=hr;have hS:(s.heap.push (oh w)).get? s.heap.objs.size=some (oh w):=aW _ rfl;have hT:Shared.TypeIs {s with heap:=s.heap.push (oh w)} (.ref s.heap.objs.size) "set":=⟨_,hS,rfl⟩;have hli:=PySem.F.called_set.init.lookup;have hbi:=PySem.F.called_set.init.bind (.ref s.heap.objs.size)
   repeat (any_goals (first|assumption|wp_step))
   refine jT (LV (R:=wants (λr s2=>r= .none/\∃h1 tk,s2={s with heap:=h1,toks:=tk}/\zy P w (!l0 w) h1 s.heap.objs.size (firstMet (λi=>ns.getD i 0) its.size)/\∀b o,b<s.heap.objs.size->s.heap.get? b=some o->h1.get? b=some o) E) PySem.F.called_set.init.plain PySem.F.entry_set_init (check_set_init_1 hT ?_)) λr2 s2 hr2=>?_
   ·obtain⟨ol,hol,hcl,nl,hdl⟩:=hl;obtain⟨ocls,odict,odata,oslots⟩:=ol;simp only at hcl hdl;subst hcl;subst hdl;have hol2:(s.heap.push (oh w)).get? l=some {cls:= .type "list",dict:=odict,data:= .seq its nl,slots:=oslots}:=aG _ hol;have hsls:=PySem.F.sub_list_set;have hslf:=PySem.F.sub_list_frozenset;have hne:(Value.type "list"==Value.type "dict")=false:=VW;have hl1:(s.heap.push (oh w)).IsList l its:=⟨_,hol2,rfl,nl,rfl⟩;unfold Builtin.«set.__init__» noKeywords Builtin.Frozenset.updateFrom;generalize hPI:pyIter=PI
    wp_walk
    subst hPI;refine wpAny_pyIter_list hl1 (ae (wpAny_runValue ?_));have hlS:l<s.heap.objs.size:=aY hol;have hsz:(s.heap.push (oh w)).objs.size=s.heap.objs.size+1:=cG _ _;refine M1 (led:=!l0 w) ((Walks.list (by simp[hh]) _ l (by rw[hsz];exact bZ (jP hlS)) its).toS) s.heap.objs.size (λz=>by
     rcases List.mem_cons.mp z with z|z
     ·rw[hsz]at z;exact absurd z (bZ (Bb _))
     ·exact absurd (List.mem_singleton.mp z) (eM hlS)) (λi=>ns.getD i 0) (λi v hv=>IntsAre.int_at hi i v (by rw[di];exact hv)) hb (its.size-0) 0 _ VX (br _) ⟨⟨_,aW _ rfl,rfl,rfl⟩,(hl1.push _)⟩ ?_ ?_
    ·refine⟨#[],0,.fresh 0 0 (!l0 w),aG _ hS,⟨λe he=>absurd he (by simp),λk=>⟨λz=>absurd z (by simp[firstMet_zero]),λ⟨e,he,_⟩=>absurd he (by simp)⟩,rfl,by unfold scanBound;decide,rfl,GT.fresh _⟩⟩
    ·intro s3 hm hS3;obtain⟨h3,g3,d3,tk3,os3⟩:=s3;obtain rfl:g3=s.gens:=hm.gens;obtain rfl:d3=s.drawn:=hm.drawn;obtain rfl:os3=s.os:=hm.os;refine aA (show wpAny _ _ (ret Value.none) _ _ _ from aA ⟨rfl,h3,tk3,rfl,hS3,λb o hb e=>?_⟩);exact hm.heap b o (λz=>by
      rcases List.mem_cons.mp z with z|z
      ·exact absurd z (bZ hb)
      ·have z:=List.mem_singleton.mp z;rw[hsz]at z;exact absurd z (bZ (jP hb))) (aG _ (aG _ e))
   ·cases r2 with
    |error e=>exact hr2
    |ok fl2=>
     cases fl2 with
     |ret r=>
      obtain⟨rfl,h3,tk,rfl,hS3,hk3⟩:=hr2
      repeat (any_goals (first|assumption|wp_step))
      exact q _ _ hS3 hk3
     |_=>exact hr2.elim
  |_=>exact hr.elim
end
theorem As:Slot "set" "__iter__" "set.__iter__":= .of (owner:="set") (n:="__iter__") (by rw[HS,vK];kernel_rfl) VY VY VY (by first|exact .inl VY|exact .inr VY) (by rw[LZ];kernel_rfl)
theorem GF:entryFor table "set.__iter__"=some Builtin.«frozenset.__iter__»:=entryFor_alias (id':="frozenset.__iter__") (by kernel_rfl) rfl VY (by kernel_rfl)
theorem GG(a:Value):argsOk "set.__iter__" ⟨[a],[]⟩:=by unfold argsOk;kernel_rfl
theorem jk:Slot "set_iterator" "__next__" "set_iterator.__next__":= .of (owner:="set_iterator") (n:="__next__") (by rw[HS,vK];kernel_rfl) VY VY VY (by first|exact .inl VY|exact .inr VY) (by rw[LZ];kernel_rfl)
theorem Au:entryFor table "set_iterator.__next__"=some Builtin.«set_iterator.__next__»:=entryFor_of_tree (by kernel_rfl)
theorem Av(a:Value):argsOk "set_iterator.__next__" ⟨[a],[]⟩:=by unfold argsOk;kernel_rfl
theorem Aw:Slot "set_iterator" "__iter__" "set_iterator.__iter__":= .of (owner:="set_iterator") (n:="__iter__") (by rw[HS,vK];kernel_rfl) VY VY VY (by first|exact .inl VY|exact .inr VY) (by rw[LZ];kernel_rfl)
theorem GH(a:Value):argsOk "set_iterator.__iter__" ⟨[a],[]⟩:=by unfold argsOk;kernel_rfl
theorem RZ:typeLookup (.type "set") "__len__"=pure (some (.builtin "set.__len__")):=by rw[HS,vK];kernel_rfl
noncomputable def Dx(first:Value)(i:Nat)(r:Addr)(n ep:Nat):Obj:={cls:= .type "set_iterator",data:= .fields #[first,rawInt i,.ref r,rawInt n,rawInt ep]}
theorem Kc{α:Type}(f:Nat->Nat):∀(n k:Nat)(l:List α)(out:Array α),l.length=n->(pickOrder.go f n k l out).toList.Perm (out.toList++l)
 |0,k,l,out,h=>by
  have:l=[]:=List.length_eq_zero_iff.mp h;subst this;rw[pickOrder.go,bD]
 |n+1,k,l,out,h=>by
  rw[pickOrder.go];have hl:f k%l.length<l.length:=JJ _ VX;rw[af hl];dsimp only;refine(Kc f n (k+1) _ _ (by rw[List.length_eraseIdx_of_lt hl];lia)).trans ?_;rw[Array.toList_push,bK];refine List.Perm.append_left _ ?_;have e:=jO (f k%l.length) l;rw[eY hl]at e
  conv=>rhs;rw[<-e]
  rw[Mc];show(l[f k%l.length]::(List.take (f k%l.length) l++List.drop (f k%l.length+1) l)).Perm _;exact(List.perm_middle (a:=l[f k%l.length])).symm
theorem Eg{α:Type}(f:Nat->Nat)(xs:Array α):(pickOrder f xs).toList.Perm xs.toList:=Kc f xs.size 0 xs.toList #[] (by simp)
theorem GI:entryFor table "set_iterator.__iter__"=some Builtin.«dict_keyiterator.__iter__»:=entryFor_alias (id':="dict_keyiterator.__iter__") (by kernel_rfl) rfl VY (by kernel_rfl)
section
variable{P:Program}{w:World}{A:Around}{E:Value->Shared->Prop}{s:Shared}
theorem Lb{src:Source}{n:Nat}{Q:Nat->Shared->Prop}(hn:n≠0)(q:∀i d,i<n->Q i {s with drawn:=d}):wpAny (model P w) A (choose src n) Q E s:=λΓ p hΓ=>by
 unfold choose;rw[Sem.wp_choose];exact⟨hn,q _ _ (JJ _ (gu hn))⟩
theorem Kd{α:Type}:∀(n:Nat)(xs:List α)(s:Shared)(Q:List α->Shared->Prop),xs.length=n->(∀ys d,ys.Perm xs->Q ys {s with drawn:=d})->wpAny (model P w) A (drawOrder n xs) Q E s
 |0,xs,s,Q,h,q=>by
  have:xs=[]:=List.length_eq_zero_iff.mp h;subst this;exact aA (q [] s.drawn .nil)
 |n+1,[],s,Q,h,q=>by cases h
 |n+1,x::xs,s,Q,h,q=>by
  rw[drawOrder]
  case x_2=>exact λz=>nomatch z
  refine ae (Lb (by simp) λi d hi=>?_);rw[af hi];dsimp only;refine ae (Kd n _ _ _ (by rw[List.length_eraseIdx_of_lt hi];simpa using h) λys d2 hp=>aA (q _ d2 ?_));have e:=jO i (x::xs);rw[eY hi]at e;rw[Mc]at hp
  conv=>rhs;rw[<-e]
  exact(hp.cons _).trans List.perm_middle.symm
end
def QK(w:World)(r T:Addr)(es:Array (Int×Value))(ep:Nat)(t:SetTable)(ord:List Value)(h:Heap)(i:Nat)(first:Value):Prop:=
 (l0 w=true/\(∃slot:Nat,first=rawInt slot)/\ord=(pickOrder (w.params.setOrder r ep) es).toList.map (·.2))\/
 (l0 w=false/\(!t.plain&&decide (es.size>1))=true/\first= .ref T/\∃pl:List Nat,h.get? T=some {cls:= .type "tuple",data:= .seq (pl.map λp=>rawInt (p:Nat)).toArray}/\pl.Perm (List.range es.size)/\ord=pl.filterMap λp=>es[p]?.map (·.2))\/
 (l0 w=false/\(!t.plain&&decide (es.size>1))=false/\(∃slot:Nat,first=rawInt slot/\SetTable.below t.place slot=i)/\ord=es.toList.map (·.2))
structure SM(w:World)(r T I:Addr)(es:Array (Int×Value))(ep:Nat)(t:SetTable)(ord:List Value)(i:Nat)(h:Heap):Prop where
 st:h.get? r=some (lr es ep t)
 it:∃first,h.get? I=some (Dx first i r es.size ep)/\QK w r T es ep t ord h i first
theorem M3{α β:Type}(f:α->Option β):∀(l:List α),(∀x∈l,(f x).isSome=true)->∀i:Nat,(l.filterMap f)[i]?=(l[i]?).bind f
 |[],_,i=>by simp
 |x::l,h,i=>by
  obtain⟨y,hy⟩:=Option.isSome_iff_exists.mp (h x aV);rw[List.filterMap_cons_some hy];cases i with
  |zero=>simp[hy]
  |succ i=>
   rw[iH,iH];exact M3 f l (λz hz=>h z (aL _ hz)) i
section
variable{P:Program}{w:World}{A:Around}{E:Value->Shared->Prop}{s:Shared}{r T I:Addr}{es:Array (Int×Value)}{ep:Nat}{t:SetTable}{ord:List Value}{ks:List Int}{led:Bool}
theorem Bp{Q:Bool->Shared->Prop}(q:Q (l0 w) s):wpAny (model P w) A setsByText Q E s:=by
 unfold setsByText
 first|exact ae (F5 (aA q))|exact F5 (aA q)
theorem M4(hG:Kb P w (!l0 w) ks es t)(hs:s.heap.get? r=some (lr es ep t))(hb:l0 w=true)(slot i:Nat){Q:Option (Value×Nat)->Shared->Prop}(q:Q ((((pickOrder (w.params.setOrder r ep) es).toList.map (·.2))[i]?).map λv=>(v,slot)) s):wpAny (model P w) A (setNext r slot i ep) Q E s:=by
 unfold setNext;refine ae (fg hs rfl hG.ft ?_);dsimp only;refine ae (Bp ?_);rw[hb,ao rfl,ah (by simp)];unfold setWalk;refine ae (ae (fg hs rfl hG.ft ?_));dsimp only;refine ae (Bp ?_);rw[hb,ao rfl];refine ae (F5 (aA (aA ?_)));rw[aR,di,Option.map_map]at q;exact q
theorem M5(hG:Kb P w (!l0 w) ks es t)(hs:s.heap.get? r=some (lr es ep t))(hb:l0 w=false)(hd:(!t.plain&&decide (es.size>1))=false)(slot i k:Nat){Q:Option (Value×Nat)->Shared->Prop}(hk:SetTable.below t.place slot=i)(q:Q (match es[i]?,t.place[i]? with|some (_,x),some j=>some (x,j+1)|_,_=>none) s):wpAny (model P w) A (setNext r slot k ep) Q E s:=by
 unfold setNext;refine ae (fg hs rfl hG.ft ?_);dsimp only;refine ae (Bp ?_);rw[hb,ah aj];show wpAny _ _ (if(!t.plain&&decide (es.size>1))=true then _ else _) _ _ _;rw[hd,ah aj];refine ae ?_;show wpAny _ _ (if(!t.led&&!es.isEmpty)=true then _ else _) _ _ _;have hl:t.led=true:=by rw[hG.gt.ld,hb];rfl
 rw[hl,Bool.not_true,gr,ah aj];refine aA ?_;rw[hk];exact aA q
theorem M6(hG:Kb P w (!l0 w) ks es t){i:Nat}{v:Value}{Q:Option Value->Shared->Prop}(hS:SM w r T I es ep t ord i s.heap)(hrI:r≠I)(hTI:T≠I)(hv:ord[i]?=some v)(q:∀h1,SM w r T I es ep t ord (i+1) h1->(∀b o,b≠I->s.heap.get? b=some o->h1.get? b=some o)->Q (some v) {s with heap:=h1}):
 wpAny (model P w) A (pyNext (.ref I)) Q E s:=by
 obtain⟨first,hI,hm⟩:=hS.it;have hT:s.TypeIs (.ref I) "set_iterator":=⟨_,hI,rfl⟩;unfold pyNext;refine ae (DT (jr (name:=Str.ofString "__next__") hT jk (fF jk hT Au ?_ (Av _))));unfold Builtin.«set_iterator.__next__»;refine ae (aA (ae (LS hI rfl ?_)));show wpAny _ _ (setEntries r>>=_) _ _ _;unfold setEntries;refine ae (ae (fg hS.st rfl hG.ft (aA ?_)));rw[ah (by simp)];have up:∀(f:Value)(k:Nat)(h:Heap),h.get? I=some (Dx f i r es.size ep)->(h.update I (Obj.mapFields (·.setIfInBounds 1 (rawInt ((i:Int)+1))))).get? I=some (Dx f (i+1) r es.size ep):=λf k h e=>cW _ e rfl;have up0:∀(f g:Value)(h:Heap),h.get? I=some (Dx f i r es.size ep)->(h.update I (Obj.mapFields (·.setIfInBounds 0 g))).get? I=some (Dx g i r es.size ep):=λf g h e=>cW _ e rfl;have kp:∀(f:Obj->Obj)(h:Heap)(b:Addr)(o:Obj),b≠I->h.get? b=some o->(h.update I f).get? b=some o:=λf h b o hb e=>(bC _ _ (bh hb)).trans e;dsimp only;rcases hm with⟨hb,⟨slot,rfl⟩,rfl⟩|⟨hb,hd,rfl,pl,hT2,hp,rfl⟩|⟨hb,hd,⟨slot,rfl,hsl⟩,rfl⟩
 ·show wpAny _ _ (setNext r (slot:Int).toNat (i:Int).toNat (ep:Int).toNat>>=_) _ _ _;rw[bc,bc,bc];refine ae (M4 hG hS.st hb slot i ?_);rw[hv];show wpAny _ _ (setField (.ref I) 0 (rawInt (slot:Nat))>>=λ_=>setField (.ref I) 1 (rawInt ((i:Int)+1))>>=λ_=>ret v) _ _ _;refine ae (dq hI rfl (by simp) ?_);have e1:=up0 (rawInt (slot:Nat)) (rawInt (slot:Nat)) s.heap hI;refine ae (dq e1 rfl (by simp) ?_);have e2:=up _ 0 _ e1;refine aA ⟨v,rfl,aA (q _ ⟨kp _ _ _ _ hrI (kp _ _ _ _ hrI hS.st),_,e2,.inl ⟨hb,⟨slot,rfl⟩,rfl⟩⟩ λb o hb e=>kp _ _ _ _ hb (kp _ _ _ _ hb e))⟩
 ·have hall:∀x∈pl,((λp=>es[p]?.map (·.2)) x:Option Value).isSome=true:=λx hx=>by
   have hx':=List.mem_range.mp (hp.mem_iff.mp hx);simp[dO hx']
  rw[M3 _ pl hall]at hv;obtain⟨p,hpi,hpv⟩:=Option.bind_eq_some_iff.mp hv;obtain⟨e,he,rfl⟩:=Option.map_eq_some_iff.mp hpv;refine ae (wpAny_seqItems hT2 rfl ?_);dsimp only;have hpl:((pl.map λp=>rawInt (p:Nat)).toArray)[(i:Int).toNat]?=some (rawInt (p:Nat)):=by
   rw[bc,List.getElem?_toArray,aR,hpi];rfl
  rw[hpl];show wpAny _ _ (setNextDrawn r (p:Int).toNat (ep:Int).toNat>>=_) _ _ _;rw[bc,bc];unfold setNextDrawn;refine ae (ae (fg hS.st rfl hG.ft ?_));dsimp only;rw[ah (by simp),he];refine aA ?_;show wpAny _ _ (setField (.ref I) 1 (rawInt ((i:Int)+1))>>=λ_=>ret e.2) _ _ _;refine ae (dq hI rfl (by simp) ?_);have e2:=up _ 0 _ hI;refine aA ⟨e.2,rfl,aA (q _ ⟨kp _ _ _ _ hrI hS.st,_,e2,.inr (.inl ⟨hb,hd,rfl,pl,kp _ _ _ _ hTI hT2,hp,rfl⟩)⟩ λb o hb e=>kp _ _ _ _ hb e)⟩
 ·rw[aR,di]at hv;obtain⟨e,he,rfl⟩:=Option.map_eq_some_iff.mp hv;have hi:i<es.size:=(Array.getElem?_eq_some_iff.mp he).1;have hps:t.place.size=es.size:=by
   have:=hG.ft;unfold SetTable.fits at this;rw[bP,jg]at this;exact this.1
  have hpj:=dO (xs:=t.place) (i:=i) VX;show wpAny _ _ (setNext r (slot:Int).toNat (i:Int).toNat (ep:Int).toNat>>=_) _ _ _;rw[bc,bc,bc];refine ae (M5 hG hS.st hb hd slot i i hsl ?_);rw[he,hpj];show wpAny _ _ (setField (.ref I) 0 (rawInt ((t.place[i]+1:Nat):Int))>>=λ_=>setField (.ref I) 1 (rawInt ((i:Int)+1))>>=λ_=>ret e.2) _ _ _;refine ae (dq hI rfl (by simp) ?_);have e1:=up0 _ (rawInt ((t.place[i]+1:Nat):Int)) s.heap hI;refine ae (dq e1 rfl (by simp) ?_);have e2:=up _ 0 _ e1;refine aA ⟨e.2,rfl,aA (q _ ⟨kp _ _ _ _ hrI (kp _ _ _ _ hrI hS.st),_,e2,.inr (.inr ⟨hb,hd,⟨_,rfl,II hG.gt.rs hpj⟩,rfl⟩)⟩ λb o hb e=>kp _ _ _ _ hb (kp _ _ _ _ hb e))⟩
theorem Fl{Q1:Fin->Shared->Prop}{E1:Value->Shared->Prop}(hh:A.handled=none)(q:∀(a:Addr)(h1:Heap),(∀b o,s.heap.get? b=some o->h1.get? b=some o)->({s with heap:=h1}:Shared).TypeIs (.ref a) "StopIteration"->E1 (.ref a) {s with heap:=h1}):wpAny (model P w) A.in1 (newExc (.type "StopIteration") []>>=λe=>raiseNew e) Q1 E1 s:=by
 refine ae (by
  simp only[newExc,newTuple];refine ae (fe (ae (m:=firstArgMember _ _) (wpAny_of_eq (a:=Value.none) (by first|rfl|(simp only[firstArgMember];rfl)) (fe ?_ (by size_fits)))) (by size_fits));simp only[raiseNew];refine ae (wpAny_handled ?_);rw[show A.in1.handled=none from hh];exact ae (aA (wpAny_throw (q _ _ (λb o e=>aG _ (aG _ e)) ⟨_,aW _ rfl,rfl⟩))))
theorem M7(hh:A.handled=none)(hG:Kb P w (!l0 w) ks es t){i:Nat}{Q:Option Value->Shared->Prop}(hS:SM w r T I es ep t ord i s.heap)(hv:es.size<=i)(q:∀h1,(∀b o,b≠I->s.heap.get? b=some o->h1.get? b=some o)->Q none {s with heap:=h1}):
 wpAny (model P w) A (pyNext (.ref I)) Q E s:=by
 obtain⟨first,hI,hm⟩:=hS.it;have hT:s.TypeIs (.ref I) "set_iterator":=⟨_,hI,rfl⟩;unfold pyNext;refine ae (DT (jr (name:=Str.ofString "__next__") hT jk (fF jk hT Au ?_ (Av _))));unfold Builtin.«set_iterator.__next__»;refine ae (aA (ae (LS hI rfl ?_)));show wpAny _ _ (setEntries r>>=_) _ _ _;unfold setEntries;refine ae (ae (fg hS.st rfl hG.ft (aA ?_)));rw[ah (by simp)];have kp:∀(f:Obj->Obj)(h:Heap)(b:Addr)(o:Obj),b≠I->h.get? b=some o->(h.update I f).get? b=some o:=λf h b o hb e=>(bC _ _ (bh hb)).trans e;have fin:∀(f:Value),(s.heap.get? I=some (Dx f i r es.size ep))->∀(e:Value)(s1:Shared),(∃a h1,e= .ref a/\s1={s with heap:=h1}/\(∀b o,b≠I->s.heap.get? b=some o->h1.get? b=some o)/\s1.TypeIs (.ref a) "StopIteration")->wpAny (model P w) A (match(Except.error e:Except Value (Option Value))with| .ok (some v)=>pure (some v)| .ok none=>unsupported "iter:the-iterator's-class-has-lost-its-__next__-amid-the-walk"| .error e=>do
  if<-isInstance e (.type "StopIteration")then pure none else throw e) Q E s1:=by
  rintro f _ e s1 ⟨a,h1,rfl,rfl,hk,hty⟩;exact ae (wpAny_isInstance (T:="StopIteration") (b:=true) hty isSubtype_stop (aA (q h1 hk)))
 dsimp only;have none_:∀(o:Option (Value×Nat))(f:Value),s.heap.get? I=some (Dx f i r es.size ep)->o=none->True:=λ_ _ _ _=>trivial;rcases hm with⟨hb,⟨slot,rfl⟩,rfl⟩|⟨hb,hd,rfl,pl,hT2,hp,rfl⟩|⟨hb,hd,⟨slot,rfl,hsl⟩,rfl⟩
 ·show wpAny _ _ (setNext r (slot:Int).toNat (i:Int).toNat (ep:Int).toNat>>=_) _ _ _;rw[bc,bc,bc];refine ae (M4 hG hS.st hb slot i ?_);have hn:((pickOrder (w.params.setOrder r ep) es).toList.map (·.2))[i]?=none:=by
   rw[lp,ay,(Eg _ es).length_eq,bY];exact hv
  rw[hn];show wpAny _ _ (setField (.ref I) 2 .none>>=λ_=>newExc (.type "StopIteration") []>>=λe=>raiseNew e) _ _ _;refine ae (dq hI rfl (by simp) (Fl hh λa h1 k hty=>fin _ hI _ _ ⟨a,h1,rfl,rfl,λb o hb e=>k b o (kp _ _ _ _ hb e),hty⟩))
 ·refine ae (wpAny_seqItems hT2 rfl ?_);dsimp only;have hpl:((pl.map λp=>rawInt (p:Nat)).toArray)[(i:Int).toNat]?=none:=by
   rw[bc,List.getElem?_toArray,lp,ay,hp.length_eq,cy];exact hv
  rw[hpl];show wpAny _ _ (setField (.ref I) 0 (rawInt 0)>>=λ_=>setField (.ref I) 2 .none>>=λ_=>newExc (.type "StopIteration") []>>=λe=>raiseNew e) _ _ _;refine ae (dq hI rfl (by simp) ?_);have e1:(s.heap.update I (Obj.mapFields (·.setIfInBounds 0 (rawInt 0)))).get? I=some (Dx (rawInt 0) i r es.size ep):=cW _ hI rfl;refine ae (dq e1 rfl (by simp) (Fl hh λa h1 k hty=>fin _ hI _ _ ⟨a,h1,rfl,rfl,λb o hb e=>k b o (kp _ _ _ _ hb (kp _ _ _ _ hb e)),hty⟩))
 ·show wpAny _ _ (setNext r (slot:Int).toNat (i:Int).toNat (ep:Int).toNat>>=_) _ _ _;rw[bc,bc,bc];refine ae (M5 hG hS.st hb hd slot i i hsl ?_);rw[Dc hv];show wpAny _ _ (setField (.ref I) 2 .none>>=λ_=>newExc (.type "StopIteration") []>>=λe=>raiseNew e) _ _ _;refine ae (dq hI rfl (by simp) (Fl hh λa h1 k hty=>fin _ hI _ _ ⟨a,h1,rfl,rfl,λb o hb e=>k b o (kp _ _ _ _ hb e),hty⟩))
theorem Lc(hh:A.handled=none)(hG:Kb P w (!l0 w) ks es t)(hrI:r≠I)(hTI:T≠I)(ho:ord.length=es.size):Walks P w A I [I,r,T] [I] es.size (λi v=>ord[i]?=some v) (SM w r T I es ep t ord)where
 sub:=λb hb=>by simp at hb;simp[hb]
 frame:=λi h h1 st hk=>by
  obtain⟨f,hI,hm⟩:=st.it;refine⟨hk r (by simp) _ st.st,f,hk I (by simp) _ hI,?_⟩;rcases hm with m|⟨hb,hd,hf,pl,hT2,hp⟩|m
  ·exact .inl m
  ·exact .inr (.inl ⟨hb,hd,hf,pl,hk T (by simp) _ hT2,hp⟩)
  ·exact .inr (.inr m)
 item:=λi s Q E hi st q=>by
  obtain⟨v,hv⟩:∃v,ord[i]?=some v:=⟨_,af VX⟩;exact M6 hG st hrI hTI hv λh1 st1 k=>q v h1 s.toks hv st1 λb o hb e=>k b o (λz=>hb (by simp[z])) e
 done:=λs Q E st q=>M7 hh hG st (aH _) λh1 k=>q h1 s.toks λb o hb e=>k b o (λz=>hb (by simp[z])) e
 self:=λi s Q E st q=>by
  obtain⟨f,hI,hm⟩:=st.it;have hT:s.TypeIs (.ref I) "set_iterator":=⟨_,hI,rfl⟩;refine Dh hT Aw (fF Aw hT GI (show wpAny _ _ (ret (.ref I)) _ _ s from aA ⟨_,rfl,"set_iterator",_,hT,jk.lookup,q⟩) (GH _))
end
open PyProof.V PySem.Calls PySem.W
section
variable{P:Program}{w:World}{A:Around}{E:Value->Shared->Prop}{s:Shared}{r:Addr}{es:Array (Int×Value)}{ep:Nat}{t:SetTable}{ks:List Int}
theorem M8(hG:Kb P w (!l0 w) ks es t)(hs:s.heap.get? r=some (lr es ep t)){Q:Value->Shared->Prop}
 (q:∀(d:Drawn)(h1:Heap)(I T:Addr)(ord:List Value),(∀b o,s.heap.get? b=some o->h1.get? b=some o)->s.heap.objs.size<=I->(T=r\/s.heap.objs.size<=T)->T≠I->ord.Perm (es.toList.map (·.2))->SM w r T I es ep t ord 0 h1->Q (.ref I) {s with heap:=h1,drawn:=d}):wpAny (model P w) A (pyIter (.ref r)) Q E s:=by
 have hT:s.TypeIs (.ref r) "set":=⟨_,hs,rfl⟩;refine Dh hT As (fF As hT GF ?_ (GG _));unfold Builtin.«frozenset.__iter__» Builtin.Frozenset.slot0;refine ae (ae (aA ?_));show wpAny _ _ (pure r) _ _ _;refine aA ?_;unfold Builtin.Frozenset.sizeOf setEntries;refine ae (ae (ae (fg hs rfl hG.ft (aA (aA ?_)))));unfold setDrawn;refine ae (ae (fg hs rfl hG.ft ?_));dsimp only;refine ae (Bp (aA ?_));show wpAny _ _ (if(!l0 w&&(!t.plain&&decide (es.size>1)))=true then _ else _) _ _ _;have fin:∀(first:Value)(s1:Shared)(d:Drawn)(T:Addr)(ord:List Value),s1.heap.get? r=some (lr es ep t)->(∃h1,s1={s with heap:=h1,drawn:=d}/\(∀b o,s.heap.get? b=some o->h1.get? b=some o)/\s.heap.objs.size<=h1.objs.size)->(T=r\/s.heap.objs.size<=T)->T<s1.heap.objs.size->ord.Perm (es.toList.map (·.2))->QK w r T es ep t ord (s1.heap.push (Dx first 0 r es.size ep)) 0 first->
  wpAny (model P w) A.in1 (setEpoch r>>=λe=>newFields "set_iterator" [first,rawInt 0,.ref r,rawInt (es.size:Int),rawInt (e:Int)]>>=λv=>ret v) (λfin s'=>∃v,fin=Fin.done (Flow.ret v)/\∃T' r,s'.TypeIs v T'/\typeLookup (Value.type T') (Str.ofString "__next__")=pure (some r)/\Q v s') E s1:=by
  rintro first s1 d T ord h0 ⟨h1,rfl,hk,hsz⟩ hT1 hT2 ho hm
  refine ae (wpAny_setEpoch_of h0 rfl hG.ft ?_);unfold newFields;refine ae (fe (aA ⟨_,rfl,"set_iterator",_,⟨_,aW _ rfl,rfl⟩,jk.lookup,?_⟩) (by size_fits));exact q d _ _ T ord (λb o e=>aG _ (hk b o e)) hsz hT1 (bZ hT2) ho ⟨aG _ h0,first,aW _ rfl,hm⟩
 have hr:=aY hs;cases hb:l0 w with
 |true=>
  rw[Bool.not_true,gr,ah aj];refine ae (aA ?_);exact fin (rawInt 0) s s.drawn r _ hs ⟨s.heap,rfl,λ_ _ e=>e,aH _⟩ (.inl rfl) hr ((Eg _ es).map _) (.inl ⟨hb,⟨0,rfl⟩,rfl⟩)
 |false=>
  rw[F6,js];cases hd:(!t.plain&&decide (es.size>1))with
  |false=>
   rw[ah aj];refine ae (aA ?_);exact fin (rawInt 0) s s.drawn r _ hs ⟨s.heap,rfl,λ_ _ e=>e,aH _⟩ (.inl rfl) hr (List.Perm.refl _) (.inr (.inr ⟨hb,hd,⟨0,rfl,IH hG.gt.rs⟩,rfl⟩))
  |true=>
   rw[ao rfl];refine ae (Kd _ _ _ _ (by simp) λys d hy=>ae (wpAny_newTuple ?_ (by rw[ay,hy.length_eq,cy];exact tP hG.bd)));have hT3:(s.heap.push {cls:= .type "tuple",data:= .seq (ys.map λi=>rawInt (i:Nat)).toArray}).get? s.heap.objs.size=some {cls:= .type "tuple",data:= .seq (ys.map λi=>rawInt (i:Nat)).toArray}:=aW _ rfl;refine fin (.ref s.heap.objs.size) _ d s.heap.objs.size (ys.filterMap λp=>es[p]?.map (·.2)) (aG _ hs) ⟨_,rfl,λb o e=>aG _ e,by rw[cG];exact nQ _⟩ (.inr (aH _)) (aY hT3) ?_ (.inr (.inl ⟨hb,hd,rfl,ys,aG _ hT3,hy,rfl⟩));refine(hy.filterMap _).trans ?_;have e:=filterMap_getElem?_range es
   conv=>rhs;rw[<-e]
   rw[List.map_filterMap]
theorem M9(hT:s.TypeIs (.ref r) "set"){Q:Bool->Shared->Prop}(q:Q false s):wpAny (model P w) A (Builtin.List.listLengthHint (.ref r)) Q E s:=by
 unfold Builtin.List.listLengthHint;refine ae (wpAny_specialOf hT RZ ?_);generalize hid:("set.__len__":String)=id0
 wp_delta
 rw[show splitId id0=some ("set","__len__")from by subst hid;decide+kernel];subst hid;refine ae (wpAny_isInstance (T:="set") (b:=true) hT (by rw[LZ];kernel_rfl) (wpAny_ite_split (λz=>absurd z VW) λ_=>wpAny_ite_split (λ_=>ae (wpAny_typeOf hT (aA q))) λz=>absurd VY z))
theorem IK(hh:A.handled=none)(hG:Kb P w (!l0 w) ks es t)(hs:s.heap.get? r=some (lr es ep t)){R:Result->Shared->Prop}{S:Addr}(hSr:S≠r)(res:Value)(c0:Nat)(hS:s.heap.get? S=some {cls:= .type "list",data:= .seq #[] c0})
 (q:∀(d:Drawn)(h1:Heap)(tk:Nat)(acc:Array Value)(c1:Nat),(∀b o,b≠S->s.heap.get? b=some o->h1.get? b=some o)->h1.get? S=some {cls:= .type "list",dict:=none,data:= .seq acc c1,slots:= #[]}->acc.toList.Perm (es.toList.map (·.2))->R (.ok (.ret res)) {s with heap:=h1,drawn:=d,toks:=tk}):
 wpAny (model P w) A.in1 (Builtin.List.listExtendWith (.ref S) (.ref r) res) (λfin s'=>match fin with| .done f=>R (.ok f) s'| .again c'=>c'.quiet=true/\codeAny (model P w) A c' R s') (λe s'=>R (.error e) s') s:=by
 have hT:s.TypeIs (.ref r) "set":=⟨_,hs,rfl⟩;have hSl:=aY hS;unfold Builtin.List.listExtendWith;refine ae (wpAny_typeOf (T:="set") hT ?_);have h1:Builtin.List.listSameRef (.ref S) (.ref r)=false:=by simp[Builtin.List.listSameRef,hSr]
 have h2:(Value.type "set"==Value.type "list")=false:=VW;have h3:(Value.type "set"==Value.type "tuple")=false:=VW;simp only[h1,h2,h3,Ah,fm,kx];refine ae (M8 hG hs λd g I T ord hk hI hT1 hTI ho st=>?_);have hSI:S≠I:=bZ (aZ hSl hI);have hrI:r≠I:=bZ (aZ (aY hs) hI);have hST:S≠T:=by
  rcases hT1 with z|z
  ·rw[z];exact hSr
  ·exact bZ (aZ hSl z)
 have hSf:S∉[I,r,T]:=by simp;exact⟨hSI,hSr,hST⟩
 have hol:ord.length=es.size:=by rw[ho.length_eq,ay,bY]
 have W:=Lc (P:=P) (A:=A.in1) (ep:=ep) hh hG hrI hTI hol;have key:∀(h:Heap)(c1 tk:Nat),SM w r T I es ep t ord 0 h->(∀b o,b≠S->s.heap.get? b=some o->h.get? b=some o)->h.get? S=some {cls:= .type "list",data:= .seq #[] c1}->I<h.objs.size->codeAny (model P w) A (.builtin "list.extend.loop" ⟨[.ref S,.ref I,res],[]⟩) R {s with heap:=h,drawn:=d,toks:=tk}:=by
  intro h c1 tk hst hk1 hS1 hIl;refine codeAny_extend_loopS W.toS (tP hG.bd) S hSf res es.size 0 _ #[] c1 rfl (br _) hst hS1 (ItemsOf.nil _) λs2 acc c2 hm hS2 hacc=>?_;rw[PySem.Moved.eq_with hm];refine q d s2.heap s2.toks acc c2 (λb o hb e=>hm.heap b o (λz=>?_) (hk1 b o hb e)) hS2 ?_
  ·rcases List.mem_cons.mp z with z|z
   ·exact hb z
   ·have z:=List.mem_singleton.mp z;exact absurd (aZ (aY e) hI) (by rw[z];exact cV _)
  ·have e:acc.toList=ord:=by
    apply fG;intro j;by_cases hj:j<acc.toList.length
    ·have e2:=af hj;rw[e2];exact(hacc.2 j _ (by rw[<-di];exact e2)).symm
    ·rw[b7 VX,b7 (by have:=hacc.1;rw[bY]at hj;lia)]
   rw[e];exact ho
 have hIl:I<g.objs.size:=by
  obtain⟨f,hf,_⟩:=st.it;exact aY hf
 have hS1:=hk _ _ hS;refine ae (dP (M9 (s:={s with heap:=g,drawn:=d}) ⟨_,st.st,rfl⟩ ?_));refine wpAny_ite_split (λ_=>ae (wpAny_rule (ae ?_))) λ_=>aA ⟨DU PySem.F.plain_extend_loop _,key _ c0 _ st (λb o _ e=>hk b o e) hS1 hIl⟩;show wpAny _ _ (updateSeq S (·.push .none)>>=λ_=>updateSeq S (·.pop)) _ _ _;have hS2:=cW (Obj.mapSeq (·.push Value.none)) hS1 rfl;have hS3:=cW (Obj.mapSeq (·.pop)) hS2 rfl;refine ae (wpAny_updateSeq hS1 rfl (wpAny_updateSeq (hz:=by seq_fits) hS2 rfl (aA ⟨DU PySem.F.plain_extend_loop _,key _ _ _ ?_ (λb o hb e=>?_) hS3 ?_⟩)))
 ·refine W.frame 0 _ _ st λb hb o e=>?_;have hbS:b≠S:=λz=>hSf (z▸hb);rw[bC _ _ (bh hbS),bC _ _ (bh hbS)];exact e
 ·rw[bC _ _ (bh hb),bC _ _ (bh hb)];exact hk b o e
 ·obtain⟨f,hf,_⟩:=st.it;have e:((g.update S (Obj.mapSeq (·.push Value.none))).update S (Obj.mapSeq (·.pop))).get? I=some (Dx f 0 r es.size ep):=by
   rw[bC _ _ hSI,bC _ _ hSI];exact hf
  exact aY e
theorem GJ(hh:A.handled=none)(hG:Kb P w (!l0 w) ks es t)(hs:s.heap.get? r=some (lr es ep t)){R:List Value->Shared->Prop}(q:∀(d:Drawn)(h1:Heap)(tk:Nat)(vs:List Value),(∀b o,s.heap.get? b=some o->h1.get? b=some o)->s.heap.objs.size<=h1.objs.size->vs.Perm (es.toList.map (·.2))->R vs {s with heap:=h1,drawn:=d,toks:=tk}):wpAny (model P w) A (collect (.ref r)) R E s:=by
 have hr:=aY hs;unfold collect;refine ae (wpAny_runValue (pT entry_proto_collect' ?_));rw[mh PySem.F.plain_proto_collect _];show wpAny _ A.in1 (newList []>>=λl=>again (.builtin "list.__iadd__" ⟨[l,.ref r],[]⟩)) _ _ s;refine ae (fe (aA ⟨DU PySem.F.plain_list_iadd _,pT entry_list_iadd' ?_⟩));rw[mh PySem.F.plain_list_iadd _];have hS1:(s.heap.push {cls:= .type "list",data:= .seq ([]:List Value).toArray}).get? s.heap.objs.size=some {cls:= .type "list",data:= .seq #[]}:=aW _ rfl;have k0:=IK (A:=A) (s:={s with heap:=s.heap.push {cls:= .type "list",data:= .seq ([]:List Value).toArray}}) hh hG (aG _ hs) (eM hr) (.ref s.heap.objs.size) 0 hS1
  (R:=λ(x:Result) (s':Shared)=>∃(d:Drawn)(h1:Heap)(tk:Nat)(acc:Array Value)(c1:Nat),x= .ok (.ret (.ref s.heap.objs.size))/\s'={s with heap:=h1,drawn:=d,toks:=tk}/\(∀b o,s.heap.get? b=some o->h1.get? b=some o)/\h1.get? s.heap.objs.size=some {cls:= .type "list",dict:=none,data:= .seq acc c1,slots:= #[]}/\acc.toList.Perm (es.toList.map (·.2)))
  (λd h1 tk acc c1 hk hS2 hp=>⟨d,h1,tk,acc,c1,rfl,rfl,λb o e=>hk b o (bZ (aY e)) (aG _ e),hS2,hp⟩)
 refine dN k0 (λfin s' x=>?_) λe s' x=>?_
 ·cases fin with
  |done f=>
   revert x;refine W7 λd h1 tk acc=>Xa λc1=>Xe λe e0_ hk hS2 hp=>?_;subst e0_;cases e;exact ae (wpAny_load hS2 (aA (q d h1 tk acc.toList hk (ll (aY hS2)) hp)))
  |again c1=>
   refine⟨x.1,jT x.2 λv s2=>W7 λd h1 tk acc=>Xa λc1=>Xe λe0_ e1_ hk hS2 hp=>?_⟩;subst e0_;subst e1_;exact ae (wpAny_load hS2 (aA (q d h1 tk acc.toList hk (ll (aY hS2)) hp)))
 ·obtain⟨_,_,_,_,_,z,_⟩:=x;cases z
end
end L2
namespace L2
open PySem PySem.Spec PyProof.Rows PySem.Calls
theorem GK:∀(l p:List Int),l.Nodup->(∀x∈l,x∈p)->p.length<=l.length->p.Perm l
 |[],p,_,_,hl=>by
  have:p=[]:=List.length_eq_zero_iff.mp (by simpa using hl);rw[this]
 |x::l,p,hn,hs,hl=>by
  obtain⟨h1,h2⟩:=List.nodup_cons.mp hn;have e:=List.perm_cons_erase (hs x aV);have hle:=e.length_eq;refine e.trans ((GK l (p.erase x) h2 (λy hy=>(List.mem_erase_of_ne (λz:y=x=>h1 (z▸hy))).mpr (hs y (aL _ hy))) ?_).cons x);simp at hle hl;lia
noncomputable def TH:Value->Int
 | .int k _=>k
 |_=>0
theorem Na:∀(vs:List Value),(∀v∈vs,∃k t,v= .int k t)->IntsAre vs (vs.map TH)
 |[],_=>.nil
 |v::vs,h=>by
  obtain⟨k,t,rfl⟩:=h v aV;exact .cons k t (Na vs λx hx=>h x (aL _ hx))
theorem GL{P:Program}{w:World}{k:Int}{v:Value}(h:(intKind P w).is k v=true):∃t,v= .int k t:=by
 simp[PySem.intKind,Value.isInt]at h;cases v<;>simp_all
theorem vA(val:Nat->Int):∀n,(firstMet val n).Nodup
 |0=>List.nodup_nil
 |n+1=>by
  rw[firstMet_succ];unfold step_dedup;split
  ·exact vA val n
  ·rename_i h;rw[zi];refine⟨vA val n,by simp,λa ha b hb=>?_⟩;rw[List.mem_singleton.mp hb];exact λz=>h (List.any_eq_true.mpr ⟨a,ha,by simp[z]⟩)
theorem Pr(ns:List Int)(k:Int):k∈firstMet (λi=>ns.getD i 0) ns.length↔k∈ns:=by
 have h:=firstMet_any (λi=>ns.getD i 0) ns.length k;have e:(List.range ns.length).map (λi=>ns.getD i 0)=ns:=by
  apply fG;intro i;rw[aR];by_cases hi:i<ns.length
  ·rw[lW hi,af hi];show some (ns.getD i 0)=_;rw[xG,af hi];rfl
  ·rw[b7 (l:=ns) VX,b7 (by rw[cy];lia)];rfl
 rw[e]at h;have f:∀l:List Int,l.any (·==k)=true↔k∈l:=λl=>by
  rw[List.any_eq_true];exact⟨λ⟨x,hx,z⟩=>beq_iff_eq.mp z▸hx,λhk=>⟨k,hk,by simp⟩⟩
 rw[<-f,<-f,h]
section
variable{P:Program}{w:World}{A:Around}{E:Value->Shared->Prop}{s:Shared}{r:Addr}{ks:List Int}
theorem GN(hh:A.handled=none)(hS:zy P w (!l0 w) s.heap r ks)(hn:ks.Nodup){Q:Value->Shared->Prop}(q:∀(d:Drawn)(h1:Heap)(tk:Nat)(D:Addr)(ns:List Int)(out:List Value)(c:Nat),ns.Perm ks->ns.Pairwise (·<=·)->(∀b o,s.heap.get? b=some o->h1.get? b=some o)->s.heap.objs.size<=D->h1.get? D=some {cls:= .type "list",data:= .seq out.toArray c}->IntsAre out ns->Q (.ref D) {s with heap:=h1,drawn:=d,toks:=tk}):
 wpAny (model P w) A (call (.builtin "sorted") [.ref r]) Q E s:=by
 obtain⟨es,ep,t,ho,hG⟩:=hS;refine Calls.call_function_entry kind_sorted plain_sorted entry_sorted (args_sorted1 _) (by
  unfold Builtin.«sorted»;refine ae (m:=checkCount "sorted" 1 1 _) (aA (ae (GJ (A:=A.in1) hh hG ho λd h1 tk vs hk hsz hp=>?_)));have hvl:vs.length=es.size:=by rw[hp.length_eq,ay,bY]
  have hvz:vs.length<=sizeLine:=by rw[hvl];exact tP hG.bd
  have hiv:∀v∈vs,∃k t,v= .int k t:=λv hv=>by
   obtain⟨e,he,rfl⟩:=List.mem_map.mp (hp.mem_iff.mp hv);obtain⟨⟨k,hk1,_⟩,_⟩:=hG.el e he;obtain⟨t,ht⟩:=GL hk1;exact⟨k,t,ht⟩
  have hI:=Na vs hiv;have hpk:(vs.map TH).Perm ks:=by
   refine GK ks _ hn (λk hk1=>?_) (by rw[ay,hvl,hG.sz];exact aH _);obtain⟨e,he,hk2⟩:=(hG.mem k).mp hk1;obtain⟨t,ht⟩:=GL hk2;refine List.mem_map.mpr ⟨e.2,hp.mem_iff.mpr (List.mem_map.mpr ⟨e,he,rfl⟩),?_⟩;rw[ht];rfl
  refine ae (wpAny_newList ?_ hvz);have hD:(h1.push (seqObj "list" vs.toArray 0)).get? h1.objs.size=some (seqObj "list" vs.toArray 0):=aW _ rfl;refine ae (dP (fF slot_list_sort ⟨_,hD,rfl⟩ entry_list_sort (list_sort_treeAny hD hI hvz λout ns' a1 a2 a3=>⟨_,rfl,aA ⟨_,rfl,?_⟩⟩) (args_list_sort _)));obtain⟨c,hc⟩:=sortedHeap_at (out:=out) hD;refine q d _ tk _ ns' out.toList c (a2.trans hpk) a3 (λb o e=>?_) ?_ (by rw[Array.toArray_toList];exact hc) a1
  ·have hb:=aY (hk b o e);rw[sortedHeap_old (bZ hb) (by rw[size_push'];exact jP hb)];exact aG _ (hk b o e)
  ·exact hsz)
end
noncomputable def R0(P:Program)(w:World)(a:Addr)(ks:List Int):HO:= .ext λh=>zy P w (!l0 w) h a ks
theorem Pt{P:Program}{w:World}{H:Hp}{h:Heap}{a:Addr}{ks:List Int}(g:zy P w (!l0 w) h a ks):eI P w H h a (R0 P w a ks):=by
 obtain⟨es,ep,t,ho,hG⟩:=g;exact⟨⟨es,ep,t,ho,hG⟩,⟨_,ho⟩,λh1 h2 ⟨es,ep,t,e,r⟩ k=>⟨es,ep,t,k _ e,r⟩⟩
section
variable{X:Cx}
theorem Inv.VM{pins:List (Addr×Obj)}{σ:St}{H:Hp}{s:Shared}{d:Drawn}(I:Inv X pins σ H s):Inv X pins σ H {s with drawn:=d}:=⟨I.ok,I.os,I.bare,I.base,I.loc,I.cell,I.free,I.kJ,I.pin,I.dI,I.len⟩
theorem Ld(hc:X.calm=true):pU X (.type "set") (λxs H Q=>∃(l:Addr)(ns:List Int),xs=[.ref l]/\cN X.K H l (ns.map V.int)/\ns.length+1<4096/\∀p,H p=none->Q (.ref p) (upd H p (R0 X.prog X.w p (firstMet (λi=>ns.getD i 0) ns.length)))):=by
 intro pins s σ H xs us Q I r h;obtain⟨l,ns,rfl,hs,hz,q⟩:=h;obtain⟨its,rv,hl,_⟩:=I.list hs;rw[cE.ME r];have hi:=rv.ints;have hn:its.toArray.size=ns.length:=by rw[bz,hi.length]
 refine La (I.ok.hd hc) hl.isList (by exact hi) (by rw[hn];exact hz) λh1 tk g k=>?_;rw[hn]at g;exact⟨.ref _,_,I.laid (t':=tk) (λb o e=>k b o (aY e) e) (aH _) (Pt g),rfl,q _ (I.dI.fresh (aH _))⟩
theorem IL(hc:X.calm=true):pU X (.builtin "sorted") (λxs H Q=>∃(p:Addr)(ks:List Int),xs=[.ref p]/\H p=some (R0 X.prog X.w p ks)/\ks.Nodup/\ks.length<=4096/\∀(ns:List Int)(l:Addr),ns.Perm ks->ns.Pairwise (·<=·)->H l=none->Q (.ref l) (upd H l (.lst (ns.map V.int)))):=by
 intro pins s σ H xs us Q I r h;obtain⟨p,ks,rfl,hp,hn,hz,q⟩:=h;rw[cE.ME r];obtain⟨g,_,_⟩:=I.dI p _ hp;refine GN (I.ok.hd hc) g hn λd h1 tk D ns out c p1 p2 k hD hg hI=>?_;have hlen:(ns.map V.int).length<=sizeLine:=by
  rw[ay,p1.length_eq,aM];lia
 exact⟨.ref D,_,Inv.VM (d:=d) (I.laid (t':=tk) k hD (show eI X.prog X.w _ h1 D (.lst (ns.map V.int))from⟨hlen,out,c,qW hI,hg⟩)),rfl,q ns D p1 p2 (I.dI.fresh hD)⟩
end
end L2
namespace L2
open PySem PySem.Spec PyProof.Rows
def GV(mg:Str->Option Value)(x:Str)(v:V):Prop:=∃u,mg x=some u/\RelV v u
theorem cv{X:Cx}{x:Str}{v:V}{pos:Pos}(g:GV X.mg x v)(hg:Gl X x:=by rfl)(hd:(x==("__debug__":Str))=false:=by decide):PE X (.Name x pos) (tC v):=
 let⟨_,e,r⟩:=g
 OS hg e r hd
structure dQ(P:Program)(w:World)(K:PySem.W.Frag)(mg:Str->Option Value)(base:Heap)(k:Nat)(f:Addr)(ps:List Str)(sp:Sp):Prop where
 ex:∃fd,lq P w K mg base (Ar P w) k f fd ps sp/\Binds K fd ps []
 kp:PySem.W.keepIn K (.ref f)=true
theorem dQ.mono{P:Program}{w:World}{K:PySem.W.Frag}{mg:Str->Option Value}{base:Heap}{j k:Nat}{f:Addr}{ps:List Str}{sp:Sp}(F:dQ P w K mg base j f ps sp)(h:j<=k):dQ P w K mg base k f ps sp:=
 let⟨fd,G,b⟩:=F.ex
 ⟨⟨fd,G.mono h,b⟩,F.kp⟩
theorem bF{P:Program}{w:World}{X:Cx}:gf (Ar P w) X (λ_ _ _=>False):=λ_ _ _ _ _ _ _ ⟨_,_,_,_,_,_,_,_,_,_,z⟩=>z.elim
def Uw(sp:Sp)(E:XK)(t:TA):TE:=λσ H Q=>t σ H λvs H1=>sp vs H1 Q E
def WC(C:Addr)(m:Str)(x:V)(H:Hp):Prop:=∃a dx fs,x= .ref a/\H a=some (.ins C dx fs)/\fs.lookup m=none
theorem Ws{C:Addr}{m:Str}{H:Hp}{a dx:Addr}{fs:List (Str×V)}(o:H a=some (.ins C dx fs))(l:fs.lookup m=none):WC C m (.ref a) H:=⟨a,dx,fs,rfl,o,l⟩
def Ux(C:Addr)(m:Str)(sp:Sp)(E:XK)(ta:TE)(t:TA):TE:=λσ H Q=>ta σ H λx H1=>WC C m x H1/\t σ H1 λvs H2=>sp (x::vs) H2 Q E
theorem WV(C:Addr)(m:Str)(sp:Sp)(E:XK)(ta:TE)(t:TA):Ux C m sp E ta t=JR C m sp [] E ta t:=by
 funext σ H Q
 unfold Ux JR;simp only[bD]
 congr 1
 funext x H1
 refine propext ⟨λh=>?_,λh=>?_⟩
 ·obtain⟨⟨a,dx,fs,e,o,l⟩,q⟩:=h;exact⟨a,dx,fs,e,o,l,q⟩
 ·obtain⟨a,dx,fs,e,o,l,q⟩:=h;exact⟨⟨a,dx,fs,e,o,l⟩,q⟩
def Uy(C:Addr)(sp:Sp)(E:XK)(t:TA):TE:=λσ H Q=>t σ H λvs H1=>∀x dx,H1 x=none->H1 dx=none->dx≠x->sp (.ref x::vs) (upd (upd H1 dx (.own x)) x (.ins C dx [])) (λv H2=>v= .gb/\Q (.ref x) H2) E
theorem PE.to{X:Cx}{e:Expr}{t u:TE}(h:PE X e t)(q:u=t):PE X e u:=by rw[q];exact h
section
variable{X:Cx}{k:Nat}{f C:Addr}{ps:List Str}{sp:Sp}{E:XK}{x m:Str}{p pos apos:Pos}{e o:Expr}{es:List Expr}{ta:TE}{t:TA}
theorem cH(O:dQ X.prog X.w X.K X.mg X.base k f ps sp)(hm:X.mg x=some (.ref f))(hr:fK k X.A)(hx:gf (Ar X.prog X.w) X E)(ha:PA X (e::es) t)(hg:Gl X x:=by rfl)(hdb:(x==("__debug__":Str))=false:=by decide)
 (he:starEach (e::es) X.env=(false,eval e X.env)::starEach es X.env:=by rfl) (hpl:(backTo pos (starEach es X.env)).any (·.1)=false:=by rfl):PE X (.Call (.Name x p) (e::es) [] pos) (Uw sp E t):=by
 obtain⟨fd,G,b⟩:=O.ex;exact(OX G hr hg hm O.kp b .nil hx ha hdb he hpl).to (by unfold Uw JQ;funext σ H Q;simp only[bD])
theorem bR{pl:Sem Bool}(O:dQ X.prog X.w X.K X.mg X.base k f ps sp)(c:Dq X.K C)(hm:c5 X.K C m f)(hr:fK k X.A)(hx:gf (Ar X.prog X.w) X E)(he:PE X o ta)(ha:PA X (e::es) t)
 (hst:starEach (e::es) X.env=(false,eval e X.env)::starEach es X.env:=by rfl) (hpl:(backTo pos (starEach es X.env)).any (·.1)=false:=by rfl)
 (ht:eval (.Call (.Attribute o m apos) (e::es) [] pos) X.env=(do
  let ov<-eval o X.env
  standAt apos.atName
  let(f,first)<-holding [ov] (getMethod ov m pl)
  callWith pos f first (backTo pos (starEach (e::es) X.env)) (backToKw pos (keywordEach [] X.env))):=by rfl):PE X (.Call (.Attribute o m apos) (e::es) [] pos) (Ux C m sp E ta t):=by
 obtain⟨fd,G,b⟩:=O.ex;exact(OY he c hm G hr b .nil hx ha hst hpl ht).to (WV ..)
theorem fh{pl:Sem Bool}(O:dQ X.prog X.w X.K X.mg X.base k f ps sp)(c:Dq X.K C)(hm:c5 X.K C m f)(hr:fK k X.A)(hx:gf (Ar X.prog X.w) X E)(he:PE X o ta)
 (ht:eval (.Call (.Attribute o m apos) [] [] pos) X.env=(do
  let ov<-eval o X.env
  standAt apos.atName
  let(f,first)<-holding [ov] (getMethod ov m pl)
  callWith pos f first (backTo pos (starEach [] X.env)) (backToKw pos (keywordEach [] X.env))):=by rfl):PE X (.Call (.Attribute o m apos) [] [] pos) (Ux C m sp E ta Ik):=by
 obtain⟨fd,G,b⟩:=O.ex;exact(Mx he c hm G hr b .nil hx ht).to (WV ..)
theorem oj(O:dQ X.prog X.w X.K X.mg X.base k f ps sp)(M:Mk X.K C f)(hm:X.mg x=some (.ref C))(hr:fK (k+1) X.A)(hx:gf (Ar X.prog X.w) X E)(ha:PA X (e::es) t)(hg:Gl X x:=by rfl)(hdb:(x==("__debug__":Str))=false:=by decide)
 (he:starEach (e::es) X.env=(false,eval e X.env)::starEach es X.env:=by rfl) (hpl:(backTo pos (starEach es X.env)).any (·.1)=false:=by rfl):PE X (.Call (.Name x p) (e::es) [] pos) (Uy C sp E t):=by
 obtain⟨fd,G,b⟩:=O.ex;exact(OZ M G hr hg hm b .nil hx ha hdb he hpl).to (by unfold Uy JS;funext σ H Q;simp only[bD])
theorem R1(O:dQ X.prog X.w X.K X.mg X.base k f ps sp)(M:Mk X.K C f)(hm:X.mg x=some (.ref C))(hr:fK (k+1) X.A)(hx:gf (Ar X.prog X.w) X E)(hg:Gl X x:=by rfl)(hdb:(x==("__debug__":Str))=false:=by decide):
 PE X (.Call (.Name x p) [] [] pos) (Uy C sp E Ik):=by
 obtain⟨fd,G,b⟩:=O.ex;exact(Mz M G hr hg hm b .nil hx hdb).to (by unfold Uy JS;funext σ H Q;simp only[bD])
def Uz(C:Addr)(sp:Sp)(E:XK)(t:TA):TS:=λ_ σ H=>t σ H λvs H1=>vs.length<=sizeLine/\∀a,H1 a=none->sp (.ref a::vs) (upd H1 a (XO a C none)) (λv H2=>v= .gb/\∃od,H2 a=some (XO a C od)/\E (.ref C) od (del H2 a)) (λ_ _ _=>False)
theorem PS.to{X:Cx}{st:Stmt}{t u:TS}(h:PS X st t)(q:u=t):PS X st u:=by rw[q];exact h
theorem pZ(O:dQ X.prog X.w X.K X.mg X.base k f ps sp)(M:Iz X.K C f)(hm:X.mg x=some (.ref C))(hr:fK (k+1) X.A)(ht:Ph X E)(ha:PA X (e::es) t){cpos:Pos}(hg:Gl X x:=by rfl)(hdb:(x==("__debug__":Str))=false:=by decide)
 (he:starEach (e::es) X.env=(false,eval e X.env)::starEach es X.env:=by rfl) (hpl:(backTo cpos (starEach es X.env)).any (·.1)=false:=by rfl):
 PS X (.Raise (some (.Call (.Name x p) (e::es) [] cpos)) none pos) (Uz C sp E t):=by
 obtain⟨fd,G,b⟩:=O.ex;exact(MY M G hr hg hm b .nil bF ht ha hdb he hpl).to (by unfold Uz Ff;funext D σ H;simp only[bD])
theorem ly(O:dQ X.prog X.w X.K X.mg X.base k f ps sp)(M:Iz X.K C f)(hm:X.mg x=some (.ref C))(hr:fK (k+1) X.A)(ht:Ph X E){cpos:Pos}(hg:Gl X x:=by rfl)(hdb:(x==("__debug__":Str))=false:=by decide):
 PS X (.Raise (some (.Call (.Name x p) [] [] cpos)) none pos) (Uz C sp E Ik):=by
 obtain⟨fd,G,b⟩:=O.ex;exact(K5 M G hr hg hm b .nil bF ht hdb).to (by unfold Uz Ff;funext D σ H;simp only[bD])
end
def TJ(t:TS):TS:=λD σ H=>∃Post:St->Hp->Prop,t {D with nx:=Post} σ H/\∀σ' H',Post σ' H'->D.nx σ' H'
theorem d5{X:Cx}{st:Stmt}{t:TS}(h:PS X st t):PS X st (TJ t):=by
 rintro pins s σ H D I ⟨Post,q,k⟩;refine eu (h pins s σ H {D with nx:=Post} I q) λf s1 z=>?_;cases f with
 |next=>
  obtain⟨σ',H',I',z⟩:=z;exact⟨σ',H',I',k _ _ z⟩
 |ret v=>exact z
 |brk=>exact z
 |cont=>exact z
def R3(t:TE):TE:=λσ H Q=>∃Post:VK,t σ H Post/\∀v H',Post v H'->Q v H'
theorem Pu{X:Cx}{e:Expr}{t:TE}(h:PE X e t):PE X e (R3 t):=by
 rintro pins s σ H Q I ⟨Post,q,k⟩;exact eu (h pins s σ H Post I q) λu s1 ⟨v,H1,I1,r,z⟩=>⟨v,H1,I1,r,k _ _ z⟩
def R4(t:TT):TT:=λσ H Q=>∃Post:Bool->Hp->Prop,t σ H Post/\∀v H',Post v H'->Q v H'
theorem Pw{X:Cx}{e:Expr}{t:TT}(h:PT X e t):PT X e (R4 t):=by
 rintro pins s σ H Q I ⟨Post,q,k⟩;exact eu (h pins s σ H Post I q) λb s1 ⟨H1,I1,z⟩=>⟨H1,I1,k _ _ z⟩
structure Dn(K:PySem.W.Frag)(x qual:Str)(st:Stmt)(f:Addr)(ps:List Str):Prop where
 ex:∃fd,OM K x qual st f fd/\Binds K fd ps []
def Run(P:Program)(w:World)(K:PySem.W.Frag)(mg:Str->Option Value)(base:Heap)(N:List Str)(qual:Str)(st:Stmt)(f:Addr)(cdv:Value)(A:Around)(outer:List Env)(s:Shared)(H:Hp)(E:XK)(Q:VK)(vs:List V):Prop:=
 ∃t,Gd (tY (Ar P w) P w K mg base N qual (aI st) f cdv A outer s H E) (kE st) t/\t {nx:=λ_ H'=>Q .gb H',rt:=Q} (start N vs) H
def Wg(P:Program)(w:World)(K:PySem.W.Frag)(mg:Str->Option Value)(base:Heap)(N:List Str)(qual:Str)(st:Stmt)(f:Addr)(cdv:Value)(A:Around)(outer:List Env)(s:Shared)(H:Hp)(E:XK)(Q:VK)(vs:List V):Prop:=
 ∃t,IC (tY (Ar P w) P w K mg base N qual (aI st) f cdv A outer s H E) (kE st) t/\t {nx:=λ_ H'=>Q .gb H',rt:=Q} (start N vs) H
theorem Dn.ok{P:Program}{w:World}{K:PySem.W.Frag}{mg:Str->Option Value}{base:Heap}{x qual:Str}{st:Stmt}{f:Addr}{N ps:List Str}{k:Nat}{sp:Sp}(D:Dn K x qual st f ps)(S:aU N ps (aI st))(len:∀vs H Q E,sp vs H Q E->vs.length=ps.length)
 (hbody:∀(cdv:Value)(A:Around)(outer:List Env)(s:Shared)(H:Hp)(vs:List V)(Q:VK)(E:XK),fK k (A.deeper (envOfC qual (aI st) s.heap.objs.size f cdv))->sp vs H Q E->
  Run P w K mg base N qual st f cdv A outer s H E Q vs):dQ P w K mg base (k+1) f ps sp:=
 let⟨fd,F,b⟩:=D.ex
 ⟨⟨fd,F.Vu S len hbody,b⟩,F.kp⟩
theorem Dn.TC{P:Program}{w:World}{K:PySem.W.Frag}{mg:Str->Option Value}{base:Heap}{x qual:Str}{st:Stmt}{f:Addr}{N ps:List Str}{k:Nat}{sp:Sp}(D:Dn K x qual st f ps)(S:aU N ps (aI st))(len:∀vs H Q E,sp vs H Q E->vs.length=ps.length)
 (hbody:∀(cdv:Value)(A:Around)(outer:List Env)(s:Shared)(H:Hp)(vs:List V)(Q:VK)(E:XK),fK k (A.deeper (envOfC qual (aI st) s.heap.objs.size f cdv))->sp vs H Q E->
  Wg P w K mg base N qual st f cdv A outer s H E Q vs):dQ P w K mg base (k+1) f ps sp:=
 let⟨fd,F,b⟩:=D.ex
 ⟨⟨fd,F.TC S len hbody,b⟩,F.kp⟩
theorem WS{α:Type}{l:List α}(h:l.length=0):l=[]:=List.length_eq_zero_iff.mp h
theorem WR{α:Type}:∀{l:List α},l.length=1->∃a,l=[a]
 |[_],_=>⟨_,rfl⟩
theorem WT{α:Type}:∀{l:List α},l.length=2->∃a b,l=[a,b]
 |[_,_],_=>⟨_,_,rfl⟩
theorem WU{α:Type}:∀{l:List α},l.length=3->∃a b c,l=[a,b,c]
 |[_,_,_],_=>⟨_,_,_,rfl⟩
theorem WX{α:Type}:∀{l:List α},l.length=4->∃a b c d,l=[a,b,c,d]
 |[_,_,_,_],_=>⟨_,_,_,_,rfl⟩
theorem WZ{A0 A1 A2:Type}{p:A0->A1->A2->Prop}(x0:A0)(x1:A1)(x2:A2)(h:p x0 x1 x2):∃y0 y1 y2,p y0 y1 y2:=⟨x0,x1,x2,h⟩
theorem WY{A0 A1 A2 A3:Type}{p:A0->A1->A2->A3->Prop}(x0:A0)(x1:A1)(x2:A2)(x3:A3)(h:p x0 x1 x2 x3):∃y0 y1 y2 y3,p y0 y1 y2 y3:=⟨x0,x1,x2,x3,h⟩
theorem W1{A0 A1 A2 A3 A4:Type}{p:A0->A1->A2->A3->A4->Prop}(x0:A0)(x1:A1)(x2:A2)(x3:A3)(x4:A4)(h:p x0 x1 x2 x3 x4):∃y0 y1 y2 y3 y4,p y0 y1 y2 y3 y4:=⟨x0,x1,x2,x3,x4,h⟩
theorem W0{A0 A1 A2 A3 A4 A5:Type}{p:A0->A1->A2->A3->A4->A5->Prop}(x0:A0)(x1:A1)(x2:A2)(x3:A3)(x4:A4)(x5:A5)(h:p x0 x1 x2 x3 x4 x5):∃y0 y1 y2 y3 y4 y5,p y0 y1 y2 y3 y4 y5:=⟨x0,x1,x2,x3,x4,x5,h⟩
theorem W2{A0 A1 A2 A3 A4 A5 A6:Type}{p:A0->A1->A2->A3->A4->A5->A6->Prop}(x0:A0)(x1:A1)(x2:A2)(x3:A3)(x4:A4)(x5:A5)(x6:A6)(h:p x0 x1 x2 x3 x4 x5 x6):∃y0 y1 y2 y3 y4 y5 y6,p y0 y1 y2 y3 y4 y5 y6:=⟨x0,x1,x2,x3,x4,x5,x6,h⟩
theorem W3{A0 A1 A2 A3 A4 A5 A6 A7:Type}{p:A0->A1->A2->A3->A4->A5->A6->A7->Prop}(x0:A0)(x1:A1)(x2:A2)(x3:A3)(x4:A4)(x5:A5)(x6:A6)(x7:A7)(h:p x0 x1 x2 x3 x4 x5 x6 x7):∃y0 y1 y2 y3 y4 y5 y6 y7,p y0 y1 y2 y3 y4 y5 y6 y7:=⟨x0,x1,x2,x3,x4,x5,x6,x7,h⟩
theorem W5{A0 A1 A2 A3 A4 A5 A6 A7 A8:Type}{p:A0->A1->A2->A3->A4->A5->A6->A7->A8->Prop}(x0:A0)(x1:A1)(x2:A2)(x3:A3)(x4:A4)(x5:A5)(x6:A6)(x7:A7)(x8:A8)(h:p x0 x1 x2 x3 x4 x5 x6 x7 x8):∃y0 y1 y2 y3 y4 y5 y6 y7 y8,p y0 y1 y2 y3 y4 y5 y6 y7 y8:=⟨x0,x1,x2,x3,x4,x5,x6,x7,x8,h⟩
theorem W4{A0 A1 A2 A3 A4 A5 A6 A7 A8 A9 A10:Type}{p:A0->A1->A2->A3->A4->A5->A6->A7->A8->A9->A10->Prop}(x0:A0)(x1:A1)(x2:A2)(x3:A3)(x4:A4)(x5:A5)(x6:A6)(x7:A7)(x8:A8)(x9:A9)(x10:A10)(h:p x0 x1 x2 x3 x4 x5 x6 x7 x8 x9 x10):∃y0 y1 y2 y3 y4 y5 y6 y7 y8 y9 y10,p y0 y1 y2 y3 y4 y5 y6 y7 y8 y9 y10:=⟨x0,x1,x2,x3,x4,x5,x6,x7,x8,x9,x10,h⟩
def WJ(i:Nat):TE:=λσ H Q=>match σ[i]? with
 |some (some v)=>Q v H
 |_=>False
theorem WK(i:Nat):WJ i=SO i:=by
 funext σ H Q
 unfold WJ SO;rcases σ[i]? with _|_|v
 ·exact propext ⟨False.elim,λ⟨_,e,_⟩=>nomatch e⟩
 ·exact propext ⟨False.elim,λ⟨_,e,_⟩=>nomatch e⟩
 ·exact propext ⟨λh=>⟨v,rfl,h⟩,λ⟨_,e,h⟩=>by cases e;exact h⟩
def Wz(K:PySem.W.Frag)(f:Str)(x:V)(H:Hp)(v:V):Prop:=∃a C dx fs,x= .ref a/\H a=some (.ins C dx fs)/\Dq K C/\df K C f/\fs.lookup f=some v
theorem Wq{K:PySem.W.Frag}{f:Str}{H:Hp}{a C dx:Addr}{fs:List (Str×V)}{v:V}(o:H a=some (.ins C dx fs))(c:Dq K C)(n:df K C f)(l:fs.lookup f=some v):Wz K f (.ref a) H v:=⟨a,C,dx,fs,rfl,o,c,n,l⟩
def WL(K:PySem.W.Frag)(ta:TE)(f:Str):TE:=λσ H Q=>ta σ H λx H1=>∃v,Wz K f x H1 v/\Q v H1
theorem WM(K:PySem.W.Frag)(ta:TE)(f:Str):WL K ta f=S5 K ta f:=by
 funext σ H Q
 unfold WL S5 Wz
 congr 1
 funext x H1
 refine propext ⟨λh=>?_,λh=>?_⟩
 ·obtain⟨v,⟨a,C,dx,fs,e,o,c,n,l⟩,q⟩:=h;exact⟨a,C,dx,fs,v,e,o,c,n,l,q⟩
 ·obtain⟨a,C,dx,fs,v,e,o,c,n,l,q⟩:=h;exact⟨v,⟨a,C,dx,fs,e,o,c,n,l⟩,q⟩
def WH(S:Hp->Addr->List V->Prop)(x y:V)(H:Hp)(v:V):Prop:=∃p xs i,x= .ref p/\y= .int i/\S H p xs/\Dr xs i=some v
theorem Wt{S:Hp->Addr->List V->Prop}{p:Addr}{xs:List V}{i:Int}{v:V}{H:Hp}(s:S H p xs)(a:Dr xs i=some v):WH S (.ref p) (.int i) H v:=⟨p,xs,i,rfl,rfl,s,a⟩
def WI(S:Hp->Addr->List V->Prop):R2:=λx y H Q=>∃v,WH S x y H v/\Q v H
def WE(t:TE):TT:=λσ H Q=>t σ H λx H'=>match x with
 | .bl k=>Q k H'
 |_=>False
theorem WA(t:TE):WE t=QD t:=by
 funext σ H Q
 unfold WE QD
 congr 1
 funext x H'
 cases x with
 |bl k=>exact propext ⟨λh=>⟨k,rfl,h⟩,λ⟨_,e,h⟩=>by cases e;exact h⟩
 |_=>exact propext ⟨False.elim,λ⟨_,e,_⟩=>nomatch e⟩
def WN(g:Int->Int->V):R2:=λx y H Q=>match x,y with
 | .int i,.int j=>Q (g i j) H
 |_,_=>False
theorem qT.j{X:Cx}{f:Value->Value->Sem Value}{g:Int->Int->V}(h:qT X f (Mn g)):qT X f (WN g):=by
 intro pins s σ H x y v u Q I rx ry q;refine h pins s σ H x y v u Q I rx ry ?_;unfold WN at q;split at q
 ·exact⟨_,_,rfl,rfl,q⟩
 ·exact q.elim
theorem PT.to{X:Cx}{e:Expr}{t u:TT}(h:PT X e t)(q:u=t):PT X e u:=by rw[q];exact h
section
variable{X:Cx}{a b:Expr}{ta tb t:TE}{pos:Pos}{op:CmpOp}
theorem Wv{r:R2}(ho:qT X (compareOp op) r)(ha:PE X a ta)(hb:PE X b tb)(hm:behindInMarks op b=false):PT X (.Compare a [op] [b] pos) (WE (Ur r ta tb)):=(a8 ho ha hb hm).to (WA _)
theorem WB(h:PC X op a b t)(h1:behindInMarks op b=false:=by first|exact SQ _ VW VW|rfl):PT X (.Compare a [op] [b] pos) (WE t):=(BB h h1).to (WA _)
theorem Wy{e:Expr}(h:PE X e t)(he:∀whole,isTrue e X.env whole=(do let v<-whole;standAt e.pos;holding [v] (truthy v)):=by intro _;rfl):PT X e (WE t):=(iW h he).to (WA _)
end
section
variable{X:Cx}{k:Nat}{f C:Addr}{ps:List Str}{sp:Sp}{E:XK}{x m:Str}{p pos apos:Pos}{e o:Expr}{es:List Expr}{ta:TE}{t:TA}
theorem Wo(i:Nat)(hN:X.N[i]?=some x:=by rfl)(hv:SG X.env.scope x:=by first|exact Or.inl rfl|exact Or.inr (Or.inl rfl)|exact Or.inr (Or.inr rfl))(hd:(x==("__debug__":Str))=false:=by decide)
 (hcd:(x==("__classdict__":Str))=false:=by decide):PE X (.Name x pos) (WJ i):=(pv i hN hv hd hcd).to (WK i)
theorem Wp{f:Str}(K:PySem.W.Frag)(he:PE X e ta)(hb:attributeBase e f X.env (eval e X.env)=eval e X.env)(hK:X.K=K:=by rfl):PE X (.Attribute e f pos) (WL K ta f):=(Pn K he hb hK).to (WM _ _ _)
theorem WO:SK X (WI (cN X.K)):=λvalue slice pins s σ H x y v u Q I rx ry ⟨z,⟨p,xs,i,e1,e2,sq,ea⟩,q⟩=>a0 value slice pins s σ H x y v u Q I rx ry ⟨p,xs,i,z,e1,e2,sq,ea,q⟩
theorem WQ:SK X (WI (iK X.K)):=λvalue slice pins s σ H x y v u Q I rx ry ⟨z,⟨p,xs,i,e1,e2,sq,ea⟩,q⟩=>dJ value slice pins s σ H x y v u Q I rx ry ⟨p,xs,i,z,e1,e2,sq,ea,q⟩
theorem Wr(K:PySem.W.Frag)(hK:X.K=K:=by rfl):SK X (WI (cN K)):=hK▸WO
theorem Ww(K:PySem.W.Frag)(hK:X.K=K:=by rfl):SK X (WI (iK K)):=hK▸WQ
end
end L2
namespace TS
open PySem PySem.Spec PyProof.Rows L2
noncomputable def top(i:Nat):Stmt:=PySem.Challenge.pw_truthstore_s01_answers.main.body.getD i (.Pass ⟨0,0,0,0⟩)
abbrev ra:Stmt:=inClass (top 9) 0
theorem Dy:aU ["self","code","place"] ["self","code","place"] (aI ra):=⟨rfl,rfl,rfl,VY,rfl,VY,VY⟩
abbrev rf:Stmt:=inClass (top 31) 0
theorem Dz:aU ["self","kind","held","place","behind"] ["self","kind","held","place","behind"] (aI rf):=⟨rfl,rfl,rfl,VY,rfl,VY,VY⟩
abbrev lz:Stmt:=inClass (top 31) 1
theorem zA:aU ["self"] ["self"] (aI lz):=⟨rfl,rfl,rfl,VY,rfl,VY,VY⟩
abbrev ud:Stmt:=top 32
theorem jv:aU ["text","found","place","token"] ["text"] (aI ud):=⟨rfl,rfl,rfl,VY,rfl,VY,VY⟩
abbrev oI:Stmt:=top 33
theorem fP:aU ["text","place","in_remark","byte"] ["text","place"] (aI oI):=⟨rfl,rfl,rfl,VY,rfl,VY,VY⟩
abbrev xb:Stmt:=top 34
theorem om:aU ["text","place","byte","follower","sign"] ["text","place"] (aI xb):=⟨rfl,rfl,rfl,VY,rfl,VY,VY⟩
abbrev zB:Stmt:=top 35
theorem rg:aU ["text","place","signs","behind"] ["text","place"] (aI zB):=⟨rfl,rfl,rfl,VY,rfl,VY,VY⟩
abbrev ue:Stmt:=top 36
theorem ik:aU ["text","place","below_zero","first","behind","digits","size"] ["text","place","below_zero"] (aI ue):=⟨rfl,rfl,rfl,VY,rfl,VY,VY⟩
abbrev gU:Stmt:=top 37
theorem tG:aU ["digits","below_zero"] ["digits","below_zero"] (aI gU):=⟨rfl,rfl,rfl,VY,rfl,VY,VY⟩
abbrev zC:Stmt:=top 38
theorem rj:aU ["digits","size","digit"] ["digits"] (aI zC):=⟨rfl,rfl,rfl,VY,rfl,VY,VY⟩
abbrev xc:Stmt:=top 39
theorem GO:aU ["byte"] ["byte"] (aI xc):=⟨rfl,rfl,rfl,VY,rfl,VY,VY⟩
abbrev uf:Stmt:=top 40
theorem rm:aU ["byte","signs","offset"] ["byte"] (aI uf):=⟨rfl,rfl,rfl,VY,rfl,VY,VY⟩
abbrev oJ:Stmt:=inClass (top 42) 0
theorem BX:aU ["self","text"] ["self","text"] (aI oJ):=⟨rfl,rfl,rfl,VY,rfl,VY,VY⟩
abbrev j3:Stmt:=inClass (top 42) 1
theorem x6:aU ["self"] ["self"] (aI j3):=⟨rfl,rfl,rfl,VY,rfl,VY,VY⟩
abbrev oK:Stmt:=inClass (top 42) 2
theorem BY:aU ["self"] ["self"] (aI oK):=⟨rfl,rfl,rfl,VY,rfl,VY,VY⟩
abbrev lA:Stmt:=inClass (top 42) 3
theorem p5:aU ["self","sign","token"] ["self","sign"] (aI lA):=⟨rfl,rfl,rfl,VY,rfl,VY,VY⟩
abbrev j4:Stmt:=inClass (top 42) 4
theorem x8:aU ["self"] ["self"] (aI j4):=⟨rfl,rfl,rfl,VY,rfl,VY,VY⟩
abbrev lB:Stmt:=inClass (top 42) 5
theorem zD:aU ["self"] ["self"] (aI lB):=⟨rfl,rfl,rfl,VY,rfl,VY,VY⟩
abbrev iX:Stmt:=inClass (top 42) 6
theorem vN:aU ["self","sign"] ["self","sign"] (aI iX):=⟨rfl,rfl,rfl,VY,rfl,VY,VY⟩
abbrev gW:Stmt:=inClass (top 42) 7
theorem jU:aU ["self","token"] ["self"] (aI gW):=⟨rfl,rfl,rfl,VY,rfl,VY,VY⟩
abbrev lC:Stmt:=top 46
theorem j5:aU ["text","names","space","reader","table"] ["text","names","space"] (aI lC):=⟨rfl,rfl,rfl,VY,rfl,VY,VY⟩
abbrev my:Stmt:=top 47
theorem lD:aU ["reader","names","space","depth","token","parts"] ["reader","names","space","depth"] (aI my):=⟨rfl,rfl,rfl,VY,rfl,VY,VY⟩
abbrev rn:Stmt:=top 48
theorem oM:aU ["reader","names","space","depth","count","parts"] ["reader","names","space","depth","count"] (aI rn):=⟨rfl,rfl,rfl,VY,rfl,VY,VY⟩
abbrev xf:Stmt:=top 49
theorem GP:aU ["word","parts","space"] ["word","parts","space"] (aI xf):=⟨rfl,rfl,rfl,VY,rfl,VY,VY⟩
abbrev oN:Stmt:=top 50
theorem BZ:aU ["reader","token","names","space"] ["reader","token","names","space"] (aI oN):=⟨rfl,rfl,rfl,VY,rfl,VY,VY⟩
abbrev mz:Stmt:=inClass (top 52) 0
theorem AW:aU ["self","number"] ["self","number"] (aI mz):=⟨rfl,rfl,rfl,VY,rfl,VY,VY⟩
abbrev iY:Stmt:=inClass (top 53) 0
theorem vO:aU ["self"] ["self"] (aI iY):=⟨rfl,rfl,rfl,VY,rfl,VY,VY⟩
abbrev j6:Stmt:=inClass (top 54) 0
theorem x9:aU ["self"] ["self"] (aI j6):=⟨rfl,rfl,rfl,VY,rfl,VY,VY⟩
abbrev j7:Stmt:=inClass (top 55) 0
theorem yb:aU ["self"] ["self"] (aI j7):=⟨rfl,rfl,rfl,VY,rfl,VY,VY⟩
abbrev gX:Stmt:=inClass (top 56) 0
theorem tH:aU ["self"] ["self"] (aI gX):=⟨rfl,rfl,rfl,VY,rfl,VY,VY⟩
abbrev gY:Stmt:=inClass (top 57) 0
theorem tI:aU ["self"] ["self"] (aI gY):=⟨rfl,rfl,rfl,VY,rfl,VY,VY⟩
abbrev rp:Stmt:=top 59
theorem oO:aU ["store","names","text","table","fault"] ["store","names","text"] (aI rp):=⟨rfl,rfl,rfl,VY,rfl,VY,VY⟩
abbrev oP:Stmt:=top 60
theorem mB:aU ["store","choice","first","second","one","two"] ["store","choice","first","second"] (aI oP):=⟨rfl,rfl,rfl,VY,rfl,VY,VY⟩
abbrev rq:Stmt:=top 61
theorem DA:aU ["store","diagram"] ["store","diagram"] (aI rq):=⟨rfl,rfl,rfl,VY,rfl,VY,VY⟩
abbrev lE:Stmt:=top 62
theorem zE:aU ["store","asked","yes","no"] ["store","asked","yes","no"] (aI lE):=⟨rfl,rfl,rfl,VY,rfl,VY,VY⟩
abbrev rA:Stmt:=top 63
theorem DB:aU ["store","diagram","variable","truth"] ["store","diagram","variable","truth"] (aI rA):=⟨rfl,rfl,rfl,VY,rfl,VY,VY⟩
abbrev oQ:Stmt:=top 64
theorem ug:aU ["store","diagram","variable","table"] ["store","diagram","variable"] (aI oQ):=⟨rfl,rfl,rfl,VY,rfl,VY,VY⟩
abbrev mC:Stmt:=top 65
theorem sv:aU ["store","diagram","variable","table"] ["store","diagram","variable"] (aI mC):=⟨rfl,rfl,rfl,VY,rfl,VY,VY⟩
abbrev rB:Stmt:=top 66
theorem kF:aU ["store","diagram","variable","inner","table","with_false","with_true"] ["store","diagram","variable","inner"] (aI rB):=⟨rfl,rfl,rfl,VY,rfl,VY,VY⟩
abbrev iZ:Stmt:=top 68
theorem fM:aU ["first","second","rest"] ["first","second"] (aI iZ):=⟨rfl,rfl,rfl,VY,rfl,VY,VY⟩
abbrev B0:Stmt:=top 69
theorem Eh:aU ["above","below","divisor"] ["above","below"] (aI B0):=⟨rfl,rfl,rfl,VY,rfl,VY,VY⟩
abbrev lF:Stmt:=top 72
theorem p6:aU ["store","diagram","chance"] ["store","diagram"] (aI lF):=⟨rfl,rfl,rfl,VY,rfl,VY,VY⟩
abbrev mD:Stmt:=top 73
theorem sy:aU ["store","diagram","known","chance"] ["store","diagram","known"] (aI mD):=⟨rfl,rfl,rfl,VY,rfl,VY,VY⟩
abbrev oR:Stmt:=top 74
theorem B1:aU ["store","diagram"] ["store","diagram"] (aI oR):=⟨rfl,rfl,rfl,VY,rfl,VY,VY⟩
abbrev oS:Stmt:=top 75
theorem B2:aU ["store","diagram"] ["store","diagram"] (aI oS):=⟨rfl,rfl,rfl,VY,rfl,VY,VY⟩
abbrev mE:Stmt:=top 76
theorem sA:aU ["store","diagram","nodes"] ["store","diagram"] (aI mE):=⟨rfl,rfl,rfl,VY,rfl,VY,VY⟩
abbrev jw:Stmt:=top 77
theorem iQ:aU ["store","diagram","variables","number"] ["store","diagram"] (aI jw):=⟨rfl,rfl,rfl,VY,rfl,VY,VY⟩
abbrev oU:Stmt:=top 78
theorem mF:aU ["store","diagram","truths","node"] ["store","diagram","truths"] (aI oU):=⟨rfl,rfl,rfl,VY,rfl,VY,VY⟩
abbrev l8:Stmt:=top 79
theorem oV:aU ["row","number"] ["row"] (aI l8):=⟨rfl,rfl,rfl,VY,rfl,VY,VY⟩
abbrev oW:Stmt:=top 80
theorem jx:aU ["store","diagram","most","places","told","place"] ["store","diagram","most"] (aI oW):=⟨rfl,rfl,rfl,VY,rfl,VY,VY⟩
abbrev iL:Stmt:=top 81
theorem dR:aU ["store","diagram","weights","places","greatest","place","best","chance"] ["store","diagram"] (aI iL):=⟨rfl,rfl,rfl,VY,rfl,VY,VY⟩
abbrev il:Stmt:=top 82
theorem yc:aU ["store","diagram","order"] ["store","diagram","order"] (aI il):=⟨rfl,rfl,rfl,VY,rfl,VY,VY⟩
abbrev mG:Stmt:=top 83
theorem AX:aU ["store"] ["store"] (aI mG):=⟨rfl,rfl,rfl,VY,rfl,VY,VY⟩
abbrev IM:Stmt:=top 85
theorem Px:aU ["width"] ["width"] (aI IM):=⟨rfl,rfl,rfl,VY,rfl,VY,VY⟩
abbrev j8:Stmt:=top 86
theorem eJ:aU ["count","variable","block","table","width"] ["count","variable"] (aI j8):=⟨rfl,rfl,rfl,VY,rfl,VY,VY⟩
abbrev l9:Stmt:=inClass (top 87) 0
theorem oX:aU ["self","count","variable"] ["self","count"] (aI l9):=⟨rfl,rfl,rfl,VY,rfl,VY,VY⟩
abbrev oY:Stmt:=inClass (top 87) 1
theorem B3:aU ["self","table"] ["self","table"] (aI oY):=⟨rfl,rfl,rfl,VY,rfl,VY,VY⟩
abbrev rC:Stmt:=inClass (top 87) 2
theorem DC:aU ["self","first","second"] ["self","first","second"] (aI rC):=⟨rfl,rfl,rfl,VY,rfl,VY,VY⟩
abbrev mH:Stmt:=inClass (top 87) 3
theorem AY:aU ["self","asked","yes","no"] ["self","asked","yes","no"] (aI mH):=⟨rfl,rfl,rfl,VY,rfl,VY,VY⟩
abbrev oZ:Stmt:=inClass (top 87) 4
theorem jy:aU ["self","table","variable","truth","block","with_true","with_false"] ["self","table","variable","truth"] (aI oZ):=⟨rfl,rfl,rfl,VY,rfl,VY,VY⟩
abbrev lG:Stmt:=inClass (top 87) 5
theorem fQ:aU ["self","table","first","second","one","two","unlike","gap"] ["self","table","first","second"] (aI lG):=⟨rfl,rfl,rfl,VY,rfl,VY,VY⟩
abbrev jz:Stmt:=inClass (top 87) 6
theorem fi:aU ["self","table","order","standing","place","found"] ["self","table","order"] (aI jz):=⟨rfl,rfl,rfl,VY,rfl,VY,VY⟩
abbrev mI:Stmt:=inClass (top 87) 7
theorem iR:aU ["self","table","most","found","lowest_bit"] ["self","table","most"] (aI mI):=⟨rfl,rfl,rfl,VY,rfl,VY,VY⟩
abbrev gM:Stmt:=inClass (top 87) 8
theorem i3:aU ["self","place","variable"] ["self","place"] (aI gM):=⟨rfl,rfl,rfl,VY,rfl,VY,VY⟩
abbrev rD:Stmt:=inClass (top 89) 0
theorem DD:aU ["self","stored","count"] ["self","stored","count"] (aI rD):=⟨rfl,rfl,rfl,VY,rfl,VY,VY⟩
abbrev iS:Stmt:=inClass (top 89) 1
theorem eZ:aU ["self","asked","part","key","half","no","yes"] ["self","asked","part"] (aI iS):=⟨rfl,rfl,rfl,VY,rfl,VY,VY⟩
abbrev ip:Stmt:=inClass (top 89) 2
theorem yd:aU ["self","node"] ["self","node"] (aI ip):=⟨rfl,rfl,rfl,VY,rfl,VY,VY⟩
abbrev rE:Stmt:=inClass (top 92) 0
theorem v8:aU ["self","chances","chance"] ["self","chances"] (aI rE):=⟨rfl,rfl,rfl,VY,rfl,VY,VY⟩
abbrev gI:Stmt:=inClass (top 92) 1
theorem rF:aU ["self","diagram"] ["self","diagram"] (aI gI):=⟨rfl,rfl,rfl,VY,rfl,VY,VY⟩
abbrev gg:Stmt:=inClass (top 92) 2
theorem p7:aU ["self","variable"] ["self","variable"] (aI gg):=⟨rfl,rfl,rfl,VY,rfl,VY,VY⟩
abbrev rG:Stmt:=inClass (top 92) 3
theorem kG:aU ["self","table","draft","diagram","node"] ["self","table"] (aI rG):=⟨rfl,rfl,rfl,VY,rfl,VY,VY⟩
abbrev iq:Stmt:=inClass (top 92) 4
theorem oo:aU ["self","node","asked"] ["self","node"] (aI iq):=⟨rfl,rfl,rfl,VY,rfl,VY,VY⟩
abbrev gZ:Stmt:=inClass (top 92) 5
theorem gJ:aU ["self","node","weights","chance","mixed"] ["self","node","weights"] (aI gZ):=⟨rfl,rfl,rfl,VY,rfl,VY,VY⟩
abbrev g0:Stmt:=inClass (top 92) 6
theorem d7:aU ["self","table","draft","diagram","weights","node"] ["self","table"] (aI g0):=⟨rfl,rfl,rfl,VY,rfl,VY,VY⟩
abbrev g7:Stmt:=inClass (top 92) 7
theorem du:aU ["self","weights","chance","longer","weight"] ["self"] (aI g7):=⟨rfl,rfl,rfl,VY,rfl,VY,VY⟩
abbrev lH:Stmt:=inClass (top 92) 8
theorem zF:aU ["self","diagram"] ["self","diagram"] (aI lH):=⟨rfl,rfl,rfl,VY,rfl,VY,VY⟩
abbrev j9:Stmt:=inClass (top 92) 9
theorem oq:aU ["self","diagram","node"] ["self","diagram"] (aI j9):=⟨rfl,rfl,rfl,VY,rfl,VY,VY⟩
abbrev fT:Stmt:=inClass (top 92) 10
theorem dk:aU ["self","diagram","listed","met","place","part","number"] ["self","diagram"] (aI fT):=⟨rfl,rfl,rfl,VY,rfl,VY,VY⟩
abbrev lI:Stmt:=inClass (top 92) 11
theorem p8:aU ["self","diagram","order","draft"] ["self","diagram","order"] (aI lI):=⟨rfl,rfl,rfl,VY,rfl,VY,VY⟩
abbrev kc:Stmt:=inClass (top 95) 0
theorem ye:aU ["self","names","chances"] ["self","names","chances"] (aI kc):=⟨rfl,rfl,rfl,VY,rfl,VY,VY⟩
abbrev mJ:Stmt:=top 96
theorem iT:aU ["text","reader","names","chances"] ["text"] (aI mJ):=⟨rfl,rfl,rfl,VY,rfl,VY,VY⟩
abbrev lJ:Stmt:=top 97
theorem zG:aU ["reader","names","chances"] ["reader","names","chances"] (aI lJ):=⟨rfl,rfl,rfl,VY,rfl,VY,VY⟩
abbrev lK:Stmt:=top 98
theorem p9:aU ["reader","names","token"] ["reader","names"] (aI lK):=⟨rfl,rfl,rfl,VY,rfl,VY,VY⟩
abbrev o2:Stmt:=top 99
theorem mK:aU ["reader","first","below"] ["reader"] (aI o2):=⟨rfl,rfl,rfl,VY,rfl,VY,VY⟩
abbrev i4:Stmt:=top 100
theorem lY:aU ["reader","token"] ["reader"] (aI i4):=⟨rfl,rfl,rfl,VY,rfl,VY,VY⟩
abbrev uh:Stmt:=inClass (top 122) 0
theorem Fm:aU ["self","number","numbers","row","behind"] ["self","number","numbers","row","behind"] (aI uh):=⟨rfl,rfl,rfl,VY,rfl,VY,VY⟩
abbrev o4:Stmt:=inClass (top 123) 0
theorem B4:aU ["self"] ["self"] (aI o4):=⟨rfl,rfl,rfl,VY,rfl,VY,VY⟩
abbrev lL:Stmt:=inClass (top 123) 1
theorem qb:aU ["self","call","refusal"] ["self","call"] (aI lL):=⟨rfl,rfl,rfl,VY,rfl,VY,VY⟩
abbrev o9:Stmt:=inClass (top 123) 2
theorem mL:aU ["self","text","told","fault"] ["self","text"] (aI o9):=⟨rfl,rfl,rfl,VY,rfl,VY,VY⟩
abbrev g8:Stmt:=inClass (top 123) 3
theorem tJ:aU ["self","call"] ["self","call"] (aI g8):=⟨rfl,rfl,rfl,VY,rfl,VY,VY⟩
abbrev pd:Stmt:=top 124
theorem B5:aU ["store","number","told"] ["store","number","told"] (aI pd):=⟨rfl,rfl,rfl,VY,rfl,VY,VY⟩
abbrev mM:Stmt:=top 125
theorem AZ:aU ["store","number","told","row"] ["store","number","told","row"] (aI mM):=⟨rfl,rfl,rfl,VY,rfl,VY,VY⟩
abbrev zH:Stmt:=top 126
theorem gh:aU ["calls","place","number","form","behind","numbers","row","first"] ["calls","place"] (aI zH):=⟨rfl,rfl,rfl,VY,rfl,VY,VY⟩
abbrev qc:Stmt:=top 127
theorem i5:aU ["calls","keeper","found","place","call","told"] ["calls"] (aI qc):=⟨rfl,rfl,rfl,VY,rfl,VY,VY⟩
structure VN(K:PySem.W.Frag)(mg:Str->Option Value):Prop where
 gP:mg "len"=none
 R5:mg "ord"=none
 zI:mg "range"=none
 GQ:mg "list"=none
 Fo:mg "sorted"=none
 TK:mg "set"=none
 TN:mg "all"=none
 TQ:mg "max"=none
 Ej:GV mg "TOO_LONG" (.int 1)
 qd:GV mg "NO_TOKEN" (.int 2)
 rH:GV mg "NOT_ALLOWED" (.int 3)
 Ek:GV mg "TOO_MANY" (.int 4)
 El:GV mg "TOO_DEEP" (.int 4)
 Ax:GV mg "TAKEN_NAME" (.int 5)
 v9:GV mg "UNKNOWN_NAME" (.int 6)
 mN:GV mg "OUT_OF_BOUNDS" (.int 7)
 ui:GV mg "MOST_BYTES" (.int 4096)
 qf:GV mg "MOST_WORD_SIGNS" (.int 16)
 qg:GV mg "GREATEST_NUMBER" (.int 1000000000)
 qh:GV mg "GREATEST_DIGITS" (.int 10)
 Bq:∃a,GV mg "BLANKS" (.ref a)/\∀H,iK K H a [.int 32,.int 9,.int 10]
 Em:GV mg "LINE_END" (.int 10)
 Ke:GV mg "REMARK" (.int 35)
 IP:GV mg "MINUS" (.int 45)
 GR:GV mg "GREATER" (.int 62)
 GS:GV mg "ZERO" (.int 48)
 Fp:GV mg "DIGITS" (.str "0123456789")
 uj:GV mg "GREAT_LETTERS" (.str "ABCDEFGHIJKLMNOPQRSTUVWXYZ")
 uk:GV mg "SMALL_LETTERS" (.str "abcdefghijklmnopqrstuvwxyz")
 Nb:GV mg "SIGNS" (.str "={}()[],;:/|")
 Nc:GV mg "ARROW" (.str "->")
 Kf:GV mg "WORD" (.str "word")
 Fq:GV mg "NUMBER" (.str "number")
 Kg:GV mg "SIGN" (.str "sign")
 R6:GV mg "END" (.str "end")
 rJ:∃a,GV mg "NOT_NAMES" (.ref a)/\∀H,iK K H a [.str "chance",.str "budget",.str "def",.str "let",.str "observe",.str "tell",.str "table",.str "net",.str "flag",.str "num",.str "if",.str "flip",.str "pick",.str "uniform",.str "given",.str "weigh",.str "true",.str "false"]
 GU:GV mg "DEEPEST" (.int 24)
 Ay:GV mg "MOST_LISTS" (.int 200)
 Az:GV mg "MOST_NODES" (.int 3000)
 sC:GV mg "MOST_VARIABLES" (.int 12)
 QL:GV mg "VARS" (.int 0)
 TR:GV mg "ADD" (.int 1)
 QM:GV mg "BOTH" (.int 2)
 TU:GV mg "NOT" (.int 3)
 Kh:GV mg "CHOOSE" (.int 4)
 TV:GV mg "SET" (.int 5)
 QN:GV mg "SOME" (.int 6)
 Nd:GV mg "EVERY" (.int 7)
 TX:GV mg "PUT" (.int 8)
 Ki:GV mg "CHANCE" (.int 9)
 Nf:GV mg "GIVEN" (.int 10)
 QO:GV mg "WAYS" (.int 11)
 QP:GV mg "NODE" (.int 12)
 Ng:GV mg "NODES" (.int 13)
 Nh:GV mg "HANGS" (.int 14)
 QQ:GV mg "SAYS" (.int 15)
 QR:GV mg "LIST" (.int 16)
 QS:GV mg "BEST" (.int 17)
 GW:GV mg "SIZE_BY" (.int 18)
end TS
namespace L2
open PySem PySem.Spec PyProof.Rows
def Br(C:Addr)(n:Nat)(g:List V->List (Str×V)):Sp:=λvs H Q _=>∃(x dx:Addr)(us:List V),vs= .ref x::us/\us.length=n/\H x=some (.ins C dx [])/\∀H':Hp,H' x=some (.ins C dx (g us))->(∀b o,H b=some o->b≠x->H' b=some o)->Q .gb H'
theorem kL{C:Addr}{n:Nat}{g:List V->List (Str×V)}{E:XK}{us:List V}{H1:Hp}{R:Addr->Hp->Prop}(hl:us.length=n)(k:∀x H2,H1 x=none->(∃dx,H2 x=some (.ins C dx (g us)))->bq H1 H2->R x H2):
 ∀x dx,H1 x=none->H1 dx=none->dx≠x->Br C n g (.ref x::us) (upd (upd H1 dx (.own x)) x (.ins C dx [])) (λv H2=>v= .gb/\R x H2) E:=
 λx dx nx nd ne=>⟨x,dx,us,rfl,hl,aC,λH' e kp=>⟨rfl,k x H' nx ⟨dx,e⟩ (bq.made nx nd kp)⟩⟩
theorem ak{H:Hp}{x b:Addr}{o u:HO}(e:H b=some u)(n:b≠x):upd H x o b=some u:=by
 rw[bt n];exact e
structure GX(K:PySem.W.Frag)(mg:Str->Option Value)(x:Str)(C fI:Addr)(fs:List Str):Prop where
 ma:mg x=some (.ref C)
 cl:Dq K C
 lM:Mk K C fI
 no:∀f∈fs,df K C f
structure IQ(K:PySem.W.Frag)(mg:Str->Option Value)(x:Str)(C fI:Addr)(fs:List Str):Prop where
 ma:mg x=some (.ref C)
 cl:vM K C
 lM:Iz K C fI
 ov:j2 K C=true
 no:∀f∈fs,df K C f
def mO(C:Addr)(n:Nat)(g:List V->List (Str×V)):Sp:=λvs H Q _=>∃(a:Addr)(us:List V),vs= .ref a::us/\us.length=n/\H a=some (XO a C none)/\∀(d:Addr)(H':Hp),H d=none->d≠a->H' a=some (XO a C (some d))->H' d=some (XD d (g us))->(∀b o,H b=some o->b≠a->H' b=some o)->Q .gb H'
def ez(C:Addr)(H:Hp)(fs:List (Str×V))(E:XK):Prop:=∀(d:Addr)(H':Hp),H' d=some (XD d fs)->bq H H'->E (.ref C) (some d) H'
theorem ez.same{C:Addr}{H H1:Hp}{fs:List (Str×V)}{E:XK}(x:ez C H fs E)(s:bq H H1):ez C H1 fs E:=λd H' e s'=>x d H' e (s.trans s')
theorem cM{C:Addr}{n:Nat}{g:List V->List (Str×V)}{E:XK}{us:List V}{H1:Hp}(hl:us.length=n)(hz:n<=1000)(k:ez C H1 (g us) E):
 us.length<=sizeLine/\∀a,H1 a=none->mO C n g (.ref a::us) (upd H1 a (XO a C none)) (λv H2=>v= .gb/\∃od,H2 a=some (XO a C od)/\E (.ref C) od (del H2 a)) (λ_ _ _=>False):=by
 refine⟨by rw[hl,aM];lia,λa na=>⟨a,us,rfl,hl,aC,λd H' nd ne ea ed kp=>⟨rfl,some d,ea,k d _ ?_ λb o e=>?_⟩⟩⟩
 ·rw[q0 ne];exact ed
 ·have nb:b≠a:=aq e na;rw[q0 nb];exact kp b o (by rw[bt nb];exact e) nb
end L2
namespace TS
open PySem PySem.Spec PyProof.Rows L2
noncomputable def yf:List V->List (Str×V)
 |[c,p]=>[("code",c),("place",p)]
 |_=>[]
noncomputable def Ni:List V->List (Str×V)
 |[k,h,p,b]=>[("kind",k),("held",h),("place",p),("behind",b)]
 |_=>[]
noncomputable def TY:List V->List (Str×V)
 |[n,c]=>[("names",n),("chances",c)]
 |_=>[]
noncomputable def R7:List V->List (Str×V)
 |[n,m,r,b]=>[("number",n),("numbers",m),("row",r),("behind",b)]
 |_=>[]
set_option genInjectivity false in
structure Ad where
 cX:Addr
 xg:Addr
 bG:Addr
 xh:Addr
 pf:Addr
 zJ:Addr
 um:Addr
 B6:Addr
 Fs:Addr
 zK:Addr
 i6:Addr
 size_of:Addr
 B7:Addr
 zL:Addr
 cB:Addr
 uo:Addr
 mP:Addr
 uq:Addr
 ph:Addr
 mQ:Addr
 pj:Addr
 ke:Addr
 i7:Addr
 pk:Addr
 jA:Addr
 rK:Addr
 B8:Addr
 ur:Addr
 jB:Addr
 md:Addr
 me:Addr
 kg:Addr
 mR:Addr
 mS:Addr
 kh:Addr
 mT:Addr
 g9:Addr
 i8:Addr
 jC:Addr
 i9:Addr
 xi:Addr
 uu:Addr
 xj:Addr
 pq:Addr
 xk:Addr
 uv:Addr
 rL:Addr
 xl:Addr
 ki:Addr
 IS:Addr
 pw:Addr
 rM:Addr
 uw:Addr
 ux:Addr
 rO:Addr
 jD:Addr
 uz:Addr
 xm:Addr
 uA:Addr
 uB:Addr
 jE:Addr
 rP:Addr
 ones:Addr
 mU:Addr
 b8:Addr
 xn:Addr
 uC:Addr
 xo:Addr
 rQ:Addr
 uD:Addr
 px:Addr
 lN:Addr
 rR:Addr
 lO:Addr
 cT:Addr
 xp:Addr
 gD:Addr
 jF:Addr
 a6:Addr
 xq:Addr
 iE:Addr
 hJ:Addr
 xt:Addr
 jG:Addr
 ja:Addr
 jb:Addr
 jc:Addr
 pz:Addr
 mV:Addr
 jH:Addr
 pA:Addr
 jd:Addr
 mW:Addr
 rS:Addr
 pB:Addr
 pC:Addr
 uE:Addr
 kj:Addr
 jI:Addr
 zM:Addr
 dH:Addr
 uF:Addr
 kH:Addr
 uG:Addr
 gm:Addr
 uH:Addr
 rT:Addr
 Ft:Addr
 answers:Addr
structure Tx(K:PySem.W.Frag)(mg:Str->Option Value)(t:Ad):Prop extends VN K mg where
 cf:IQ K mg "Fault" t.cX t.xg ["code","place"]
 bb:GX K mg "Token" t.bG t.xh ["kind","held","place","behind"]
 bS:GX K mg "Reader" t.cB t.uo ["tokens","reached"]
 jl:IQ K mg "Refusal" t.jB t.md ["number"]
 eB:IQ K mg "NoVariables" t.me t.kg ["number"]
 fD:IQ K mg "NoDiagram" t.mR t.mS ["number"]
 fE:IQ K mg "StoreFull" t.kh t.mT ["number"]
 bV:IQ K mg "WrongArgument" t.g9 t.i8 ["number"]
 cF:IQ K mg "NothingToTell" t.jC t.i9 ["number"]
 bg:GX K mg "Space" t.b8 t.xn ["count","full","variable_tables"]
 bT:GX K mg "Draft" t.cT t.xp ["stored","count","fresh","known"]
 aw:GX K mg "Store" t.a6 t.xq ["chances","space","whole","nodes","numbers","tables","weights","ways"]
 eD:GX K mg "Variables" t.jd t.mW ["names","chances"]
 dh:GX K mg "Call" t.jI t.zM ["number","numbers","row","behind"]
 cU:GX K mg "Keeper" t.dH t.uF ["names","store"]
 lP:c5 K t.bG "is_name" t.pf
 AB:mg "tokens_of"=some (.ref t.zJ)
 pD:mg "skip_blanks"=some (.ref t.um)
 Ca:mg "token_at"=some (.ref t.B6)
 Eo:mg "word_at"=some (.ref t.Fs)
 uI:mg "number_at"=some (.ref t.zK)
 kN:mg "are_digits_allowed"=some (.ref t.i6)
 Er:mg "size_of"=some (.ref t.size_of)
 xu:mg "is_digit"=some (.ref t.B7)
 ot:mg "word_sign"=some (.ref t.zL)
 ee:c5 K t.cB "current" t.mP
 gE:c5 K t.cB "step" t.uq
 gz:c5 K t.cB "stands" t.ph
 kl:c5 K t.cB "is_done" t.mQ
 fz:c5 K t.cB "refuse" t.pj
 eh:c5 K t.cB "take_sign" t.ke
 hU:c5 K t.cB "take_number" t.i7
 sJ:mg "formula_table"=some (.ref t.pk)
 jJ:mg "read_formula"=some (.ref t.jA)
 yj:mg "read_parts"=some (.ref t.rK)
 Cd:mg "combined"=some (.ref t.B8)
 wj:mg "named_table"=some (.ref t.ur)
 ym:mg "answer_add"=some (.ref t.xi)
 wm:mg "answer_both"=some (.ref t.uu)
 yo:mg "answer_not"=some (.ref t.xj)
 sM:mg "answer_choose"=some (.ref t.pq)
 yq:mg "answer_set"=some (.ref t.xk)
 wt:mg "answer_some"=some (.ref t.uv)
 uM:mg "answer_every"=some (.ref t.rL)
 yt:mg "answer_put"=some (.ref t.xl)
 m4:mg "greatest_divisor"=some (.ref t.ki)
 uN:mg "lowest"=some (.ref t.IS)
 sO:mg "answer_chance"=some (.ref t.pw)
 uP:mg "answer_given"=some (.ref t.rM)
 wx:mg "answer_ways"=some (.ref t.uw)
 wz:mg "answer_node"=some (.ref t.ux)
 uR:mg "answer_nodes"=some (.ref t.rO)
 uT:mg "answer_hangs"=some (.ref t.jD)
 wC:mg "answer_says"=some (.ref t.uz)
 yw:mg "are_truths"=some (.ref t.xm)
 wF:mg "answer_list"=some (.ref t.uA)
 wH:mg "answer_best"=some (.ref t.uB)
 qo:mg "answer_size_by"=some (.ref t.jE)
 uV:mg "answer_sizes"=some (.ref t.rP)
 Fu:mg "ones"=some (.ref t.ones)
 qr:mg "variable_table"=some (.ref t.mU)
 gF:c5 K t.b8 "other" t.uC
 yz:c5 K t.b8 "same" t.xo
 hZ:c5 K t.b8 "chosen" t.rQ
 eV:c5 K t.b8 "fixed" t.uD
 sQ:c5 K t.b8 "swapped" t.px
 ow:c5 K t.b8 "reordered" t.lN
 m5:c5 K t.b8 "places" t.rR
 jK:c5 K t.b8 "truths_at" t.lO
 fA:c5 K t.cT "diagram" t.gD
 qu:c5 K t.cT "numbered" t.jF
 a7:c5 K t.a6 "check_diagram" t.iE
 dS:c5 K t.a6 "check_variable" t.hJ
 dC:c5 K t.a6 "make" t.xt
 qw:c5 K t.a6 "put_node" t.jG
 ia:c5 K t.a6 "mixed_weight" t.ja
 kT:c5 K t.a6 "table_weight" t.jb
 kW:c5 K t.a6 "list_weights" t.jc
 gA:c5 K t.a6 "node_of" t.pz
 qy:c5 K t.a6 "parts_of" t.mV
 km:c5 K t.a6 "nodes_of" t.jH
 sT:c5 K t.a6 "size_by" t.pA
 uZ:mg "variables_of"=some (.ref t.rS)
 lR:mg "read_variable"=some (.ref t.pB)
 sW:mg "read_new_name"=some (.ref t.pC)
 wL:mg "read_chance"=some (.ref t.uE)
 m8:mg "read_denominator"=some (.ref t.kj)
 sY:c5 K t.dH "answer" t.kH
 wO:c5 K t.dH "hold" t.uG
 kY:c5 K t.dH "answer_held" t.gm
 wR:mg "answer_made"=some (.ref t.uH)
 u5:mg "answer_asked"=some (.ref t.rT)
 Et:mg "call_at"=some (.ref t.Ft)
 Ew:mg "answers"=some (.ref t.answers)
 mj:Pj K t.jB "__init__" t.md
 wU:PySem.W.mroIn K t.me (.ref t.jB)=some true
 AG:PySem.W.mroIn K t.mR (.ref t.jB)=some true
 AH:PySem.W.mroIn K t.kh (.ref t.jB)=some true
 sZ:PySem.W.mroIn K t.g9 (.ref t.jB)=some true
 tf:PySem.W.mroIn K t.jC (.ref t.jB)=some true
 Fv:PySem.W.mroIn K t.cX (.ref t.cX)=some true
 yg:Dn K "__init__" "Fault.__init__" ra t.xg ["self","code","place"]
 yi:Dn K "__init__" "Token.__init__" rf t.xh ["self","kind","held","place","behind"]
 sD:Dn K "is_name" "Token.is_name" lz t.pf ["self"]
 AA:Dn K "tokens_of" "tokens_of" ud t.zJ ["text"]
 wb:Dn K "skip_blanks" "skip_blanks" oI t.um ["text","place"]
 B9:Dn K "token_at" "token_at" xb t.B6 ["text","place"]
 En:Dn K "word_at" "word_at" zB t.Fs ["text","place"]
 AD:Dn K "number_at" "number_at" ue t.zK ["text","place","below_zero"]
 kM:Dn K "are_digits_allowed" "are_digits_allowed" gU t.i6 ["digits","below_zero"]
 Ep:Dn K "size_of" "size_of" zC t.size_of ["digits"]
 Cb:Dn K "is_digit" "is_digit" xc t.B7 ["byte"]
 AE:Dn K "word_sign" "word_sign" uf t.zL ["byte"]
 wc:Dn K "__init__" "Reader.__init__" oJ t.uo ["self","text"]
 qi:Dn K "current" "Reader.current" j3 t.mP ["self"]
 we:Dn K "step" "Reader.step" oK t.uq ["self"]
 sF:Dn K "stands" "Reader.stands" lA t.ph ["self","sign"]
 qj:Dn K "is_done" "Reader.is_done" j4 t.mQ ["self"]
 sG:Dn K "refuse" "Reader.refuse" lB t.pj ["self"]
 mX:Dn K "take_sign" "Reader.take_sign" iX t.ke ["self","sign"]
 kO:Dn K "take_number" "Reader.take_number" gW t.i7 ["self"]
 sI:Dn K "formula_table" "formula_table" lC t.pk ["text","names","space"]
 uJ:Dn K "read_formula" "read_formula" my t.jA ["reader","names","space","depth"]
 rV:Dn K "read_parts" "read_parts" rn t.rK ["reader","names","space","depth","count"]
 Cc:Dn K "combined" "combined" xf t.B8 ["word","parts","space"]
 wg:Dn K "named_table" "named_table" oN t.ur ["reader","token","names","space"]
 uK:Dn K "__init__" "Refusal.__init__" mz t.md ["self","number"]
 mY:Dn K "__init__" "NoVariables.__init__" iY t.kg ["self"]
 qk:Dn K "__init__" "NoDiagram.__init__" j6 t.mS ["self"]
 ql:Dn K "__init__" "StoreFull.__init__" j7 t.mT ["self"]
 kP:Dn K "__init__" "WrongArgument.__init__" gX t.i8 ["self"]
 kQ:Dn K "__init__" "NothingToTell.__init__" gY t.i9 ["self"]
 yk:Dn K "answer_add" "answer_add" rp t.xi ["store","names","text"]
 wk:Dn K "answer_both" "answer_both" oP t.uu ["store","choice","first","second"]
 yn:Dn K "answer_not" "answer_not" rq t.xj ["store","diagram"]
 sL:Dn K "answer_choose" "answer_choose" lE t.pq ["store","asked","yes","no"]
 yp:Dn K "answer_set" "answer_set" rA t.xk ["store","diagram","variable","truth"]
 wo:Dn K "answer_some" "answer_some" oQ t.uv ["store","diagram","variable"]
 uL:Dn K "answer_every" "answer_every" mC t.rL ["store","diagram","variable"]
 yr:Dn K "answer_put" "answer_put" rB t.xl ["store","diagram","variable","inner"]
 mZ:Dn K "greatest_divisor" "greatest_divisor" iZ t.ki ["first","second"]
 GY:Dn K "lowest" "lowest" B0 t.IS ["above","below"]
 sN:Dn K "answer_chance" "answer_chance" lF t.pw ["store","diagram"]
 uO:Dn K "answer_given" "answer_given" mD t.rM ["store","diagram","known"]
 wu:Dn K "answer_ways" "answer_ways" oR t.uw ["store","diagram"]
 wy:Dn K "answer_node" "answer_node" oS t.ux ["store","diagram"]
 uQ:Dn K "answer_nodes" "answer_nodes" mE t.rO ["store","diagram"]
 uS:Dn K "answer_hangs" "answer_hangs" jw t.jD ["store","diagram"]
 wA:Dn K "answer_says" "answer_says" oU t.uz ["store","diagram","truths"]
 yu:Dn K "are_truths" "are_truths" l8 t.xm ["row"]
 wD:Dn K "answer_list" "answer_list" oW t.uA ["store","diagram","most"]
 wG:Dn K "answer_best" "answer_best" iL t.uB ["store","diagram"]
 qm:Dn K "answer_size_by" "answer_size_by" il t.jE ["store","diagram","order"]
 uU:Dn K "answer_sizes" "answer_sizes" mG t.rP ["store"]
 Nj:Dn K "ones" "ones" IM t.ones ["width"]
 qp:Dn K "variable_table" "variable_table" j8 t.mU ["count","variable"]
 yx:Dn K "__init__" "Space.__init__" l9 t.xn ["self","count"]
 wI:Dn K "other" "Space.other" oY t.uC ["self","table"]
 yy:Dn K "same" "Space.same" rC t.xo ["self","first","second"]
 uW:Dn K "chosen" "Space.chosen" mH t.rQ ["self","asked","yes","no"]
 wJ:Dn K "fixed" "Space.fixed" oZ t.uD ["self","table","variable","truth"]
 sP:Dn K "swapped" "Space.swapped" lG t.px ["self","table","first","second"]
 ou:Dn K "reordered" "Space.reordered" jz t.lN ["self","table","order"]
 uX:Dn K "places" "Space.places" mI t.rR ["self","table","most"]
 oy:Dn K "truths_at" "Space.truths_at" gM t.lO ["self","place"]
 yA:Dn K "__init__" "Draft.__init__" rD t.xp ["self","stored","count"]
 lQ:Dn K "diagram" "Draft.diagram" iS t.gD ["self","asked","part"]
 qt:Dn K "numbered" "Draft.numbered" ip t.jF ["self","node"]
 yB:Dn K "__init__" "Store.__init__" rE t.xq ["self","chances"]
 jV:Dn K "check_diagram" "Store.check_diagram" gI t.iE ["self","diagram"]
 jL:Dn K "check_variable" "Store.check_variable" gg t.hJ ["self","variable"]
 yC:Dn K "make" "Store.make" rG t.xt ["self","table"]
 qv:Dn K "put_node" "Store.put_node" iq t.jG ["self","node"]
 kR:Dn K "mixed_weight" "Store.mixed_weight" gZ t.ja ["self","node","weights"]
 kS:Dn K "table_weight" "Store.table_weight" g0 t.jb ["self","table"]
 kU:Dn K "list_weights" "Store.list_weights" g7 t.jc ["self"]
 sR:Dn K "node_of" "Store.node_of" lH t.pz ["self","diagram"]
 qx:Dn K "parts_of" "Store.parts_of" j9 t.mV ["self","diagram"]
 qz:Dn K "nodes_of" "Store.nodes_of" fT t.jH ["self","diagram"]
 sS:Dn K "size_by" "Store.size_by" lI t.pA ["self","diagram","order"]
 qA:Dn K "__init__" "Variables.__init__" kc t.mW ["self","names","chances"]
 uY:Dn K "variables_of" "variables_of" mJ t.rS ["text"]
 sU:Dn K "read_variable" "read_variable" lJ t.pB ["reader","names","chances"]
 sV:Dn K "read_new_name" "read_new_name" lK t.pC ["reader","names"]
 wK:Dn K "read_chance" "read_chance" o2 t.uE ["reader"]
 m7:Dn K "read_denominator" "read_denominator" i4 t.kj ["reader"]
 AF:Dn K "__init__" "Call.__init__" uh t.zM ["self","number","numbers","row","behind"]
 wM:Dn K "__init__" "Keeper.__init__" o4 t.uF ["self"]
 sX:Dn K "answer" "Keeper.answer" lL t.kH ["self","call"]
 wN:Dn K "hold" "Keeper.hold" o9 t.uG ["self","text"]
 kX:Dn K "answer_held" "Keeper.answer_held" g8 t.gm ["self","call"]
 wQ:Dn K "answer_made" "answer_made" pd t.uH ["store","number","told"]
 u4:Dn K "answer_asked" "answer_asked" mM t.rT ["store","number","told","row"]
 Es:Dn K "call_at" "call_at" zH t.Ft ["calls","place"]
 Eu:Dn K "answers" "answers" qc t.answers ["calls"]
end TS
section
variable{P:PySem.Program}{w:PySem.World}{K:PySem.W.Frag}{mg:PySem.Str->Option PySem.Value}{base:PySem.Heap}{t:TS.Ad}(T:TS.Tx K mg t)
namespace TS
open PySem PySem.Spec PyProof.Rows L2
section
include T
theorem cR:dQ P w K mg base 1 t.xg ["self","code","place"] (mO t.cX 2 yf):=by
 refine T.yg.ok Dy (λvs H Q E h=>?_) (λcdv A outer s H vs Q E hr h=>?_)
 ·obtain⟨a,us,rfl,hl,_⟩:=h;exact bJ Nat.succ hl
 ·obtain⟨a,us,rfl,hl,ha,q⟩:=h;obtain⟨c,p,rfl⟩:=WT hl;refine⟨_,(ag (Fg (Wo 0) (Wo 1) rfl) (az (Fg (Wo 0) (Wo 2) rfl))),?_⟩;refine⟨a,t.cX,rfl,T.cf.cl,T.cf.ov,T.cf.no _ VW,.inl ⟨ha,λd nd ne=>?_⟩⟩;refine⟨a,t.cX,rfl,T.cf.cl,T.cf.ov,T.cf.no _ VW,.inr ⟨d,_,aC,(by rw[bt ne,aC]),(by show 1<1000;decide),?_⟩⟩;exact q d _ nd ne (by rw[bt (bh ne),aC]) aC λb o e n=>by rw[bt (aq e nd),bt n,bt (aq e nd)];exact e
theorem iM:dQ P w K mg base 1 t.xh ["self","kind","held","place","behind"] (Br t.bG 4 Ni):=by
 refine T.yi.ok Dz (λvs H Q E h=>?_) (λcdv A outer s H vs Q E hr h=>?_)
 ·obtain⟨x,dx,us,rfl,hl,_⟩:=h;exact bJ Nat.succ hl
 ·obtain⟨x,dx,us,rfl,hl,hx,q⟩:=h;obtain⟨k,h,p,b,rfl⟩:=WX hl;refine⟨_,(ag (dz (Wo 0) (Wo 1) rfl) (ag (dz (Wo 0) (Wo 2) rfl) (ag (dz (Wo 0) (Wo 3) rfl) (az (dz (Wo 0) (Wo 4) rfl))))),?_⟩;refine WY x t.bG dx _ ⟨rfl,hx,T.bb.cl,T.bb.no _ VW,(by show 0<1000;decide),?_⟩;refine WY x t.bG dx _ ⟨rfl,aC,T.bb.cl,T.bb.no _ VW,(by show 1<1000;decide),?_⟩;refine WY x t.bG dx _ ⟨rfl,aC,T.bb.cl,T.bb.no _ VW,(by show 2<1000;decide),?_⟩;refine WY x t.bG dx _ ⟨rfl,aC,T.bb.cl,T.bb.no _ VW,(by show 3<1000;decide),?_⟩;exact q _ aC λb o e n=>by rw[bt n,bt n,bt n,bt n];exact e
end
end TS
namespace L2
theorem Ce{tb:TS}{D:Ends}{σ:St}{H1:Hp}{Pv:St->Hp->Prop}{μ:St->Hp->Nat}{m:Nat}(q:tb {D with nx:=λσ' H'=>Pv σ' H'/\μ σ' H'<m,ct:=λσ' H'=>Pv σ' H'/\μ σ' H'<m,bk:=D.nx} σ H1):
 ∃N:St->Hp->Prop,(∀σ' H',N σ' H'->∃m',m'<m/\(m'=μ σ' H'/\Pv σ' H'))/\tb {D with nx:=N,ct:=N,bk:=D.nx} σ H1:=⟨_,λσ' H' ⟨p,l⟩=>⟨_,l,rfl,p⟩,q⟩
theorem yD{c:TT}{tb:TS}{D:Ends}{σ:St}{H:Hp}(Pv:St->Hp->Prop)(μ:St->Hp->Nat)(h0:Pv σ H)
 (hs:∀σ H,Pv σ H->c σ H λb H1=>if b=true then∃N:St->Hp->Prop,(∀σ' H',N σ' H'->∃m',m'<μ σ H/\(m'=μ σ' H'/\Pv σ' H'))/\tb {D with nx:=N,ct:=N,bk:=D.nx} σ H1 else D.nx σ H1):Mj c tb D σ H:=
 ⟨λm σ H=>m=μ σ H/\Pv σ H,⟨_,rfl,h0⟩,λm σ H ⟨e,p⟩=>by subst e;exact hs σ H p⟩
end L2
namespace TS
open PySem PySem.Spec PyProof.Rows L2
noncomputable def tj:Bool->List Int->Nat
 |_,[]=>0
 |rem,b::r=>if b=10 then tj false r+1 else if b=35 then tj true r+1 else if rem=false/\¬(b=32\/b=9\/b=10)then 0 else tj rem r+1
theorem rW{α:Type}{l:List α}{j:Nat}{b:α}(h:l[j]?=some b):l.drop j=b::l.drop (j+1):=by
 obtain⟨h1,h2⟩:=List.getElem?_eq_some_iff.mp h;rw[eY h1,h2]
theorem int_at{ns:List Int}{j:Nat}{b:Int}(h:ns[j]?=some b):(ns.map V.int)[j]?=some (V.int b):=by
 rw[aR,h];rfl
theorem Nk(b:Int):(!JU (.int b) [.int 32,.int 9,.int 10])=true↔¬(b=32\/b=9\/b=10):=by
 have e:JU (.int b) [.int 32,.int 9,.int 10]=(decide (b=32)||(decide (b=9)||decide (b=10))):=by
  unfold JU;have h:∀k:Int,HN (.int k) (.int b)=decide (b=k):=λk=>by
   show decide (k=b)=_;by_cases z:k=b
   ·rw[au z,au z.symm]
   ·rw[aQ z,aQ (λq=>z q.symm)]
  simp[h]
 rw[e];simp
def Vv(a:Addr)(ns:List Int)(i:Nat)(H:Hp):L2.St->Hp->Prop:=λσ H'=>∃(j:Nat)(r:Bool)(v:Option V),σ=[some (.ref a),some (.int j),some (.bl r),v]/\H'=H/\j<=ns.length/\j+tj r (ns.drop j)=i+tj false (ns.drop i)
noncomputable def Vw(n:Nat):L2.St->Hp->Nat:=λσ _=>match σ with
 |[_,some (.int j),_,_]=>n-j.toNat
 |_=>0
theorem yE{a:Addr}{ns:List Int}{i j:Nat}{H:Hp}{r:Bool}{v:Option V}(hlt:j<ns.length)(e:j+(tj r (ns.drop (j+1))+1)=i+tj false (ns.drop i)):
 Vv a ns i H [some (.ref a),some (.int ((j:Int)+1)),some (.bl r),v] H/\Vw ns.length [some (.ref a),some (.int ((j:Int)+1)),some (.bl r),v] H<ns.length-(j:Int).toNat:=
 ⟨⟨j+1,r,v,rfl,rfl,hlt,VX⟩,by show ns.length-((j:Int)+1).toNat<_;lia⟩
section
include T
omit T in
def Le:Sp:=λvs H Q _=>∃b:Int,vs=[.int b]/\Q (.bl (decide (48<=b)&&decide (b<58))) H
theorem AI:dQ P w K mg base 1 t.B7 ["byte"] Le:=by
 refine T.Cb.ok GO (λvs H Q E h=>?_) (λcdv A outer s H vs Q E hr h=>?_)
 ·obtain⟨b,rfl,_⟩:=h;rfl
 ·obtain⟨b,rfl,q⟩:=h;refine⟨_,az (aX (Mt Mr.j kK.j (cv T.GS) (Wo 0) (bI fH.j (cv T.GS) (b6 cD rfl T.gP bf (aa (cv T.Fp) ai))))),?_⟩;refine⟨_,rfl,c6 (λh1=>?_) λh1=>?_⟩
  ·refine⟨_,10,rfl,⟨VW,rfl⟩,?_⟩;rw[h1]at q;exact q
  ·rw[Bf]at h1;rw[h1]at q;exact q
def R8(K:PySem.W.Frag):Sp:=λvs H Q _=>∃(a:Addr)(ns:List Int)(i:Nat),vs=[.ref a,.int i]/\cN K H a (ns.map V.int)/\i<=ns.length/\Q (.int (i+tj false (ns.drop i):Nat)) H
theorem u6:dQ P w K mg base 1 t.um ["text","place"] (R8 K):=by
 refine T.wb.ok fP (λvs H Q E h=>?_) (λcdv A outer s H vs Q E hr h=>?_)
 ·obtain⟨a,ns,i,rfl,_⟩:=h;rfl
 ·obtain⟨a,ns,i,rfl,hS,hi,q⟩:=h;obtain⟨aB,Bq,hB⟩:=T.Bq;refine⟨_,(ag (a9 (i:=2) fP.nd rfl (Or.inl rfl) xO) (ag (gy bN (a8 kK.j (pv 1) (b6 cD rfl T.gP bf (aa (pv 0) ai)) (bu _)) (ag (a9 (i:=3) fP.nd rfl (Or.inl rfl) (bp a0 (pv 0) (pv 1) (λ_ _=>rfl))) (ag (cj (a8 cQ (pv 3) (cv T.Em) (bu _)) (az (a9 (i:=2) fP.nd rfl (Or.inl rfl) xO)) (az (cj (a8 cQ (pv 3) (cv T.Ke) (bu _)) (az (a9 (i:=2) fP.nd rfl (Or.inl rfl) xO)) (az (cj (zm (qR (iW (pv 2))) (vp (a8 ju (pv 3) (cv Bq) (by with_unfolding_all rfl)))).pt (az (aX (pv 1))) bo))))) (az (EV (i:=1) fP.nd rfl (Or.inl rfl) aK EW))))) (az (aX (pv 1))))),?_⟩;refine yD (Vv a ns i H) (Vw ns.length) ⟨i,false,none,rfl,rfl,hi,rfl⟩ ?_;rintro σ H' ⟨j,r,v,rfl,rfl,hj,he⟩;refine⟨_,rfl,_,rfl,_,ns.length,rfl,.inl ⟨_,hS,(ay _).symm⟩,_,rfl,c6 (λh1=>Ce ?_) λh1=>?_⟩
  ·have hlt:j<ns.length:=by
    have z:=aD h1;lia
   obtain⟨b,hb⟩:∃b,ns[j]?=some b:=⟨_,af hlt⟩;rw[rW hb,tj]at he;refine⟨_,rfl,_,rfl,WY a _ _ _ ⟨rfl,rfl,hS,cx (int_at hb),_,rfl,rfl,_,rfl,c6 (λh2=>?_) λh2=>⟨_,rfl,rfl,_,rfl,c6 (λh3=>?_) λh3=>?_⟩⟩⟩
   ·rw[ao (by simpa using h2)]at he;exact⟨_,rfl,_,_,rfl,rfl,yE hlt he⟩
   ·rw[ah (by simpa using h2),ao (by simpa using h3)]at he;exact⟨_,rfl,_,_,rfl,rfl,yE hlt he⟩
   ·rw[ah (by simpa using h2),ah (by simpa using h3)]at he;refine⟨_,rfl,_,rfl,?_⟩;cases r with
    |true=>
     rw[ah (by rintro⟨z,_⟩;cases z)]at he;exact cq (cq ⟨_,rfl,_,_,rfl,rfl,yE hlt he⟩)
    |false=>
     refine d4 ⟨_,rfl,aB,_,rfl,.inr (hB _),rfl,rfl,_,rfl,c6 (λh4=>?_) λh4=>?_⟩
     ·have h5:=(Nk b).mp h4;rw[ao ⟨rfl,h5⟩]at he;refine⟨_,rfl,?_⟩;rw[<-he]at q;exact q
     ·have h5:¬¬(b=32\/b=9\/b=10):=λz=>h4 ((Nk b).mpr z);rw[ah (λz=>h5 z.2)]at he;exact⟨_,rfl,_,_,rfl,rfl,yE hlt he⟩
  ·have hge:j=ns.length:=by
    have z:=of_decide_eq_false (Bf _▸h1);lia
   subst hge;rw[List.drop_length]at he;refine⟨_,rfl,?_⟩;rw[<-he]at q;exact q
end
noncomputable def Fw(b:Int):Bool:=(decide (48<=b)&&decide (b<58))||((decide (65<=b)&&decide (b<91))||(decide (97<=b)&&decide (b<123)))
noncomputable def Cf(b:Int):Str:=if Fw b=true then⟨#[b.toNat]⟩else""
structure Py(z:Str)(c n:Nat):Prop where
 len:z.length=n
 at_:∀j,j<n->z.cps.toList[j]?=some (c+j)
 pos:0<n
theorem IT{z:Str}{c n:Nat}(h1:z.length=n)(h2:((List.range n).all λj=>decide (z.cps.toList[j]?=some (c+j)))=true)(h3:0<n):Py z c n:=
 ⟨h1,λj hj=>aD (List.all_eq_true.mp h2 j (List.mem_range.mpr hj)),h3⟩
theorem TZ:Py "0123456789" 48 10:=IT VY VY VW
theorem T1:Py "ABCDEFGHIJKLMNOPQRSTUVWXYZ" 65 26:=IT VY VY VW
theorem T2:Py "abcdefghijklmnopqrstuvwxyz" 97 26:=IT VY VY VW
theorem Nl{α:Type}{xs:List α}{z:Int}{j:Nat}{v:α}(e:z=(j:Int))(h:xs[j]?=some v):Dr xs z=some v:=by
 rw[e];exact cx h
theorem Py.first{z:Str}{c n:Nat}(g:Py z c n):Dr z.cps.toList 0=some c:=Nl (j:=0) rfl (g.at_ 0 g.pos)
theorem Py.here{z:Str}{c n:Nat}(g:Py z c n){b:Int}(h0:(0:Int)<=b-c)(h1:b-c<n):Dr z.cps.toList (b-c)=some b.toNat:=by
 have e:b-c=((b.toNat-c:Nat):Int):=VX;refine Nl (j:=b.toNat-c) e ?_;rw[g.at_ _ VX]
 congr 1
 lia
def IU:Sp:=λvs H Q _=>∃b:Int,vs=[.int b]/\∀H',bq H H'->Q (.str (Cf b)) H'
noncomputable def UA:Nat->Int->Bool
 |0,b=>decide (48<=b)&&decide (b<58)
 |1,b=>decide (65<=b)&&decide (b<91)
 |_,b=>decide (97<=b)&&decide (b<123)
def VO(b:Int)(H1:Hp):Nat->L2.St->Hp->Prop:=λi σ H'=>H'=H1/\(∃v1 v2,σ=[some (.int b),v1,v2])/\∀j,j<i->UA j b=false
def Nm(K:PySem.W.Frag):Sp:=λvs H Q _=>∃(a:Addr)(ns:List Int),vs=[.ref a]/\cN K H a (ns.map V.int)/\ns.length<=10/\(∀d∈ns,48<=d/\d<58)/\Q (.int (ns.foldl (λn d=>n*10+d-48) 0)) H
def Lf(K:PySem.W.Frag):Sp:=λvs H Q _=>∃(a:Addr)(ns:List Int)(m:Bool),vs=[.ref a,.bl m]/\cN K H a (ns.map V.int)/\Q (.bl (if ns.length=0\/10<ns.length then false else if ns[0]?=some 48 then decide (ns.length=1)&&!m else true)) H
section
include T
theorem rX:dQ P w K mg base 1 t.zL ["byte"] IU:=by
 refine T.AE.ok rm (λvs H Q E h=>?_) (λcdv A outer s H vs Q E hr h=>?_)
 ·obtain⟨b,rfl,_⟩:=h;rfl
 ·obtain⟨b,rfl,q⟩:=h;refine⟨_,(ag (mr bN rfl (Rn (qV (aa (cv T.Fp) (aa (cv T.uj) (aa (cv T.uk) ai))))) (fu (i:=1) rm.nd rfl (Or.inl rfl)) (ag (a9 (i:=2) rm.nd rfl (Or.inl rfl) (bI fO.j (Wo 0) (b6 Gf rfl T.R5 PyProof.Rows.boot_ord (aa (bp MA (Wo 1) aK (λ_ _=>rfl)) ai)))) (az (cj (Mu Mr.j kK.j aK (Wo 2) (b6 cD rfl T.gP bf (aa (Wo 1) ai))) (az (aX (bp MA (Wo 1) (Wo 2) (λ_ _=>rfl)))) bo)))) (az (aX fN))),?_⟩;refine⟨(by show 3<=sizeLine;decide),λp hp=>?_⟩;have s1:bq H (upd H p (.tup [.str "0123456789",.str "ABCDEFGHIJKLMNOPQRSTUVWXYZ",.str "abcdefghijklmnopqrstuvwxyz"])):=λc o e=>ak e (aq e hp);have q1:=q _ s1;refine⟨p,rfl,⟨_,iK.of aC⟩,OT (K:=K) (a:=p) (xs:=[.str "0123456789",.str "ABCDEFGHIJKLMNOPQRSTUVWXYZ",.str "abcdefghijklmnopqrstuvwxyz"]) (VO b _) ⟨rfl,⟨none,none,rfl⟩,λj hj=>absurd hj (Nat.not_lt_zero _)⟩ (λi σ H' _ ⟨e,_⟩=>by rw[e];exact iK.of aC) ?_ ?_⟩
  ·rintro i y σ H' hi ⟨rfl,⟨v1,v2,rfl⟩,hn⟩;have cs:∃(z:Str)(c n:Nat),Py z c n/\y= .str z/\n<=1000/\UA i b=(decide ((c:Int)<=b)&&decide (b<(c+n:Nat)))/\(UA i b=true->Fw b=true):=by
    match i,hi with
    |0,hi=>exact⟨_,48,10,TZ,(bX hi).symm,VW,rfl,λh=>by unfold Fw;rw[show(decide (48<=b)&&decide (b<58))=true from h];rfl⟩
    |1,hi=>exact⟨_,65,26,T1,(bX hi).symm,VW,rfl,λh=>by unfold Fw;rw[show(decide (65<=b)&&decide (b<91))=true from h,Bool.true_or,jh]⟩
    |2,hi=>exact⟨_,97,26,T2,(bX hi).symm,VW,rfl,λh=>by unfold Fw;rw[show(decide (97<=b)&&decide (b<123))=true from h,jh,jh]⟩
    |i+3,hi=>simp at hi
   obtain⟨z,c,n,g,rfl,hn',eg,hw⟩:=cs;have hlen:z.length<=sizeLine:=by rw[g.len,aM];lia
   refine⟨z,0,c,rfl,rfl,hlen,g.first,_,rfl,rfl,?_⟩;refine⟨_,rfl,c6 (λh1=>?_) λh1=>?_⟩
   ·refine⟨_,n,rfl,⟨hlen,g.len.symm⟩,_,rfl,c6 (λh2=>?_) λh2=>?_⟩
    ·have h1':(0:Int)<=b-c:=aD h1;have h2':b-c<n:=aD h2;have hg:UA i b=true:=by
      rw[eg];simp only[bP,gT];lia
     refine WZ z _ b.toNat ⟨rfl,rfl,hlen,g.here h1' h2',?_⟩;unfold Cf at q1;rw[ao (hw hg)]at q1;exact q1
    ·refine⟨rfl,⟨_,_,rfl⟩,λj hj=>?_⟩;by_cases z2:j=i
     ·subst z2;rw[eg];have h2':¬(b-c<n):=λz=>h2 (au z);simp only[Bool.and_eq_false_iff,decide_eq_false_iff_not];lia
     ·exact hn j VX
   ·refine⟨_,rfl,cq ⟨rfl,⟨_,_,rfl⟩,λj hj=>?_⟩⟩;by_cases z2:j=i
    ·subst z2;rw[eg];have h1':¬((0:Int)<=b-c):=λz=>h1 (au z);simp only[Bool.and_eq_false_iff,decide_eq_false_iff_not];lia
    ·exact hn j VX
  ·rintro σ H' ⟨rfl,⟨v1,v2,rfl⟩,hn⟩;have e:Fw b=false:=by
    have h0:=hn 0 VW;have h1:=hn 1 VW;have h2:=hn 2 VW;unfold Fw;rw[show(decide (48<=b)&&decide (b<58))=false from h0,show(decide (65<=b)&&decide (b<91))=false from h1,show(decide (97<=b)&&decide (b<123))=false from h2];rfl
   unfold Cf at q1;rw[e]at q1;exact q1
theorem IV:dQ P w K mg base 1 t.size_of ["digits"] (Nm K):=by
 refine T.Ep.ok rj (λvs H Q E h=>?_) (λcdv A outer s H vs Q E hr h=>?_)
 ·obtain⟨a,ns,rfl,_⟩:=h;rfl
 ·obtain⟨a,ns,rfl,hS,hl,hd,q⟩:=h;refine⟨_,(ag (a9 (i:=1) rj.nd rfl (Or.inl rfl) aK) (ag (mr bN rfl (jt (Wo 0)) (fu (i:=2) rj.nd rfl (Or.inl rfl)) (az (a9 (i:=1) rj.nd rfl (Or.inl rfl) (bI fO.j (bI fH.j (bI tU (Wo 1) aK) (Wo 2)) (cv T.GS))))) (az (aX (Wo 1))))),?_⟩;refine⟨a,rfl,⟨_,hS⟩,tT (K:=K) (a:=a) (xs:=ns.map V.int) (λi σ H'=>H'=H/\∃v,σ=[some (.ref a),some (.int ((ns.take i).foldl (λn d=>n*10+d-48) 0)),v]) ⟨rfl,none,rfl⟩ (λi σ H' _ ⟨e,_⟩=>by rw[e];exact hS) ?_ ?_⟩
  ·rintro i y σ H' hi ⟨rfl,v,rfl⟩;rw[aR]at hi;cases e:ns[i]? with
   |none=>
    rw[e]at hi;cases hi
   |some d=>
    rw[e]at hi;cases hi;refine⟨_,_,rfl,rfl,.inr ⟨VW,VW⟩,rfl,some (.int d),?_⟩;have h1:ns.take (i+1)=ns.take i++[d]:=by
     obtain⟨hlt,hd'⟩:=List.getElem?_eq_some_iff.mp e;rw[bB hlt,hd']
    rw[h1,L5];rfl
  ·rintro σ H' ⟨rfl,v,rfl⟩;refine ?_;rw[ay,cO];exact q
end
end TS
namespace TM
open VaprbBase
noncomputable def tx(l:Bytes):List Int:=l.map λb=>(b.toNat:Int)
theorem Fx(l:Bytes):(tx l).length=l.length:=ay _
theorem T3{l:Bytes}{i:Nat}{b:UInt8}(h:l[i]?=some b):(tx l)[i]?=some (b.toNat:Int):=by
 unfold tx;rw[aR,h];rfl
theorem Pz(l:Bytes)(i:Nat):(tx l).drop i=tx (l.drop i):=by
 unfold tx;rw[HU]
theorem rW{α:Type}{l:List α}{j:Nat}{b:α}(h:l[j]?=some b):l.drop j=b::l.drop (j+1):=by
 obtain⟨h1,h2⟩:=List.getElem?_eq_some_iff.mp h;rw[eY h1,h2]
section
variable{α:Type}{p:α->Bool}
theorem AJ:∀(l:List α),(l.takeWhile p).length<=l.length
 |[]=>aH _
 |a::l=>by
  rw[de];have:=AJ l;split
  ·simp only[aT];lia
  ·exact br _
theorem Fy:∀{l:List α}{m:Nat}{b:α},m<=(l.takeWhile p).length->l[m]?=some b->p b=true->m+1<=(l.takeWhile p).length
 |[],m,b,_,h,_=>by simp at h
 |a::l,0,b,_,h,hp=>by
  have e:a=b:=by simpa using h
  rw[de,e,ao hp];simp
 |a::l,m+1,b,hm,h,hp=>by
  rw[de]at hm⊢;split at hm
  ·rename_i ha;rw[ao ha];simp only[aT]at hm⊢;have:=Fy (l:=l) (m:=m) VX (by simpa using h) hp;lia
  ·simp at hm
theorem Fz:∀{l:List α}{m:Nat}{b:α},m<=(l.takeWhile p).length->l[m]?=some b->p b=false->m=(l.takeWhile p).length
 |[],m,b,_,h,_=>by simp at h
 |a::l,0,b,_,h,hp=>by
  have e:a=b:=by simpa using h
  rw[de,e,ah (by rw[hp];exact aj)];rfl
 |a::l,m+1,b,hm,h,hp=>by
  rw[de]at hm⊢;split at hm
  ·rename_i ha;rw[ao ha];simp only[aT]at hm⊢;have:=Fz (l:=l) (m:=m) VX (by simpa using h) hp;lia
  ·simp at hm
theorem IW{l:List α}{m:Nat}(hm:m<=(l.takeWhile p).length)(h:l.length<=m):m=(l.takeWhile p).length:=by
 have:=AJ (p:=p) l;lia
theorem Bs:∀(l:List α),l.take (l.takeWhile p).length=l.takeWhile p
 |[]=>by simp
 |a::l=>by
  rw[de];split
  ·rw[aT,List.take_succ_cons,Bs l]
  ·rfl
theorem Nn:∀(l:List α),∀x∈l.takeWhile p,p x=true
 |[],x,h=>by simp at h
 |a::l,x,h=>by
  rw[de]at h;split at h
  ·rename_i ha;rcases List.mem_cons.mp h with e|e
   ·rw[e];exact ha
   ·exact Nn l x e
  ·simp at h
end
theorem ml(b:UInt8):isDigit b=(decide (48<=(b.toNat:Int))&&decide ((b.toNat:Int)<58)):=by
 unfold isDigit;by_cases h:48<=b.toNat/\b.toNat<=57
 ·rw[au h,au VX,au VX];rfl
 ·rw[aQ h];by_cases h1:48<=b.toNat
  ·rw[au (show(48:Int)<=b.toNat by lia),aQ (show¬(b.toNat:Int)<58 by lia)];rfl
  ·rw[aQ (show¬(48:Int)<=b.toNat by lia)];rfl
theorem GZ:∀(l:Bytes)(n:Nat),(∀b∈l,isDigit b=true)->(tx l).foldl (λn d=>n*10+d-48) (n:Int)=((l.foldl (λn b=>10*n+(b.toNat-48)) n:Nat):Int)
 |[],n,_=>rfl
 |b::l,n,h=>by
  have hb:=h b aV;rw[ml]at hb;simp only[bP,gT]at hb;have e:(n:Int)*10+(b.toNat:Int)-48=((10*n+(b.toNat-48):Nat):Int):=VX;show(tx l).foldl (λn d=>n*10+d-48) ((n:Int)*10+(b.toNat:Int)-48)=_;rw[e,GZ l _ λx hx=>h x (aL _ hx)];rfl
theorem G0:∀(l:Bytes)(n:Nat),n<=l.foldl (λn b=>10*n+(b.toNat-48)) n
 |[],n=>aH _
 |b::l,n=>by
  have:=G0 l (10*n+(b.toNat-48));show n<=l.foldl (λn b=>10*n+(b.toNat-48)) (10*n+(b.toNat-48));lia
noncomputable def vB(l:Bytes)(m:Bool):Bool:=if l.length=0\/10<l.length then false else if l[0]?=some 48 then decide (l.length=1)&&!m else true
theorem R9{l:Bytes}{m:Bool}(h:∀b∈l,isDigit b=true):numberOf m l=if vB l m=false\/1000000000<decimal l then none else some (if m=true then-(decimal l:Int)else(decimal l:Int)):=by
 unfold numberOf vB;cases l with
 |nil=>simp
 |cons b r=>
  have hb:=h b aV;rw[ml]at hb;simp only[bP,gT]at hb;have hz:decimal (b::r)=r.foldl (λn b=>10*n+(b.toNat-48)) (b.toNat-48):=by
   unfold decimal;show r.foldl _ (10*0+(b.toNat-48))=_;rw[Nat.mul_zero,pN]
  by_cases h10:10<(b::r).length
  ·rw[ao (.inr (.inl h10)),ao (.inl (by rw[ao (.inr h10)]))]
  ·have hl0:¬((b::r).length=0\/10<(b::r).length):=by simp only[aT]at h10⊢;lia
   rw[ah hl0];by_cases h48:b=48
   ·subst h48;have e1:((48:UInt8)::r)[0]?=some 48:=rfl;have e2:((48:UInt8)::r).head?=some 48:=rfl;rw[ao e1,e2];by_cases h1:r=[]
    ·subst h1;rw[ah (by simp)];cases m<;>simp[decimal,NUMBER]
    ·have hr:1<((48:UInt8)::r).length:=by
      cases r with
      |nil=>exact absurd rfl h1
      |cons _ _=>simp
     rw[ao (.inr (.inr ⟨hr,rfl⟩)),ao (.inl (by rw[aQ VX];rfl))]
   ·have e1:¬((b::r)[0]?=some 48):=by simpa using h48
    have e2:¬((b::r).head?=some 48):=by simpa using h48
    rw[ah e1,ah (by rintro(z|z|z);exact List.cons_ne_nil _ _ z;exact h10 z;exact e2 z.2)];have hp:0<decimal (b::r):=by
     have hb48:b.toNat≠48:=λz=>h48 (UInt8.toNat_inj.mp z);rw[hz];exact aZ VX (G0 r _)
    have hc:(NUMBER<decimal (b::r)\/m=true/\decimal (b::r)=0)↔(true=false\/1000000000<decimal (b::r)):=by
     unfold NUMBER;constructor
     ·rintro(z|⟨_,z⟩)
      ·exact .inr z
      ·lia
     ·rintro(z|z)
      ·cases z
      ·exact .inl z
    by_cases hh:(true=false\/1000000000<decimal (b::r))
    ·rw[ao hh,ao (hc.mpr hh)]
    ·rw[ah hh,ah (λz=>hh (hc.mp z))]
end TM
namespace TS
open PySem PySem.Spec PyProof.Rows L2 TM
open VaprbBase (Bytes)
abbrev FA(K:PySem.W.Frag)(H:Hp)(a:Addr)(l:Bytes):Prop:=cN K H a ((tx l).map V.int)
noncomputable def strOf(b:Bytes):Str:=⟨(b.map UInt8.toNat).toArray⟩
noncomputable def G2:VaprbBase.Tok->V
 | .name _=>.str "word"
 | .num _=>.str "number"
 | .sign _=>.str "sign"
 | .halt_=>.str "end"
noncomputable def IX:VaprbBase.Tok->V
 | .name b=>.str (strOf b)
 | .num n=>.int n
 | .sign c=>.str (if c=1 then"->"else⟨#[c]⟩)
 | .halt_=>.str ""
def QT(C:Addr)(H:Hp)(x:Addr)(k:VaprbBase.Tok)(p b:Nat):Prop:=∃dx,H x=some (.ins C dx (Ni [G2 k,IX k,.int p,.int b]))
def u7(CT CF:Addr)(H:Hp)(i:Nat)(r:Option (VaprbBase.Tok×Nat))(Q:VK)(E:XK):Prop:=match r with
 |none=>ez CF H (yf [.int 2,.int i]) E
 |some (k,n)=>∀x H',H x=none->QT CT H' x k i (i+n)->bq H H'->Q (.ref x) H'
theorem u7.same{CT CF:Addr}{H H1:Hp}{i:Nat}{r:Option (VaprbBase.Tok×Nat)}{Q:VK}{E:XK}(d:u7 CT CF H i r Q E)(s:bq H H1):u7 CT CF H1 i r Q E:=by
 unfold u7 at d⊢;cases r with
 |none=>exact ez.same d s
 |some p=>exact λx H' n t s'=>d x H' (s.free n) t (s.trans s')
def IY(K:PySem.W.Frag)(CT CF:Addr):Sp:=λvs H Q E=>∃(a:Addr)(l:Bytes)(i:Nat)(m:Bool),vs=[.ref a,.int i,.bl m]/\FA K H a l/\(if m=true then i+1 else i)<=l.length/\
 u7 CT CF H i ((VaprbBase.numberOf m ((l.drop (if m=true then i+1 else i)).takeWhile VaprbBase.isDigit)).map λn=>(.num n,((l.drop (if m=true then i+1 else i)).takeWhile VaprbBase.isDigit).length+(if m=true then 1 else 0))) Q E
theorem rY(l:Bytes):((tx l).map V.int).length=l.length:=by rw[ay,Fx]
theorem Cg{l:Bytes}{j:Nat}{b:UInt8}(h:l[j]?=some b):((tx l).map V.int)[j]?=some (V.int (b.toNat:Int)):=int_at (T3 h)
theorem Sa(l:Bytes){i j:Nat}(hij:i<=j)(hj:j<=l.length):BJ ((tx l).map V.int) (some (i:Int)) (some (j:Int))=(tx ((l.drop i).take (j-i))).map V.int:=by
 unfold BJ;rw[rY,HT.Bj,HT.Bj,Dj hj,Dj (be hij hj)];unfold tx;rw[<-HU,<-HV,<-HU,<-HV]
theorem IZ(l:Bytes)(m:Bool):(if(tx l).length=0\/10<(tx l).length then false else if(tx l)[0]?=some 48 then decide ((tx l).length=1)&&!m else true)=vB l m:=by
 unfold vB;rw[Fx];have e:((tx l)[0]?=some 48)↔(l[0]?=some 48):=by
  cases l with
  |nil=>simp[tx]
  |cons b r=>
   simp only[tx,bW,nV,zg];constructor
   ·intro h;exact UInt8.toNat_inj.mp (by show b.toNat=48;lia)
   ·intro h;subst h;rfl
 by_cases h:l[0]?=some 48
 ·rw[ao h,ao (e.mpr h)]
 ·rw[ah h,ah (λz=>h (e.mp z))]
def VP(a:Addr)(l:Bytes)(i f0:Nat)(m:Bool)(H:Hp):L2.St->Hp->Prop:=λσ H'=>∃n:Nat,σ=[some (.ref a),some (.int i),some (.bl m),some (.int f0),some (.int (f0+n:Nat)),none,none]/\H'=H/\n<=((l.drop f0).takeWhile VaprbBase.isDigit).length
noncomputable def VQ(n:Nat):L2.St->Hp->Nat:=λσ _=>match σ with
 |[_,_,_,_,some (.int j),_,_]=>n-j.toNat
 |_=>0
section
include T
theorem tK:dQ P w K mg base 1 t.i6 ["digits","below_zero"] (Lf K):=by
 refine T.kM.ok tG (λvs H Q E h=>?_) (λcdv A outer s H vs Q E hr h=>?_)
 ·obtain⟨a,ns,m,rfl,_⟩:=h;rfl
 ·obtain⟨a,ns,m,rfl,hS,q⟩:=h;have hL:EX K (.ref a) H ns.length:= .inl ⟨_,hS,(ay _).symm⟩;refine⟨_,(ag (cj (PW.pt (Am (Wv cQ (b6 cD rfl T.gP bf (aa (Wo 0) ai)) aK (bu _)) (tR (Wv tW.j (b6 cD rfl T.gP bf (aa (Wo 0) ai)) (cv T.qh) (bu _))))) (az (aX xO)) bo) (ag (cj (Wv cQ (bp (Wr K) (Wo 0) aK (λ_ _=>rfl)) (cv T.GS) (bu _)) (az (aX (Ib (qU cQ (b6 cD rfl T.gP bf (aa (Wo 0) ai)) aK (bu _)) (Ia (Rk (Wo 1)))))) bo) (az (aX xO)))),?_⟩;refine⟨_,_,rfl,hL,rfl,c6 (λh1=>?_) λh1=>⟨_,_,rfl,hL,c6 (λh2=>?_) λh2=>?_⟩⟩
  ·have h1':ns.length=0:=by simpa using h1
   rw[ao (.inl h1')]at q;exact d4 q
  ·have h2':10<ns.length:=by
    have z:=aD h2;lia
   rw[ao (.inr h2')]at q;exact q
  ·have h1':¬ns.length=0:=by simpa using h1
   have h2':¬10<ns.length:=λz=>h2 (au VX);rw[ah (by rintro(z|z);exact h1' z;exact h2' z)]at q;obtain⟨b,hb⟩:∃b,ns[0]?=some b:=⟨_,af VX⟩;refine⟨_,Wt hS (at_of (j:=0) rfl (int_at hb)),rfl,c6 (λh3=>?_) λh3=>?_⟩
   ·have h3':b=48:=by simpa using h3
    rw[hb,h3',ao rfl]at q;refine⟨_,_,rfl,hL,rfl,_,rfl,c6 (λh4=>?_) λh4=>?_⟩
    ·have h4':ns.length=1:=by
      have z:=aD h4;injection z with z
      lia
     rw[au h4',js]at q;exact⟨_,rfl,q⟩
    ·have h4':¬ns.length=1:=λz=>h4 (by rw[z];exact au rfl);rw[aQ h4',gr]at q;exact q
   ·have h3':¬b=48:=by simpa using h3
    rw[hb,ah (λz=>h3' (bX z))]at q;exact q
end
end TS
namespace L2
theorem Np{m:Bool}{ta tb:TE}{σ:St}{H:Hp}{Q:VK}(v:V)(ha:m=true->∀R:VK,R v H->ta σ H R)(hb:m=false->∀R:VK,R v H->tb σ H R)(k:Q v H):if m=true then ta σ H Q else tb σ H Q:=by
 cases m with
 |true=>
  rw[ao rfl];exact ha rfl Q k
 |false=>
  rw[ah aj];exact hb rfl Q k
end L2
namespace TS
open PySem PySem.Spec PyProof.Rows L2 TM
open VaprbBase (Bytes)
section
include T
theorem yF:dQ P w K mg base 3 t.zK ["text","place","below_zero"] (IY K t.bG t.cX):=by
 refine T.AD.ok ik (λvs H Q E h=>?_) (λcdv A outer s H vs Q E hr h=>?_)
 ·obtain⟨a,l,i,m,rfl,_⟩:=h;rfl
 ·obtain⟨a,l,i,m,rfl,hS,hi,q⟩:=h;generalize hf0:(if m=true then i+1 else i)=f0 at hi q;generalize hm1:(if m=true then 1 else 0)=m1 at q;have hfm:f0=i+m1:=by
   rw[<-hf0,<-hm1];cases m<;>rfl
  refine⟨_,(ag (a9 (i:=3) ik.nd rfl (Or.inl rfl) (tS (iW (pv 2)) (bI fH.j (pv 1) aK) (pv 1))) (ag (a9 (i:=4) ik.nd rfl (Or.inl rfl) (pv 3)) (ag (d5 (gy bN (PW.pt (zm (a8 kK.j (pv 4) (b6 cD rfl T.gP bf (aa (pv 0) ai)) (bu _)) (vp (iW (cH (AI T) T.xu (hr.mono VW) bF (aa (bp a0 (pv 0) (pv 4) (λ_ _=>rfl)) ai)))))) (az (EV (i:=4) ik.nd rfl (Or.inl rfl) aK EW)))) (ag (a9 (i:=5) ik.nd rfl (Or.inl rfl) (BI E3 (pv 0) (vq (pv 3)) (vq (pv 4)))) (ag (cj (qR (iW (cH (tK T) T.kN (hr.mono VW) bF (aa (pv 5) (aa (pv 2) ai))))) (az (pZ (cR T) T.cf.lM T.cf.ma (hr.mono VW) aS (aa (cv T.qd) (aa (pv 1) ai)))) bo) (ag (a9 (i:=6) ik.nd rfl (Or.inl rfl) (cH (IV T) T.Er (hr.mono VW) bF (aa (pv 5) ai))) (ag (cj (a8 tW.j (pv 6) (cv T.qg) (bu _)) (az (pZ (cR T) T.cf.lM T.cf.ma (hr.mono VW) aS (aa (cv T.qd) (aa (pv 1) ai)))) bo) (az (aX (oj (iM T) T.bb.lM T.bb.ma (hr.mono VW) bF (aa (cv T.Fq) (aa (tS (iW (pv 2)) (An tV (pv 6)) (pv 6)) (aa (pv 1) (aa (pv 4) ai)))))))))))))),?_⟩;have hL:EX K (.ref a) H l.length:= .inl ⟨_,hS,(rY l).symm⟩;refine⟨_,rfl,m,rfl,Np (.int f0) (λe R r=>⟨_,rfl,?_⟩) (λe R r=>⟨_,rfl,?_⟩) ?_⟩
  ·rw[ao e]at hf0;subst hf0;exact r
  ·rw[ah (by rw[e];exact aj)]at hf0;subst hf0;exact r
  generalize hw:(l.drop f0).takeWhile VaprbBase.isDigit=dg at q;have hdl:f0+dg.length<=l.length:=by
   have z:=AJ (p:=VaprbBase.isDigit) (l.drop f0);rw[hw,bU]at z;lia
  have hdd:∀b∈dg,VaprbBase.isDigit b=true:=by
   rw[<-hw];exact Nn _
  refine⟨_,rfl,λσ H'=>σ=[some (.ref a),some (.int i),some (.bl m),some (.int f0),some (.int (f0+dg.length:Nat)),none,none]/\H'=H,yD (VP a l i f0 m H) (VQ l.length) ⟨0,rfl,rfl,br _⟩ ?_,?_⟩
  ·rintro σ H' ⟨n,rfl,rfl,hn⟩;refine⟨_,rfl,_,rfl,_,l.length,rfl,hL,_,rfl,c6 (λh1=>?_) λh1=>cq ⟨?_,rfl⟩⟩
   ·have hlt:f0+n<l.length:=by
     have z:=aD h1;lia
    obtain⟨b,hb⟩:∃b,l[f0+n]?=some b:=⟨_,af hlt⟩;have hb2:(l.drop f0)[n]?=some b:=by
     rw[List.getElem?_drop];exact hb
    refine⟨_,rfl,_,rfl,WY a _ _ _ ⟨rfl,rfl,hS,cx (Cg hb),_,rfl,_,rfl,?_⟩⟩;rw[<-ml];refine c6 (λh2=>Ce ?_) λh2=>?_
    ·have hn2:=Fy hn hb2 h2;refine⟨_,rfl,_,_,rfl,rfl,⟨n+1,?_,rfl,hn2⟩,?_⟩
     ·show([_,_,_,_,some (V.int ((f0+n:Nat)+1:Int)),_,_]:L2.St)=_;rw[show((f0+n:Nat)+1:Int)=((f0+(n+1):Nat):Int) by lia]
     ·show l.length-((f0+n:Nat)+1:Int).toNat<l.length-((f0+n:Nat):Int).toNat;lia
    ·have e:=Fz hn hb2 (by simpa using h2);rw[hw]at e;subst e;exact⟨rfl,rfl⟩
   ·have hge:l.length<=f0+n:=by
     have z:¬((f0+n:Nat):Int)<(l.length:Int):=λz=>h1 (au z);lia
    have e:=IW hn (by rw[bU];lia);rw[hw]at e;subst e;rfl
  ·rintro σ H' ⟨rfl,rfl⟩;have ecut:BJ ((tx l).map V.int) (some (f0:Int)) (some ((f0+dg.length:Nat):Int))=(tx dg).map V.int:=by
    rw[Sa l VX hdl,show f0+dg.length-f0=dg.length by lia,<-hw,Bs]
   refine⟨_,rfl,_,rfl,_,rfl,_,rfl,_,rfl,a,_,rfl,hS,λp hp=>?_⟩;rw[ecut];have s1:bq H' (upd H' p (.lst ((tx dg).map V.int))):=λc o e=>ak e (aq e hp);have hD:cN K (upd H' p (.lst ((tx dg).map V.int))) p ((tx dg).map V.int):=cN.of aC;have q1:=q.same s1;rw[R9 hdd]at q1;refine⟨_,rfl,_,rfl,p,tx dg,m,rfl,hD,_,rfl,?_⟩;rw[IZ];cases ha:vB dg m with
   |false=>
    rw[ao (.inl ha)]at q1;exact d4 ⟨_,rfl,cM rfl VW q1⟩
   |true=>
    have hlen:dg.length<=10:=by
     unfold vB at ha;by_cases z:dg.length=0\/10<dg.length
     ·rw[ao z]at ha;cases ha
     ·lia
    have hfold:(tx dg).foldl (λn d=>n*10+d-48) 0=(VaprbBase.decimal dg:Int):=GZ dg 0 hdd;refine cq ⟨_,rfl,p,tx dg,rfl,hD,by rw[Fx];exact hlen,λd hd=>?_,?_⟩
    ·obtain⟨b,hb,rfl⟩:=List.mem_map.mp hd;have z:=hdd b hb;rw[ml]at z;simpa using z
    rw[hfold];refine⟨_,rfl,_,rfl,c6 (λh1=>?_) λh1=>?_⟩
    ·have h1':1000000000<VaprbBase.decimal dg:=by
      have z:=aD h1;lia
     rw[ao (.inr h1')]at q1;exact⟨_,rfl,cM rfl VW q1⟩
    ·have h1':¬1000000000<VaprbBase.decimal dg:=λz=>h1 (au VX);rw[ah (λz=>z.elim (λz=>by rw[ha]at z;cases z) h1')]at q1;refine⟨_,rfl,m,rfl,Np (.int (if m=true then-(VaprbBase.decimal dg:Int)else(VaprbBase.decimal dg:Int))) (λe R r=>⟨_,rfl,_,rfl,?_⟩) (λe R r=>⟨_,rfl,?_⟩) ⟨_,rfl,_,rfl,kL rfl λx H2 nx hx sx=>?_⟩⟩
     ·rw[ao e]at r;exact r
     ·rw[ah (by rw[e];exact aj)]at r;exact r
     ·refine q1 x H2 nx ?_ sx;obtain⟨dx,hx⟩:=hx;refine⟨dx,?_⟩;rw[hx,hfm,show i+m1+dg.length=i+(dg.length+m1) by lia];rfl
end
noncomputable def A0(b:UInt8):Bool:=VaprbBase.isLetter b||VaprbBase.isDigit b
theorem Nq(b:UInt8):Fw (b.toNat:Int)=A0 b:=by
 unfold Fw A0 VaprbBase.isLetter;rw[<-ml];have h1:(decide (65<=(b.toNat:Int))&&decide ((b.toNat:Int)<91))=decide (65<=b.toNat/\b.toNat<=90):=by
  rw[d8];simp only[bP,gT];lia
 have h2:(decide (97<=(b.toNat:Int))&&decide ((b.toNat:Int)<123))=decide (97<=b.toNat/\b.toNat<=122):=by
  rw[d8];simp only[bP,gT];lia
 rw[h1,h2,Bool.or_comm]
noncomputable def one(b:UInt8):Str:=⟨#[b.toNat]⟩
theorem zN{b:UInt8}(h:A0 b=true):Cf (b.toNat:Int)=one b:=by
 unfold Cf one;rw[Nq,ao h,bc]
theorem G3{b:UInt8}(h:A0 b=false):Cf (b.toNat:Int)="":=by
 unfold Cf;rw[Nq,ah (by rw[h];exact aj)]
theorem Nr(b:UInt8):¬one b="":=by
 intro h;have e:=bJ (λz:Str=>z.cps.size) h;have e2:(1:Nat)=0:=e;cases e2
theorem G4:∀w:Bytes,(Str.join "" (w.map one)).cps.toList=w.map UInt8.toNat
 |[]=>rfl
 |[b]=>rfl
 |b::c::r=>by
  have ih:=G4 (c::r);have e:Str.join "" ((b::c::r).map one)=(one b++"")++Str.join "" ((c::r).map one):=rfl;rw[e];show((#[b.toNat]++ #[])++(Str.join "" ((c::r).map one)).cps).toList=_;rw[Array.toList_append,ih];rfl
theorem join_ones(w:Bytes):Txt.join "" (w.map one)=strOf w:=by
 rw[TL.join_eq];have h:=G4 w;unfold strOf;rw[<-h]
def Nt(K:PySem.W.Frag)(CT CF:Addr):Sp:=λvs H Q E=>∃(a:Addr)(l:Bytes)(i:Nat),vs=[.ref a,.int i]/\FA K H a l/\i<=l.length/\l.length<=4096/\
 u7 CT CF H i (if VaprbBase.NAME<((l.drop i).takeWhile A0).length then none else some (.name ((l.drop i).takeWhile A0),((l.drop i).takeWhile A0).length)) Q E
def VR(a ls:Addr)(l:Bytes)(i:Nat)(H:Hp):L2.St->Hp->Prop:=λσ H'=>∃n:Nat,σ=[some (.ref a),some (.int i),some (.ref ls),some (.int (i+n:Nat))]/\H' ls=some (.lst ((((l.drop i).take n).map one).map V.str))/\bq H H'/\n<=((l.drop i).takeWhile A0).length
noncomputable def VS(n:Nat):L2.St->Hp->Nat:=λσ _=>match σ with
 |[_,_,_,some (.int j)]=>n-j.toNat
 |_=>0
section
include T
theorem I0:dQ P w K mg base 3 t.Fs ["text","place"] (Nt K t.bG t.cX):=by
 refine T.En.ok rg (λvs H Q E h=>?_) (λcdv A outer s H vs Q E hr h=>?_)
 ·obtain⟨a,l,i,rfl,_⟩:=h;rfl
 ·obtain⟨a,l,i,rfl,hS,hi,hlz,q⟩:=h;refine⟨_,(ag (a9 (i:=2) rg.nd rfl (Or.inl rfl) (cI ai)) (ag (a9 (i:=3) rg.nd rfl (Or.inl rfl) (Wo 1)) (ag (d5 (gy bN (PW.pt (zm (Wv kK.j (Wo 3) (b6 cD rfl T.gP bf (aa (Wo 0) ai)) (bu _)) (vp (Wv Ge (cH (rX T) T.ot (hr.mono VW) bF (aa (bp (Wr K) (Wo 0) (Wo 3) (λ_ _=>rfl)) ai)) fN (bu _))))) (ag (bw (jj bj bL bM dY (Wo 2) (aa (cH (rX T) T.ot (hr.mono VW) bF (aa (bp (Wr K) (Wo 0) (Wo 3) (λ_ _=>rfl)) ai)) ai))) (az (EV (i:=3) rg.nd rfl (Or.inl rfl) aK EW))))) (ag (cj (Wv tW.j (b6 cD rfl T.gP bf (aa (Wo 2) ai)) (cv T.qf) (bu _)) (az (pZ (cR T) T.cf.lM T.cf.ma (hr.mono VW) aS (aa (cv T.qd) (aa (Wo 1) ai)))) bo) (az (aX (oj (iM T) T.bb.lM T.bb.ma (hr.mono VW) bF (aa (cv T.Kf) (aa (Pb fN (Wo 2)) (aa (Wo 1) (aa (Wo 3) ai))))))))))),?_⟩;generalize hw:(l.drop i).takeWhile A0=wd at q;have hdl:i+wd.length<=l.length:=by
   have z:=AJ (p:=A0) (l.drop i);rw[hw,bU]at z;lia
  refine⟨br _,λls hls=>⟨λσ H'=>σ=[some (.ref a),some (.int i),some (.ref ls),some (.int (i+wd.length:Nat))]/\H' ls=some (.lst ((wd.map one).map V.str))/\bq H H',yD (VR a ls l i H) (VS l.length) ⟨0,rfl,aC,λc o e=>ak e (aq e hls),br _⟩ ?_,?_⟩⟩
  ·rintro σ H' ⟨n,rfl,hl',s1,hn⟩;have hS':=s1.seq hS;have hL:EX K (.ref a) H' l.length:= .inl ⟨_,hS',(rY l).symm⟩;refine⟨_,l.length,rfl,hL,c6 (λh1=>?_) λh1=>cq ⟨?_,?_,s1⟩⟩
   ·have hlt:i+n<l.length:=by
     have z:=aD h1;lia
    obtain⟨b,hb⟩:∃b,l[i+n]?=some b:=⟨_,af hlt⟩;have hb2:(l.drop i)[n]?=some b:=by
     rw[List.getElem?_drop];exact hb
    refine⟨_,Wt hS' (cx (Cg hb)),_,rfl,λH2 s2=>?_⟩;cases hp:A0 b with
    |false=>
     have e:=Fz hn hb2 hp;rw[hw]at e;subst e;rw[G3 hp];refine⟨rfl,cq ⟨rfl,?_,s1.trans s2⟩⟩;have z:=s2 _ _ hl';rw[<-hw,Bs]at z;rw[<-hw];exact z
    |true=>
     rw[zN hp];have hn2:=Fy hn hb2 hp;refine⟨rfl,?_⟩;rw[aQ (λz=>Nr b (by injection z))];refine d4 (Ce ⟨.inl ⟨rfl,_,cN.of (s2 _ _ hl')⟩,_,Wt (s2.seq hS') (cx (Cg hb)),_,rfl,λH3 s3=>?_⟩);have h3:=s3 _ _ (s2 _ _ hl');refine WZ ls _ _ ⟨rfl,rfl,h3,?_,_,rfl,_,_,rfl,rfl,⟨n+1,?_,?_,?_,hn2⟩,?_⟩
     ·rw[ay,ay,cz,aM];lia
     ·show([_,_,_,some (V.int ((i+n:Nat)+1:Int))]:L2.St)=_;rw[show((i+n:Nat)+1:Int)=((i+(n+1):Nat):Int) by lia]
     ·rw[aC,zN hp];have e1:(l.drop i).take (n+1)=(l.drop i).take n++[b]:=by
       obtain⟨hlt',hd'⟩:=List.getElem?_eq_some_iff.mp hb2;rw[bB hlt',hd']
      rw[e1,cb,cb];rfl
     ·exact λc o e=>ak (s3 _ _ (s2 _ _ (s1 c o e))) (aq e hls)
     ·show l.length-((i+n:Nat)+1:Int).toNat<l.length-((i+n:Nat):Int).toNat;lia
   ·have hge:l.length<=i+n:=by
     have z:¬((i+n:Nat):Int)<(l.length:Int):=λz=>h1 (au z);lia
    have e:=IW hn (by rw[bU];lia);rw[hw]at e;subst e;rfl
   ·have hge:l.length<=i+n:=by
     have z:¬((i+n:Nat):Int)<(l.length:Int):=λz=>h1 (au z);lia
    have e:=IW hn (by rw[bU];lia);have z:=hl';rw[e,Bs]at z;rw[<-hw];exact z
  ·rintro σ H' ⟨rfl,hl',s1⟩;have q1:=q.same s1;have hL:EX K (.ref ls) H' wd.length:= .inl ⟨_,cN.of hl',by rw[ay,ay]⟩;refine⟨_,_,rfl,hL,c6 (λh1=>?_) λh1=>?_⟩
   ·have h1':VaprbBase.NAME<wd.length:=by
     have z:=aD h1;show 16<wd.length;lia
    rw[ao h1']at q1;exact cM rfl VW q1
   ·have h1':¬VaprbBase.NAME<wd.length:=λz=>h1 (au (by have z:16<wd.length:=z;lia));have h16:wd.length<=16:=Nat.not_lt.mp h1';rw[ah h1']at q1;refine⟨⟨_,rfl⟩,_,ls,wd.map one,rfl,rfl,.inl (cN.of hl'),?_,kL rfl λx H2 nx hx sx=>?_⟩
    ·have e1:((wd.map one).map (·.length)).sum=wd.length:=by
      rw[cS];clear hl' q1 hL h1 h1' h16 hdl hw q
      induction wd with
      |nil=>rfl
      |cons b r ih=>
       rw[bW,List.sum_cons,ih,aT];show 1+r.length=r.length+1;lia
     rw[e1,ay];show wd.length+wd.length*0<=16777216;lia
    ·refine q1 x H2 nx ?_ sx;obtain⟨dx,hx⟩:=hx;rw[join_ones]at hx;exact⟨dx,hx⟩
end
end TS
namespace L2
open PySem PySem.Spec PyProof.Rows
theorem PB{x:Str}{g:TG}{tb:TS}{D:Ends}{σ:L2.St}{H:Hp}(Pv:Nat->L2.St->Hp->Prop)(h0:Pv 0 σ H)
 (hs:∀i c σ H,x.cps[i]?=some c->Pv i σ H->g (.str ⟨#[c]⟩) σ H λσ2 H2=>tb {D with nx:=Pv (i+1),ct:=Pv (i+1),bk:=D.nx} σ2 H2) (hd:∀σ H,Pv x.cps.size σ H->D.nx σ H):
 ∃W:Nat->Nat->L2.St->Hp->Prop,(∃m,W 0 m σ H)/\∀i m σ H,W i m σ H->
  ((Tn x).stop i H/\D.nx σ H)\/((Tn x).go i H/\∃N:L2.St->Hp->Prop,(∀σ' H',N σ' H'->∃m',m'<m/\W (i+1) m' σ' H')/\∀y H',(Tn x).QA i H y H'->g y σ H' λσ2 H2=>tb {D with nx:=N,ct:=N,bk:=D.nx} σ2 H2):=by
 refine⟨λi m σ H=>m=x.cps.size-i/\i<=x.cps.size/\Pv i σ H,⟨x.cps.size,by simp,br _,h0⟩,?_⟩;rintro i m σ H ⟨rfl,hi,p⟩;by_cases hlt:i<x.cps.size
 ·refine .inr ⟨hlt,Pv (i+1),λσ' H' p'=>⟨x.cps.size-(i+1),VX,rfl,hlt,p'⟩,?_⟩;rintro y H' ⟨rfl,c,hc,rfl⟩;exact hs i c σ _ hc p
 ·have e:i=x.cps.size:=by lia
  subst e;exact .inl ⟨aH _,hd σ H p⟩
end L2
namespace TM
open VaprbBase
theorem Nu(b:UInt8)(r:Bytes):token (b::r)=if isDigit b=true then(numberOf false ((b::r).takeWhile isDigit)).map λn=>(.num n,((b::r).takeWhile isDigit).length)
 else if(isLetter b||isDigit b)=true then(if NAME<((b::r).takeWhile λc=>isLetter c||isDigit c).length then none else some (.name ((b::r).takeWhile λc=>isLetter c||isDigit c),((b::r).takeWhile λc=>isLetter c||isDigit c).length))
 else if b=45 then(if r.head?=some 62 then some (.sign 1,2)else(numberOf true (r.takeWhile isDigit)).map λn=>(.num n,(r.takeWhile isDigit).length+1))
 else if SIGNS.contains b=true then some (.sign b.toNat,1)else none:=by
 unfold token;dsimp only;by_cases hd:isDigit b=true
 ·have hl:¬isLetter b=true:=by
   unfold isDigit at hd;unfold isLetter;simp only[gT,Bool.or_eq_true]at hd⊢;lia
  rw[ah hl,ao hd,ao hd]
 ·rw[ah hd,ah hd];by_cases hl:isLetter b=true
  ·have e:(isLetter b||isDigit b)=true:=by
    rw[hl];rfl
   rw[ao hl,ao e]
  ·have e:(isLetter b||isDigit b)=false:=by
    rw[Bf]at hl hd;rw[hl,hd];rfl
   have e':¬(isLetter b||isDigit b)=true:=by
    rw[e];exact aj
   rw[ah hl,ah e'];by_cases h45:b=45
   ·subst h45;have e2:((45:UInt8)==45)=true:=rfl;rw[ao e2,ao rfl]
   ·have e2:¬(b==45)=true:=by simpa using h45
    rw[ah h45,ah e2]
end TM
namespace TS
open PySem PySem.Spec PyProof.Rows L2 TM
open VaprbBase (Bytes)
def Lg(K:PySem.W.Frag)(CT CF:Addr):Sp:=λvs H Q E=>∃(a:Addr)(l:Bytes)(i:Nat),vs=[.ref a,.int i]/\FA K H a l/\i<l.length/\l.length<=4096/\u7 CT CF H i (VaprbBase.token (l.drop i)) Q E
theorem zO:(("={}()[],;:/|":Str)).cps= #[61,123,125,40,41,91,93,44,59,58,47,124]:=VY
theorem Nv{b:UInt8}(hn:∀k,k<(#[61,123,125,40,41,91,93,44,59,58,47,124]:Array Nat).size->∀c,(#[61,123,125,40,41,91,93,44,59,58,47,124]:Array Nat)[k]?=some c->¬c=b.toNat):VaprbBase.SIGNS.contains b=false:=by
 cases h:VaprbBase.SIGNS.contains b with
 |false=>rfl
 |true=>
  have e1:VaprbBase.SIGNS=([61,123,125,40,41,91,93,44,59,58,47,124]:List Nat).map UInt8.ofNat:=rfl;rw[e1,DV]at h;obtain⟨n,hm,e⟩:=List.mem_map.mp h;have hlt:∀m∈([61,123,125,40,41,91,93,44,59,58,47,124]:List Nat),m<256:=VW;have hb:n=b.toNat:=by
   rw[<-e,nJ];exact(sq (hlt n hm)).symm
  obtain⟨k,hk⟩:=tQ hm;have hk2:k<12:=(List.getElem?_eq_some_iff.mp hk).1;exact absurd hb (hn k hk2 n (by simpa using hk))
section
include T
theorem G5:dQ P w K mg base 5 t.B6 ["text","place"] (Lg K t.bG t.cX):=by
 refine T.B9.ok om (λvs H Q E h=>?_) (λcdv A outer s H vs Q E hr h=>?_)
 ·obtain⟨a,l,i,rfl,_⟩:=h;rfl
 ·obtain⟨a,l,i,rfl,hS,hi,hlz,q⟩:=h;refine⟨_,(ag (a9 (i:=2) om.nd rfl (Or.inl rfl) (bp a0 (pv 0) (pv 1) (λ_ _=>rfl))) (ag (a9 (i:=3) om.nd rfl (Or.inl rfl) (tS (a8 kK.j (bI fH.j (pv 1) aK) (b6 cD rfl T.gP bf (aa (pv 0) ai)) (bu _)) (bp a0 (pv 0) (bI fH.j (pv 1) aK) (λ_ _=>rfl)) (An tV aK))) (ag (cj (iW (cH (AI T) T.xu (hr.mono VW) bF (aa (pv 2) ai))) (az (aX (cH (yF T) T.uI (hr.mono VW) aS.passes (aa (pv 0) (aa (pv 1) (aa xO ai)))))) bo) (ag (cj (a8 Ge (cH (rX T) T.ot (hr.mono VW) bF (aa (pv 2) ai)) fN (bu _)) (az (aX (cH (I0 T) T.Eo (hr.mono VW) aS.passes (aa (pv 0) (aa (pv 1) ai))))) bo) (ag (cj (PW.pt (zm (a8 cQ (pv 2) (cv T.IP) (bu _)) (vp (a8 cQ (pv 3) (cv T.GR) (bu _))))) (az (aX (oj (iM T) T.bb.lM T.bb.ma (hr.mono VW) bF (aa (cv T.Kg) (aa (cv T.Nc) (aa (pv 1) (aa (bI fH.j (pv 1) aK) ai))))))) bo) (ag (cj (a8 cQ (pv 2) (cv T.IP) (bu _)) (az (aX (cH (yF T) T.uI (hr.mono VW) aS.passes (aa (pv 0) (aa (pv 1) (aa xO ai)))))) bo) (ag (d5 (mr bN rfl (RM (cv T.Nb)) (fu (i:=4) om.nd rfl (Or.inl rfl)) (az (cj (a8 cQ (b6 Gf rfl T.R5 PyProof.Rows.boot_ord (aa (pv 4) ai)) (pv 2) (bu _)) (az (aX (oj (iM T) T.bb.lM T.bb.ma (hr.mono VW) bF (aa (cv T.Kg) (aa (pv 4) (aa (pv 1) (aa (bI fH.j (pv 1) aK) ai))))))) bo)))) (az (pZ (cR T) T.cf.lM T.cf.ma (hr.mono VW) aS (aa (cv T.qd) (aa (pv 1) ai))))))))))),?_⟩;obtain⟨b,hb⟩:∃b,l[i]?=some b:=⟨_,af hi⟩;rw[rW hb,Nu]at q;have hL:EX K (.ref a) H l.length:= .inl ⟨_,hS,(rY l).symm⟩;obtain⟨fo,hfo⟩:∃fo:Int,fo=(match l[i+1]? with|some c=>(c.toNat:Int)|none=> -1):=⟨_,rfl⟩;refine⟨_,rfl,_,rfl,WY a _ _ _ ⟨rfl,rfl,hS,cx (Cg hb),_,rfl,_,rfl,_,_,rfl,hL,_,rfl,Np (.int fo) (λe R r=>?_) (λe R r=>?_) ?_⟩⟩
  ·have hlt:i+1<l.length:=by
    have z:=aD e;lia
   obtain⟨c,hc⟩:∃c,l[i+1]?=some c:=⟨_,af hlt⟩;rw[hc]at hfo;dsimp only at hfo;subst hfo;exact⟨_,rfl,_,rfl,WY a _ _ _ ⟨rfl,rfl,hS,cx (j:=i+1) (Cg hc),r⟩⟩
  ·have hge:l[i+1]?=none:=by
    have z:¬((i:Int)+1<l.length):=of_decide_eq_false e;exact b7 VX
   rw[hge]at hfo;dsimp only at hfo;subst hfo;exact⟨_,rfl,r⟩
  refine⟨_,rfl,_,rfl,_,rfl,?_⟩;rw[<-ml];refine c6 (λh1=>?_) λh1=>?_
  ·rw[ao h1]at q;refine⟨_,rfl,_,rfl,WY a l i false ⟨rfl,hS,ll hi,?_⟩⟩;show u7 t.bG t.cX H i ((VaprbBase.numberOf false ((l.drop i).takeWhile VaprbBase.isDigit)).map λn=>(.num n,((l.drop i).takeWhile VaprbBase.isDigit).length+0)) Q E;rw[rW hb];exact q
  ·rw[ah h1]at q;refine⟨_,rfl,_,rfl,λH1 s1=>?_⟩;have q1:=q.same s1;have hS1:=s1.seq hS;cases hwd:A0 b with
   |true=>
    rw[zN hwd];have hwd':(VaprbBase.isLetter b||VaprbBase.isDigit b)=true:=hwd;rw[ao hwd']at q1;refine⟨rfl,_,rfl,?_⟩;rw[aQ (λz=>Nr b (by injection z))];refine d4 ⟨_,rfl,_,rfl,WZ a l i ⟨rfl,hS1,ll hi,hlz,?_⟩⟩;rw[rW hb];exact q1
   |false=>
    rw[G3 hwd];have hwd':¬(VaprbBase.isLetter b||VaprbBase.isDigit b)=true:=by
     have z:(VaprbBase.isLetter b||VaprbBase.isDigit b)=false:=hwd;rw[z];exact aj
    rw[ah hwd']at q1;have h45:∀c:UInt8,∀n:Nat,n<256->c=UInt8.ofNat n->(c.toNat:Int)=(n:Int):=λc n hn e=>by
     rw[e,nJ];have:n%2^8=n:=sq VX;lia
    refine⟨rfl,_,rfl,cq ?_⟩;refine⟨_,rfl,rfl,_,rfl,c6 (λh2=>?_) λh2=>cq ?_⟩
    ·have hb45:b=45:=by
      have z:=aD h2;injection z with z
      exact UInt8.toNat_inj.mp (by show b.toNat=45;lia)
     rw[ao hb45]at q1;have hfo2:(decide (V.int fo=V.int 62))=decide ((l.drop (i+1)).head?=some 62):=by
      have e0:(l.drop (i+1)).head?=l[i+1]?:=by rw[List.head?_drop]
      rw[e0,hfo];cases hc:l[i+1]? with
      |none=>simp
      |some c=>
       rw[d8];simp only[gT,V.int.injEq,zg];constructor
       ·intro z;exact UInt8.toNat_inj.mp (by show c.toNat=62;lia)
       ·intro z;rw[z];rfl
     refine⟨_,rfl,rfl,_,rfl,?_⟩;rw[hfo2];refine c6 (λh3=>?_) λh3=>?_
     ·rw[ao (aD h3)]at q1;refine⟨_,rfl,_,rfl,kL rfl λx H2 nx hx sx=>q1 x H2 nx ?_ sx⟩;obtain⟨dx,hx⟩:=hx;exact⟨dx,hx⟩
     ·rw[ah (λz=>h3 (au z))]at q1;refine⟨_,rfl,rfl,_,rfl,?_⟩;rw[h2];refine d4 ⟨_,rfl,_,rfl,WY a l i true ⟨rfl,hS1,hi,?_⟩⟩;exact q1
    ·have hb45:¬b=45:=λz=>h2 (by rw[z];rfl);rw[ah hb45]at q1;refine⟨_,rfl,rfl,_,rfl,?_⟩;rw[Bf]at h2;rw[h2];refine cq ⟨λσ H'=>(∃v,σ=[some (.ref a),some (.int i),some (.int b.toNat),some (.int fo),v])/\H'=H1/\VaprbBase.SIGNS.contains b=false,⟨_,rfl,PB (λj σ H'=>(∃v,σ=[some (.ref a),some (.int i),some (.int b.toNat),some (.int fo),v])/\H'=H1/\∀k,k<j->∀c,(("={}()[],;:/|":Str)).cps[k]?=some c->¬c=b.toNat) ⟨⟨none,rfl⟩,rfl,λk hk=>absurd hk (Nat.not_lt_zero _)⟩ ?_ ?_⟩,?_⟩
     ·rintro j c σ H' hc ⟨⟨v,rfl⟩,rfl,hn⟩;refine⟨_,rfl,_,rfl,rfl,_,rfl,rfl,_,rfl,c6 (λh3=>?_) λh3=>⟨⟨_,rfl⟩,rfl,λk hk c' hc'=>?_⟩⟩
      ·have hcb:c=b.toNat:=by
        have z:=aD h3;injection z with z
        have z2:((#[c]:Array Nat).getD 0 0:Nat)=c:=rfl;rw[z2]at z;lia
       have hs:VaprbBase.SIGNS.contains b=true:=by
        rw[zO]at hc;have hm:=Array.mem_of_getElem? hc;rw[hcb]at hm;have e1:VaprbBase.SIGNS=([61,123,125,40,41,91,93,44,59,58,47,124]:List Nat).map UInt8.ofNat:=rfl;rw[e1,DV];refine List.mem_map.mpr ⟨b.toNat,by simpa using hm,UInt8.ofNat_toNat⟩
       rw[ao hs]at q1;refine⟨_,rfl,_,rfl,_,rfl,kL rfl λx H2 nx hx sx=>q1 x H2 nx ?_ sx⟩;obtain⟨dx,hx⟩:=hx;refine⟨dx,?_⟩;rw[hx];have e2:IX (.sign b.toNat)= .str ⟨#[c]⟩:=by
        rw[hcb];show V.str (if b.toNat=1 then"->"else⟨#[b.toNat]⟩)=_;rw[ah (by
         intro z;rw[<-hcb]at z;subst z;rw[zO]at hc;have hm:=Array.mem_of_getElem? hc;simp at hm)]
       rw[e2];rfl
      ·by_cases z:k=j
       ·subst z;rw[hc]at hc';cases hc';intro z2;exact h3 (by rw[<-z2];exact au rfl)
       ·exact hn k VX c' hc'
     ·rintro σ H' ⟨⟨v,rfl⟩,rfl,hn⟩;refine⟨⟨v,rfl⟩,rfl,?_⟩;rw[zO]at hn;exact Nv hn
     ·rintro σ H' ⟨⟨v,rfl⟩,rfl,hs⟩;rw[ah (by rw[hs];exact aj)]at q1;exact⟨_,rfl,cM rfl VW q1⟩
end
end TS
namespace TM
open VaprbBase
theorem FC{m:Bool}{l:Bytes}{n:Int}(h:numberOf m l=some n):1<=l.length:=by
 unfold numberOf at h;cases l with
 |nil=>simp at h
 |cons _ _=>simp
theorem vC{l:Bytes}{t:Tok}{k:Nat}(h:token l=some (t,k)):1<=k/\k<=l.length:=by
 unfold token at h;cases l with
 |nil=>cases h
 |cons b r=>
  dsimp only at h;split at h
  ·rename_i hl;split at h
   ·cases h
   ·cases h;refine⟨?_,AJ _⟩;rw[de,ao (by rw[hl];rfl)];simp
  ·split at h
   ·rename_i hd;obtain⟨n,h1,h2⟩:=Option.map_eq_some_iff.mp h;cases h2;exact⟨FC h1,AJ _⟩
   ·split at h
    ·split at h
     ·rename_i h62;cases h;cases r with
      |nil=>cases h62
      |cons _ _=>simp
     ·obtain⟨n,h1,h2⟩:=Option.map_eq_some_iff.mp h;cases h2;have:=AJ (p:=isDigit) r;simp only[aT];lia
    ·split at h
     ·cases h;simp
     ·cases h
noncomputable def m9:Bool->Bytes->Nat
 |_,[]=>0
 |rem,b::r=>if b=10 then m9 false r+1 else if b=35 then m9 true r+1 else if rem=false/\¬(b=32\/b=9\/b=10)then 0 else m9 rem r+1
theorem Ci:∀(rem:Bool)(l:Bytes),m9 rem l<=l.length
 |_,[]=>aH _
 |rem,b::r=>by
  unfold m9;rw[aT];have h1:=Ci false r;have h2:=Ci true r;have h3:=Ci rem r;split
  ·lia
  ·split
   ·lia
   ·split
    ·lia
    ·lia
theorem qB:∀(n m i:Nat)(l:Bytes),l.length+1<=n->l.length+1<=m->lex n i l=lex m i l
 |0,_,_,_,h,_=>VX
 |_+1,0,_,_,_,h=>VX
 |n+1,m+1,i,[],_,_=>by rw[lex,lex]
 |n+1,m+1,i,b::r,hn,hm=>by
  rw[aT]at hn hm;rw[lex,lex];split
  ·exact qB n m _ r VX VX
  ·split
   ·have:=AJ (p:=λc:UInt8=>c !=10) r;have hdw:(r.dropWhile λc=>c !=10).length<=r.length:=by
     have e:=bJ List.length (qP (p:=λc:UInt8=>c !=10) (l:=r));rw[aE]at e;lia
    exact qB n m _ _ VX VX
   ·cases ht:token (b::r)with
    |none=>rfl
    |some p=>
     obtain⟨t,k⟩:=p;have hk:=vC ht;dsimp only;rw[qB n m _ _ (by rw[bU,aT];lia) (by rw[bU,aT];lia)]
theorem Cj(rem:Bool)(b:UInt8)(r:Bytes):m9 rem (b::r)=if b=10 then m9 false r+1 else if b=35 then m9 true r+1 else if rem=false/\¬(b=32\/b=9\/b=10)then 0 else m9 rem r+1:=rfl
theorem Kj:∀(r:Bytes),m9 true r=(r.takeWhile λc=>c !=10).length+m9 false (r.dropWhile λc=>c !=10)
 |[]=>rfl
 |b::r=>by
  rw[Cj true b r];by_cases h:b=10
  ·subst h;rw[ao rfl,de,ah VW,vI,ah VW,Cj false 10 r,ao rfl];simp
  ·have hb:(b !=10)=true:=by simpa using h
   rw[ah h,de,ao hb,vI,ao hb,aT,Kj r];split
   ·lia
   ·rw[ah (by rintro⟨z,_⟩;cases z)];lia
theorem PD{α:Type}{p:α->Bool}(r:List α):r.drop (r.takeWhile p).length=r.dropWhile p:=by
 have e:=qP (p:=p) (l:=r);have e2:(r.takeWhile p++r.dropWhile p).drop (r.takeWhile p).length=r.dropWhile p:=List.drop_left;rw[e]at e2;exact e2
theorem yG:∀(k:Nat)(l:Bytes)(n m i:Nat),l.length<=k->l.length+1<=n->(l.drop (m9 false l)).length+1<=m->lex n i l=lex m (i+m9 false l) (l.drop (m9 false l))
 |_,[],n,m,i,_,hn,hm=>qB n m i [] hn hm
 |0,b::r,_,_,_,hk,_,_=>by simp at hk
 |k+1,b::r,n,m,i,hk,hn,hm=>by
  rw[aT]at hk hn;obtain⟨n',rfl⟩:∃n',n=n'+1:=⟨n-1,VX⟩;by_cases h10:b=10
  ·subst h10;have e:m9 false ((10:UInt8)::r)=m9 false r+1:=by rw[m9,ao rfl]
   rw[e]at hm⊢;rw[lex,ao VW,dW];rw[dW]at hm;rw[yG k r n' m (i+1) VX VX hm,Nat.add_right_comm,Nat.add_assoc i (m9 false r) 1]<;>lia
  ·by_cases h35:b=35
   ·subst h35;have e:m9 false ((35:UInt8)::r)=m9 true r+1:=by rw[m9,ah VW,ao rfl]
    rw[e,Kj]at hm⊢;rw[lex,ah VW,ao VW,dW];rw[dW]at hm;have hd:r.drop ((r.takeWhile λc=>c !=10).length+m9 false (r.dropWhile λc=>c !=10))=(r.dropWhile λc=>c !=10).drop (m9 false (r.dropWhile λc=>c !=10)):=by
     rw[<-b9,PD]
    rw[hd]at hm⊢;have hdw:(r.dropWhile λc=>c !=10).length<=r.length:=by
     have e:=bJ List.length (qP (p:=λc:UInt8=>c !=10) (l:=r));rw[aE]at e;lia
    rw[yG k (r.dropWhile λc=>c !=10) n' m (i+1+(r.takeWhile λc=>c !=10).length) VX VX hm]
    congr 1
    lia
   ·by_cases hbl:b=32\/b=9\/b=10
    ·have e:m9 false (b::r)=m9 false r+1:=by rw[m9,ah h10,ah h35,ah (λz=>z.2 hbl)]
     have hb:isBlank b=true:=by
      rcases hbl with rfl|rfl|rfl<;>decide
     rw[e]at hm⊢;rw[lex,ao hb,dW];rw[dW]at hm;rw[yG k r n' m (i+1) VX VX hm]
     congr 1
     lia
    ·have e:m9 false (b::r)=0:=by rw[m9,ah h10,ah h35,ao ⟨rfl,hbl⟩]
     rw[e]at hm⊢;rw[pM,fw];rw[fw]at hm;exact qB _ _ _ _ (by rw[aT];lia) hm
theorem qC:∀(k:Nat)(rem:Bool)(l:Bytes),l.length<=k->m9 false (l.drop (m9 rem l))=0
 |_,rem,[],_=>by cases rem<;>rfl
 |0,_,b::r,h=>by simp at h
 |k+1,rem,b::r,h=>by
  rw[aT]at h;rw[m9];split
  ·rw[dW];exact qC k false r VX
  ·split
   ·rw[dW];exact qC k true r VX
   ·split
    ·rename_i h10 h35 hz;rw[fw,m9,ah h10,ah h35,ao ⟨rfl,hz.2⟩]
    ·rw[dW];exact qC k rem r VX
noncomputable def LX(l:Bytes)(i:Nat):Except Fault Toks:=lex ((l.drop i).length+1) i (l.drop i)
theorem FD(l:Bytes)(i:Nat):LX l i=LX l (i+m9 false (l.drop i)):=by
 unfold LX;rw[<-b9];exact yG _ _ _ _ _ (aH _) (aH _) (aH _)
theorem Nw{l:Bytes}{i:Nat}(h:l.length<=i):LX l i= .ok [⟨i,.halt_⟩]:=by
 unfold LX;rw[List.drop_of_length_le h];rfl
theorem Ny{l:Bytes}{i:Nat}(h:i<l.length)(hs:m9 false (l.drop i)=0):LX l i=match token (l.drop i)with
 |none=>.error ⟨2,i⟩
 |some (t,k)=>(LX l (i+k)).map λts=>⟨i,t⟩::ts:=by
 unfold LX;cases hd:l.drop i with
 |nil=>
  have:=bJ List.length hd;rw[bU,Qt]at this;lia
 |cons b r=>
  rw[hd]at hs;have hb:isBlank b=false/\(b==35)=false:=by
   rw[m9]at hs;split at hs
   ·lia
   ·rename_i h10;split at hs
    ·lia
    ·rename_i h35;split at hs
     ·rename_i hz;refine⟨?_,by simpa using h35⟩;unfold isBlank;simp only[Bool.or_eq_false_iff,HK];exact⟨⟨λz=>hz.2 (.inl z),λz=>hz.2 (.inr (.inl z))⟩,h10⟩
     ·lia
  rw[lex,ah (by rw[hb.1];exact aj),ah (by rw[hb.2];exact aj)];cases ht:token (b::r)with
  |none=>rfl
  |some p=>
   obtain⟨t,k⟩:=p;have hk:=vC ht;dsimp only;have e:(b::r).drop k=l.drop (i+k):=by rw[<-hd,b9]
   rw[e]
   congr 1
   have hl:(b::r).length=l.length-i:=by rw[<-hd,bU]
   refine qB _ _ _ _ ?_ (aH _);rw[bU,hl];rw[hl]at hk;lia
theorem Ex{l:Bytes}(h:¬TEXT<l.length):tokens l=LX l 0:=by
 unfold tokens LX;rw[ah h,fw]
end TM
namespace TS
open PySem PySem.Spec PyProof.Rows L2 TM
open VaprbBase (Bytes Toks PTok)
theorem yH:∀(rem:Bool)(l:Bytes),tj rem (tx l)=m9 rem l
 |_,[]=>rfl
 |rem,b::r=>by
  have e:∀n:Nat,n<256->(((b.toNat:Int)=(n:Int))↔b=UInt8.ofNat n):=λn hn=>by
   constructor
   ·intro h;apply UInt8.toNat_inj.mp;rw[nJ,sq VX];lia
   ·intro h;rw[h,nJ,sq VX]
  have e10:=e 10 VW;have e35:=e 35 VW;have e32:=e 32 VW;have e9:=e 9 VW;show tj rem ((b.toNat:Int)::tx r)=_;rw[tj,Cj,yH false r,yH true r,yH rem r];have c10:((b.toNat:Int)=10)↔b=10:=e10;have c35:((b.toNat:Int)=35)↔b=35:=e35;have c32:((b.toNat:Int)=32)↔b=32:=e32;have c9:((b.toNat:Int)=9)↔b=9:=e9;simp only[c10,c35,c32,c9]
def qD(C:Addr)(H:Hp)(x:Addr)(k:PTok):Prop:=∃b,QT C H x k.tok k.place b
def je(C:Addr)(H:Hp)(ls:Addr)(ts:Toks):Prop:=∃xs:List Addr,H ls=some (.lst (xs.map V.ref))/\xs.length=ts.length/\∀(i:Nat)(x:Addr)(k:PTok),xs[i]?=some x->ts[i]?=some k->qD C H x k
theorem qD.same{C:Addr}{H H':Hp}{x:Addr}{k:PTok}(h:qD C H x k)(s:bq H H'):qD C H' x k:=
 let⟨b,dx,e⟩:=h
 ⟨b,dx,s _ _ e⟩
theorem je.same{C:Addr}{H H':Hp}{ls:Addr}{ts:Toks}(h:je C H ls ts)(s:bq H H'):je C H' ls ts:=
 let⟨xs,e,hl,ha⟩:=h
 ⟨xs,s _ _ e,hl,λi x k h1 h2=>(ha i x k h1 h2).same s⟩
theorem je.snoc{C:Addr}{H H':Hp}{ls x:Addr}{ts:Toks}{k:PTok}{xs:List Addr}(h:H ls=some (.lst (xs.map V.ref)))(hl:xs.length=ts.length)(ha:∀(i:Nat)(x:Addr)(k:PTok),xs[i]?=some x->ts[i]?=some k->qD C H x k)(hx:qD C H x k)(hxl:x≠ls)(hxs:ls∉xs)
 (e:H' ls=some (.lst ((xs.map V.ref)++[V.ref x]))) (kp:∀b o,H b=some o->b≠ls->H' b=some o):je C H' ls (ts++[k]):=by
 refine⟨xs++[x],by rw[e,cb];rfl,by rw[aE,aE,hl];rfl,λi y k' h1 h2=>?_⟩;have tr:∀{y:Addr}{k':PTok},y≠ls->qD C H y k'->qD C H' y k':=λny ⟨b,dx,e⟩=>⟨b,dx,kp _ _ e ny⟩;by_cases hi:i<xs.length
 ·rw[bO hi]at h1;rw[bO VX]at h2;exact tr (λz=>hxs (by rw[<-z];exact bE h1)) (ha i y k' h1 h2)
 ·rw[bA VX]at h1;rw[bA VX]at h2;have hi0:i-xs.length=0:=by
   have:=(List.getElem?_eq_some_iff.mp h1).1;simp at this;lia
  rw[hi0]at h1;rw[show i-ts.length=0 by lia]at h2;cases h1;cases h2;exact tr hxl hx
def Ja(K:PySem.W.Frag)(CT CF:Addr):Sp:=λvs H Q E=>∃(a:Addr)(l:Bytes),vs=[.ref a]/\FA K H a l/\match VaprbBase.tokens l with
 | .error f=>ez CF H (yf [.int f.code,.int f.place]) E
 | .ok ts=>∀ls H',je CT H' ls ts->bq H H'->Q (.ref ls) H'
structure Vx(CT:Addr)(l:Bytes)(a ls:Addr)(H:Hp)(σ:L2.St)(H':Hp)(j:Nat)(ts:Toks)(xs:List Addr):Prop where
 sl:∃v,σ=[some (.ref a),some (.ref ls),some (.int j),v]
 sm:bq H H'
 lst:H' ls=some (.lst (xs.map V.ref))
 len:xs.length=ts.length
 all:∀(i:Nat)(x:Addr)(k:PTok),xs[i]?=some x->ts[i]?=some k->qD CT H' x k
 no:ls∉xs
 le:j<=l.length
 sk:m9 false (l.drop j)=0
 cnt:xs.length<=j
 lx:LX l 0=(LX l j).map (λr=>ts++r)
noncomputable def VT(n:Nat):L2.St->Hp->Nat:=λσ _=>match σ with
 |[_,_,some (.int j),_]=>n-j.toNat
 |_=>0
section
include T
theorem FE:dQ P w K mg base 7 t.zJ ["text"] (Ja K t.bG t.cX):=by
 refine T.AA.ok jv (λvs H Q E h=>?_) (λcdv A outer s H vs Q E hr h=>?_)
 ·obtain⟨a,l,rfl,_⟩:=h;rfl
 ·obtain⟨a,l,rfl,hS,q⟩:=h;refine⟨_,(ag (cj (Wv tW.j (b6 cD rfl T.gP bf (aa (Wo 0) ai)) (cv T.ui) (bu _)) (az (pZ (cR T) T.cf.lM T.cf.ma (hr.mono VW) aS (aa (cv T.Ej) (aa (cv T.ui) ai)))) bo) (ag (a9 (i:=1) jv.nd rfl (Or.inl rfl) (cI ai)) (ag (a9 (i:=2) jv.nd rfl (Or.inl rfl) (cH (u6 T) T.pD (hr.mono VW) bF (aa (Wo 0) (aa aK ai)))) (ag (d5 (gy bN (Wv kK.j (Wo 2) (b6 cD rfl T.gP bf (aa (Wo 0) ai)) (bu _)) (ag (a9 (i:=3) jv.nd rfl (Or.inl rfl) (cH (G5 T) T.Ca (hr.mono VW) aS.passes (aa (Wo 0) (aa (Wo 2) ai)))) (ag (bw (jj bj bL bM dY (Wo 1) (aa (Wo 3) ai))) (az (a9 (i:=2) jv.nd rfl (Or.inl rfl) (cH (u6 T) T.pD (hr.mono VW) bF (aa (Wo 0) (aa (Wp K (Wo 3) rfl) ai))))))))) (ag (bw (jj bj bL bM dY (Wo 1) (aa (oj (iM T) T.bb.lM T.bb.ma (hr.mono VW) bF (aa (cv T.R6) (aa fN (aa (b6 cD rfl T.gP bf (aa (Wo 0) ai)) (aa (b6 cD rfl T.gP bf (aa (Wo 0) ai)) ai))))) ai))) (az (aX (Wo 1)))))))),?_⟩;have hL:EX K (.ref a) H l.length:= .inl ⟨_,hS,(rY l).symm⟩;refine⟨_,_,rfl,hL,c6 (λh1=>?_) λh1=>?_⟩
  ·have h1':VaprbBase.TEXT<l.length:=by
    have z:=aD h1;show 4096<l.length;lia
   have e:VaprbBase.tokens l= .error ⟨1,4096⟩:=by
    unfold VaprbBase.tokens;rw[ao h1'];rfl
   rw[e]at q;exact cM rfl VW q
  ·have h1':¬VaprbBase.TEXT<l.length:=λz=>h1 (au (by have z:4096<l.length:=z;lia));have hlz:l.length<=4096:=Nat.not_lt.mp h1';rw[Ex h1']at q;refine⟨br _,λls hls=>?_⟩;have s0:bq H (upd H ls (.lst [])):=λc o e=>ak e (aq e hls);refine⟨a,tx l,0,rfl,s0.seq hS,br _,?_⟩;rw[pN,fw,yH];refine⟨λσ H'=>∃ts xs,Vx t.bG l a ls H σ H' l.length ts xs,yD (λσ H'=>∃j ts xs,Vx t.bG l a ls H σ H' j ts xs) (VT l.length) ⟨_,[],[],⟨_,rfl⟩,s0,aC,rfl,λi x k h=>by simp at h,by simp,Ci _ _,?_,br _,?_⟩ ?_,?_⟩
   ·have z:=qC _ false (l.drop 0) (aH _);rw[fw]at z;exact z
   ·have z:=FD l 0;rw[fw,pN]at z;rw[z];cases LX l (m9 false l)<;>rfl
   ·rintro σ H' ⟨j,ts,xs,I⟩;obtain⟨v,rfl⟩:=I.sl;have hS':=I.sm.seq hS;have hL':EX K (.ref a) H' l.length:= .inl ⟨_,hS',(rY l).symm⟩;refine⟨_,_,rfl,hL',c6 (λh2=>Ce ?_) λh2=>?_⟩
    ·have hlt:j<l.length:=by
      have z:=aD h2;lia
     refine WZ a l j ⟨rfl,hS',hlt,hlz,?_⟩;have hx:=Ny hlt I.sk;have hlx:=I.lx;cases ht:VaprbBase.token (l.drop j)with
     |none=>
      rw[ht]at hx;rw[hx]at hlx;have e:LX l 0= .error ⟨2,j⟩:=hlx;rw[e]at q;exact ez.same q I.sm
     |some p=>
      obtain⟨k,n⟩:=p;rw[ht]at hx;have hkn:=vC ht;rw[bU]at hkn;intro x H2 nx hT s2;have h2l:=s2 _ _ I.lst;obtain⟨dx,hT⟩:=hT;have nxl:x≠ls:=λz=>by
       rw[z,I.lst]at nx;cases nx
      have hS2:=s2.seq hS';have hall2:∀(i:Nat)(y:Addr)(k':PTok),xs[i]?=some y->ts[i]?=some k'->qD t.bG H2 y k':=λi y k' e1 e2=>(I.all i y k' e1 e2).same s2;have hb:(upd H2 ls (.lst (xs.map V.ref++[V.ref x]))) x=some (.ins t.bG dx (Ni [G2 k,IX k,.int j,.int (j+n:Nat)])):=ak hT nxl;have s3:bq H (upd H2 ls (.lst (xs.map V.ref++[V.ref x]))):=λc o e=>ak (s2 _ _ (I.sm c o e)) (aq e hls);obtain⟨xs2,e1,e2,e3⟩:=je.snoc (k:=⟨j,k⟩) h2l I.len hall2 ⟨_,dx,hT⟩ nxl I.no (H':=upd H2 ls (.lst (xs.map V.ref++[V.ref x]))) aC λb o e n=>ak e n;have exs:xs2=xs++[x]:=by
       rw[aC]at e1;have z:xs.map V.ref++[V.ref x]=xs2.map V.ref:=by
        injection e1 with e1
        injection e1
       have z2:(xs++[x]).map V.ref=xs2.map V.ref:=by
        rw[cb];exact z
       exact((List.map_inj_right (λa b h=>by injection h)).mp z2).symm
      subst exs;refine⟨.inl ⟨rfl,_,cN.of h2l⟩,WZ ls _ _ ⟨rfl,rfl,h2l,?_,_,Wq hb T.bb.cl (T.bb.no _ VW) rfl,a,tx l,j+n,rfl,s3.seq hS,?_,?_⟩⟩
      ·rw[ay,aM];have:=I.cnt;lia
      ·rw[Fx];lia
      ·rw[Pz,yH];have hle:m9 false (l.drop (j+n))<=l.length-(j+n):=by
        have z:=Ci false (l.drop (j+n));rw[bU]at z;exact z
       refine⟨⟨j+n+m9 false (l.drop (j+n)),ts++[⟨j,k⟩],xs++[x],⟨_,rfl⟩,s3,by rw[aC,cb];rfl,e2,e3,?_,VX,?_,?_,?_⟩,?_⟩
       ·intro z;rcases List.mem_append.mp z with z|z
        ·exact I.no z
        ·exact nxl (List.mem_singleton.mp z).symm
       ·rw[<-b9];exact qC _ false _ (aH _)
       ·rw[aE];have:=I.cnt;show xs.length+1<=_;lia
       ·have hx':LX l j=(LX l (j+n)).map λr=>⟨j,k⟩::r:=hx;rw[hlx,hx',FD l (j+n)];cases LX l (j+n+m9 false (l.drop (j+n)))with
        |error f=>rfl
        |ok r=>
         show Except.ok (ts++(⟨j,k⟩::r))=Except.ok ((ts++[⟨j,k⟩])++r);rw[bK];rfl
       ·show l.length-((j+n+m9 false (l.drop (j+n)):Nat):Int).toNat<l.length-((j:Nat):Int).toNat;lia
    ·have hge:j=l.length:=by
      have z:¬(j:Int)<(l.length:Int):=λz=>h2 (au z);have:=I.le;lia
     subst hge;exact⟨ts,xs,I⟩
   ·rintro σ H' ⟨ts,xs,I⟩;obtain⟨v,rfl⟩:=I.sl;have hS':=I.sm.seq hS;have hL':EX K (.ref a) H' l.length:= .inl ⟨_,hS',(rY l).symm⟩;have hlx:=I.lx;rw[Nw (aH _)]at hlx;have e:LX l 0= .ok (ts++[⟨l.length,.halt_⟩]):=hlx;rw[e]at q;refine⟨.inl ⟨rfl,_,cN.of I.lst⟩,_,_,rfl,hL',_,_,rfl,hL',kL rfl λx H2 nx hx s2=>?_⟩;obtain⟨dx,hx⟩:=hx;have h2l:=s2 _ _ I.lst;have nxl:x≠ls:=λz=>by
     rw[z,I.lst]at nx;cases nx
    have hall2:∀(i:Nat)(y:Addr)(k':PTok),xs[i]?=some y->ts[i]?=some k'->qD t.bG H2 y k':=λi y k' e1 e2=>(I.all i y k' e1 e2).same s2;refine WZ ls _ _ ⟨rfl,rfl,h2l,?_,?_⟩
    ·rw[ay,aM];have:=I.cnt;lia
    ·exact q ls _ (je.snoc (k:=⟨l.length,.halt_⟩) h2l I.len hall2 ⟨_,dx,hx⟩ nxl I.no aC λb o e n=>ak e n) λc o e=>ak (s2 _ _ (I.sm c o e)) (aq e hls)
end
end TS
namespace TM
open VaprbBase
theorem Lh{l:Bytes}{t:Tok}{k:Nat}(h:token l=some (t,k)):t≠ .halt_:=by
 unfold token at h;cases l with
 |nil=>cases h
 |cons b r=>
  dsimp only at h;split at h
  ·split at h
   ·cases h
   ·cases h;intro z;cases z
  ·split at h
   ·obtain⟨n,h1,h2⟩:=Option.map_eq_some_iff.mp h;cases h2;intro z;cases z
   ·split at h
    ·split at h
     ·cases h;intro z;cases z
     ·obtain⟨n,h1,h2⟩:=Option.map_eq_some_iff.mp h;cases h2;intro z;cases z
    ·split at h
     ·cases h;intro z;cases z
     ·cases h
theorem yI{m:Bool}{l:Bytes}{n:Int}(h:numberOf m l=some n):n.natAbs<=1000000000:=by
 unfold numberOf at h;split at h
 ·cases h
 ·split at h
  ·cases h
  ·rename_i hz;have hn:¬1000000000<decimal l:=λz=>hz (.inl z);have e:=bX h;rw[<-e];split<;>lia
theorem Li{l:Bytes}{z:Int}{k:Nat}(h:token l=some (.num z,k)):z.natAbs<=1000000000:=by
 unfold token at h;cases l with
 |nil=>cases h
 |cons b r=>
  dsimp only at h;split at h
  ·split at h
   ·cases h
   ·cases h
  ·split at h
   ·obtain⟨n,h1,h2⟩:=Option.map_eq_some_iff.mp h;cases h2;exact yI h1
   ·split at h
    ·split at h
     ·cases h
     ·obtain⟨n,h1,h2⟩:=Option.map_eq_some_iff.mp h;cases h2;exact yI h1
    ·split at h
     ·cases h
     ·cases h
structure vP(ts:Toks):Prop where
 ex:∃(r:Toks)(p:Nat),ts=r++[⟨p,.halt_⟩]/\∀k∈r,k.tok≠ .halt_
 nm:∀k∈ts,∀z,k.tok= .num z->z.natAbs<=1000000000
theorem vP.cons{ts:Toks}{k:PTok}(h:vP ts)(hk:k.tok≠ .halt_)(hz:∀z,k.tok= .num z->z.natAbs<=1000000000):vP (k::ts):=by
 obtain⟨r,p,e,ha⟩:=h.ex;refine⟨⟨k::r,p,by rw[e];rfl,λk' hk'=>?_⟩,λk' hk'=>?_⟩
 ·rcases List.mem_cons.mp hk' with z|z
  ·rw[z];exact hk
  ·exact ha k' z
 ·rcases List.mem_cons.mp hk' with z|z
  ·rw[z];exact hz
  ·exact h.nm k' z
theorem QU:∀(n:Nat)(l:Bytes)(i:Nat)(ts:Toks),l.length-i<=n->LX l i= .ok ts->vP ts
 |n,l,i,ts,hn,h=>by
  rw[FD]at h;have hid:=qC _ false (l.drop i) (aH _);rw[b9]at hid;by_cases hlt:i+m9 false (l.drop i)<l.length
  ·rw[Ny hlt hid]at h;cases ht:token (l.drop (i+m9 false (l.drop i)))with
   |none=>
    rw[ht]at h;cases h
   |some p=>
    obtain⟨t,k⟩:=p;rw[ht]at h;have hk:=vC ht;have h':(LX l (i+m9 false (l.drop i)+k)).map (λr=>(⟨i+m9 false (l.drop i),t⟩:PTok)::r)= .ok ts:=h;cases hr:LX l (i+m9 false (l.drop i)+k)with
    |error f=>
     rw[hr]at h';cases h'
    |ok r=>
     rw[hr]at h';cases h'
     match n with
     |0=>lia
     |n+1=>
      have hzz:∀z,t= .num z->z.natAbs<=1000000000:=λz hz=>Li (by rw[<-hz];exact ht);exact(QU n l _ r VX hr).cons (Lh ht) hzz
  ·rw[Nw VX]at h;cases h;refine⟨⟨[],_,rfl,λk hk=>by simp at hk⟩,λk hk z hz=>?_⟩;rw[List.mem_singleton.mp hk]at hz;cases hz
theorem Ey{l:Bytes}{ts:Toks}(h:tokens l= .ok ts):vP ts:=by
 by_cases hz:TEXT<l.length
 ·unfold tokens at h;rw[ao hz]at h;cases h
 ·rw[Ex hz]at h;exact QU _ l 0 ts (aH _) h
theorem vP.last{ts:Toks}(h:vP ts){n:Nat}{k:PTok}(e:ts[n]?=some k):(k.tok= .halt_↔n+1=ts.length):=by
 obtain⟨r,p,rfl,ha⟩:=h.ex;rw[aE];by_cases hn:n<r.length
 ·rw[bO hn]at e;have:=ha k (bE e);constructor
  ·intro z;exact absurd z this
  ·intro z;simp at z;lia
 ·rw[bA VX]at e;have h0:n-r.length=0:=by
   have:=(List.getElem?_eq_some_iff.mp e).1;simp at this;lia
  rw[h0]at e;cases e;constructor
  ·intro _;simp;lia
  ·intro _;rfl
theorem vP.pos{ts:Toks}(h:vP ts):0<ts.length:=by
 obtain⟨r,p,rfl,ha⟩:=h.ex;rw[aE];simp
end TM
namespace TS
open PySem PySem.Spec PyProof.Rows L2 TM
open VaprbBase (Bytes Toks PTok here next takeSign takeNum)
noncomputable def SN(ls:Addr)(n:Nat):List (Str×V):=[("tokens",.ref ls),("reached",.int n)]
structure ib(CR CT:Addr)(H:Hp)(r:Addr)(ts:Toks)(n:Nat):Prop where
 ex:∃dx ls,H r=some (.ins CR dx (SN ls n))/\je CT H ls ts
 ok:vP ts
 lt:n<ts.length
def Kp(r:Addr)(H H':Hp):Prop:=∀b o,H b=some o->b≠r->H' b=some o
theorem bq.kp{r:Addr}{H H1 H2:Hp}(s:bq H H1)(k:Kp r H1 H2):Kp r H H2:=λb o e n=>k b o (s _ _ e) n
theorem Kp.trans{r:Addr}{H H1 H2:Hp}(a:Kp r H H1)(b:Kp r H1 H2):Kp r H H2:=λc o e n=>b c o (a c o e n) n
theorem Kp.upd{r:Addr}{H:Hp}{o:HO}:Kp r H (upd H r o):=λb u e n=>ak e n
theorem qD.ne{CR CT:Addr}{H:Hp}{x r:Addr}{k:PTok}{dx ls:Addr}{n:Nat}(h:qD CT H x k)(hr:H r=some (.ins CR dx (SN ls n))):x≠r:=by
 obtain⟨b,dx',e⟩:=h;refine cn e hr λz=>?_;injection z with _ _ z
 have:=bJ List.length z;simp[Ni,SN]at this
theorem je.kp{CR CT:Addr}{H H':Hp}{r ls ls':Addr}{ts:Toks}{dx:Addr}{n:Nat}(h:je CT H ls' ts)(hr:H r=some (.ins CR dx (SN ls n)))(k:Kp r H H'):je CT H' ls' ts:=by
 obtain⟨xs,e,hl,ha⟩:=h;refine⟨xs,k _ _ e (cn e hr (λz=>nomatch z)),hl,λi x k' h1 h2=>?_⟩;have hx:=ha i x k' h1 h2;have nx:=hx.ne hr;obtain⟨b,dx',e'⟩:=hx;exact⟨b,dx',k _ _ e' nx⟩
theorem ib.same{CR CT:Addr}{H H':Hp}{r:Addr}{ts:Toks}{n:Nat}(h:ib CR CT H r ts n)(s:bq H H'):ib CR CT H' r ts n:=
 let⟨dx,ls,e,hT⟩:=h.ex
 ⟨⟨dx,ls,s _ _ e,hT.same s⟩,h.ok,h.lt⟩
theorem ib.cur{CR CT:Addr}{H:Hp}{r:Addr}{ts:Toks}{n:Nat}(h:ib CR CT H r ts n):∃k,ts[n]?=some k/\ts.drop n=k::ts.drop (n+1):=by
 obtain⟨k,hk⟩:∃k,ts[n]?=some k:=⟨_,af h.lt⟩;exact⟨k,hk,TM.rW hk⟩
def Lj(CR CT:Addr):Sp:=λvs H Q _=>∃(r:Addr)(ts:Toks)(n:Nat)(k:PTok),vs=[.ref r]/\ib CR CT H r ts n/\ts[n]?=some k/\∀x,qD CT H x k->Q (.ref x) H
def Sb(CR CT:Addr):Sp:=λvs H Q _=>∃(r:Addr)(ts:Toks)(n:Nat),vs=[.ref r]/\ib CR CT H r ts n/\n+1<ts.length/\∀H',ib CR CT H' r ts (n+1)->Kp r H H'->Q .gb H'
def Nz(CR CT:Addr):Sp:=λvs H Q _=>∃(r:Addr)(ts:Toks)(n c:Nat),vs=[.ref r,.str ⟨#[c]⟩]/\c≠1/\ib CR CT H r ts n/\Q (.bl (next (.sign c) (ts.drop n))) H
def NA(CR CT:Addr):Sp:=λvs H Q _=>∃(r:Addr)(ts:Toks)(n:Nat),vs=[.ref r]/\ib CR CT H r ts n/\Q (.bl (next .halt_ (ts.drop n))) H
def NB(CR CT CF:Addr):Sp:=λvs H Q E=>∃(r:Addr)(ts:Toks)(n:Nat),vs=[.ref r]/\ib CR CT H r ts n/\ez CF H (yf [.int 3,.int (here (ts.drop n))]) E
def Jb(CR CT CF:Addr):Sp:=λvs H Q E=>∃(r:Addr)(ts:Toks)(n c:Nat),vs=[.ref r,.str ⟨#[c]⟩]/\c≠1/\ib CR CT H r ts n/\
 if next (.sign c) (ts.drop n)=true then∀H',ib CR CT H' r ts (n+1)->Kp r H H'->Q .gb H' else ez CF H (yf [.int 3,.int (here (ts.drop n))]) E
def FF(CR CT CF:Addr):Sp:=λvs H Q E=>∃(r:Addr)(ts:Toks)(n:Nat)(k:PTok),vs=[.ref r]/\ib CR CT H r ts n/\ts[n]?=some k/\match k.tok with
 | .num _=>∀x H',ib CR CT H' r ts (n+1)->Kp r H H'->qD CT H' x k->Q (.ref x) H'
 |_=>ez CF H (yf [.int 3,.int (here (ts.drop n))]) E
theorem Lk(k:VaprbBase.Tok):decide (G2 k= .str "sign")=(match k with| .sign _=>true|_=>false):=by cases k<;>rfl
theorem NC(k:VaprbBase.Tok):decide (G2 k= .str "number")=(match k with| .num _=>true|_=>false):=by cases k<;>rfl
theorem ND(k:VaprbBase.Tok):decide (G2 k= .str "end")=(match k with| .halt_=>true|_=>false):=by cases k<;>rfl
theorem Ez(k:VaprbBase.Tok):decide (G2 k= .str "word")=(match k with| .name _=>true|_=>false):=by cases k<;>rfl
theorem qE(k:VaprbBase.Tok)(z:Str):Ru (G2 k) (.str z)=true:=by cases k<;>rfl
section
include T
theorem eK:dQ P w K mg base 1 t.mP ["self"] (Lj t.cB t.bG):=by
 refine T.qi.ok x6 (λvs H Q E h=>?_) (λcdv A outer s H vs Q E hr h=>?_)
 ·obtain⟨r,ts,n,k,rfl,_⟩:=h;rfl
 ·obtain⟨r,ts,n,k,rfl,hR,hk,q⟩:=h;obtain⟨dx,ls,e,xs,e2,hl,ha⟩:=hR.ex;obtain⟨x,hx⟩:∃x,xs[n]?=some x:=⟨_,af (by rw[hl];exact hR.lt)⟩;refine⟨_,(az (aX (bp (Wr K) (Wp K (Wo 0) rfl) (Wp K (Wo 0) rfl) (λ_ _=>rfl)))),?_⟩;refine⟨_,Wq e T.bS.cl (T.bS.no _ VW) rfl,_,Wq e T.bS.cl (T.bS.no _ VW) rfl,V.ref x,Wt (cN.of e2) (cx ?_),q x (ha n x k hx hk)⟩;rw[aR,hx];rfl
theorem ic:dQ P w K mg base 1 t.uq ["self"] (Sb t.cB t.bG):=by
 refine T.we.ok BY (λvs H Q E h=>?_) (λcdv A outer s H vs Q E hr h=>?_)
 ·obtain⟨r,ts,n,rfl,_⟩:=h;rfl
 ·obtain⟨r,ts,n,rfl,hR,hlt,q⟩:=h;obtain⟨dx,ls,e,hT⟩:=hR.ex;refine⟨_,(az (KS (Wo 0) aK Rw)),?_⟩;refine⟨r,t.cB,dx,_,_,rfl,e,T.bS.cl,T.bS.no _ VW,rfl,_,_,rfl,rfl,dx,_,e,(by show 2<1000;decide),?_⟩;exact q _ ⟨⟨dx,ls,aC,hT.kp e Kp.upd⟩,hR.ok,hlt⟩ Kp.upd
theorem ir:dQ P w K mg base 2 t.ph ["self","sign"] (Nz t.cB t.bG):=by
 refine T.sF.ok p5 (λvs H Q E h=>?_) (λcdv A outer s H vs Q E hr h=>?_)
 ·obtain⟨r,ts,n,c,rfl,_⟩:=h;rfl
 ·obtain⟨r,ts,n,c,rfl,hc,hR,q⟩:=h;obtain⟨k,hk,hd⟩:=hR.cur;rw[hd]at q;obtain⟨dxr,ls,er,_⟩:=hR.ex;refine⟨_,(ag (a9 (i:=2) p5.nd rfl (Or.inl rfl) (fh (eK T) T.bS.cl T.ee (hr.mono VW) bF (Wo 0))) (az (aX (Ib (qU cQ (Wp K (Wo 2) rfl) (cv T.Kg) (bu _)) (Ia (qU cQ (Wp K (Wo 2) rfl) (Wo 1) (bu _))))))),?_⟩;refine⟨Ws er rfl,r,ts,n,k,rfl,hR,hk,λx hx=>?_⟩;obtain⟨b,dx,ex⟩:=hx;refine⟨_,Wq ex T.bb.cl (T.bb.no _ VW) rfl,qE _ _,_,rfl,?_⟩;rw[Lk];have q':Q (.bl (k.tok== .sign c)) H:=q;cases hkk:k.tok with
  |sign c'=>
   refine d4 ⟨IX (.sign c'),Wq ex T.bb.cl (T.bb.no _ VW) (by rw[hkk];rfl),rfl,?_⟩;have e3:decide (IX (.sign c')= .str ⟨#[c]⟩)=(k.tok== .sign c):=by
    rw[hkk];by_cases h1:c'=1
    ·subst h1;rw[aQ (λz=>by
      have z:V.str (if 1=1 then"->"else⟨#[1]⟩)=V.str ⟨#[c]⟩:=z;rw[ao rfl]at z;injection z with z
      have:=bJ (λy:Str=>y.cps.size) z;have z2:(2:Nat)=1:=this;cases z2)]
     symm;rw[HK];intro z;injection z with z
     exact hc z.symm
    ·have e4:IX (.sign c')= .str ⟨#[c']⟩:=by
      show V.str (if c'=1 then"->"else⟨#[c']⟩)=_;rw[ah h1]
     rw[e4,d8];simp
   rw[e3];exact q'
  |name b=>
   rw[hkk]at q';exact cq q'
  |num b=>
   rw[hkk]at q';exact cq q'
  |halt_=>
   rw[hkk]at q';exact cq q'
theorem oz:dQ P w K mg base 2 t.mQ ["self"] (NA t.cB t.bG):=by
 refine T.qj.ok x8 (λvs H Q E h=>?_) (λcdv A outer s H vs Q E hr h=>?_)
 ·obtain⟨r,ts,n,rfl,_⟩:=h;rfl
 ·obtain⟨r,ts,n,rfl,hR,q⟩:=h;obtain⟨k,hk,hd⟩:=hR.cur;rw[hd]at q;obtain⟨dxr,ls,er,_⟩:=hR.ex;refine⟨_,(az (aX (qU cQ (Wp K (fh (eK T) T.bS.cl T.ee (hr.mono VW) bF (Wo 0)) rfl) (cv T.R6) (bu _)))),?_⟩;refine⟨Ws er rfl,r,ts,n,k,rfl,hR,hk,λx hx=>?_⟩;obtain⟨b,dx,ex⟩:=hx;refine⟨_,Wq ex T.bb.cl (T.bb.no _ VW) rfl,qE _ _,?_⟩;rw[ND];have q':Q (.bl (k.tok== .halt_)) H:=q;cases hkk:k.tok<;>(rw[hkk]at q';exact q')
theorem fU:dQ P w K mg base 3 t.pj ["self"] (NB t.cB t.bG t.cX):=by
 refine T.sG.ok zD (λvs H Q E h=>?_) (λcdv A outer s H vs Q E hr h=>?_)
 ·obtain⟨r,ts,n,rfl,_⟩:=h;rfl
 ·obtain⟨r,ts,n,rfl,hR,q⟩:=h;obtain⟨k,hk,hd⟩:=hR.cur;rw[hd]at q;obtain⟨dxr,ls,er,_⟩:=hR.ex;refine⟨_,(az (pZ (cR T) T.cf.lM T.cf.ma (hr.mono VW) aS (aa (cv T.rH) (aa (Wp K (fh (eK T) T.bS.cl T.ee (hr.mono VW) bF (Wo 0)) rfl) ai)))),?_⟩;refine⟨Ws er rfl,r,ts,n,k,rfl,hR,hk,λx hx=>?_⟩;obtain⟨b,dx,ex⟩:=hx;exact⟨_,Wq ex T.bb.cl (T.bb.no _ VW) rfl,cM rfl VW q⟩
theorem eR:dQ P w K mg base 4 t.ke ["self","sign"] (Jb t.cB t.bG t.cX):=by
 refine T.mX.ok vN (λvs H Q E h=>?_) (λcdv A outer s H vs Q E hr h=>?_)
 ·obtain⟨r,ts,n,c,rfl,_⟩:=h;rfl
 ·obtain⟨r,ts,n,c,rfl,hc,hR,q⟩:=h;obtain⟨k,hk,hd⟩:=hR.cur;obtain⟨dxr,ls,er,_⟩:=hR.ex;refine⟨_,(ag (cj (qR (Wy (bR (ir T) T.bS.cl T.gz (hr.mono VW) bF (Wo 0) (aa (Wo 1) ai)))) (az (bw (fh (fU T) T.bS.cl T.fz (hr.mono VW) aS.passes (Wo 0)))) bo) (az (bw (fh (ic T) T.bS.cl T.gE (hr.mono VW) bF (Wo 0))))),?_⟩;refine⟨Ws er rfl,r,ts,n,c,rfl,hc,hR,?_⟩;cases hn:next (.sign c) (ts.drop n)with
  |false=>
   rw[hn,ah aj]at q;exact d4 ⟨Ws er rfl,r,ts,n,rfl,hR,q⟩
  |true=>
   rw[hn,ao rfl]at q;have hlt:n+1<ts.length:=by
    rw[hd]at hn;have hkk:k.tok= .sign c:=by
     have z:(k.tok== .sign c)=true:=hn;exact beq_iff_eq.mp z
    have:=hR.lt;have hne:¬(n+1=ts.length):=λz=>by
     have:=(hR.ok.last hk).mpr z;rw[hkk]at this;cases this
    lia
   exact cq ⟨Ws er rfl,r,ts,n,rfl,hR,hlt,q⟩
theorem jW:dQ P w K mg base 4 t.i7 ["self"] (FF t.cB t.bG t.cX):=by
 refine T.kO.ok jU (λvs H Q E h=>?_) (λcdv A outer s H vs Q E hr h=>?_)
 ·obtain⟨r,ts,n,k,rfl,_⟩:=h;rfl
 ·obtain⟨r,ts,n,k,rfl,hR,hk,q⟩:=h;obtain⟨dxr,ls,er,_⟩:=hR.ex;refine⟨_,(ag (a9 (i:=1) jU.nd rfl (Or.inl rfl) (fh (eK T) T.bS.cl T.ee (hr.mono VW) bF (Wo 0))) (ag (cj (Wv Ge (Wp K (Wo 1) rfl) (cv T.Fq) (bu _)) (az (bw (fh (fU T) T.bS.cl T.fz (hr.mono VW) aS.passes (Wo 0)))) bo) (ag (bw (fh (ic T) T.bS.cl T.gE (hr.mono VW) bF (Wo 0))) (az (aX (Wo 1)))))),?_⟩;refine⟨Ws er rfl,r,ts,n,k,rfl,hR,hk,λx hx=>?_⟩;have hx':=hx;have nxr:=hx.ne er;obtain⟨b,dx,ex⟩:=hx;refine⟨_,Wq ex T.bb.cl (T.bb.no _ VW) rfl,qE _ _,?_⟩;rw[NC];cases hkk:k.tok with
  |num z=>
   rw[hkk]at q;have hlt:n+1<ts.length:=by
    have:=hR.lt;have hne:¬(n+1=ts.length):=λz=>by
     have:=(hR.ok.last hk).mpr z;rw[hkk]at this;cases this
    lia
   refine cq ⟨Ws er rfl,r,ts,n,rfl,hR,hlt,λH' hR' kp=>q x H' hR' kp ?_⟩;exact⟨b,dx,kp _ _ ex nxr⟩
  |name z=>
   rw[hkk]at q;exact d4 ⟨Ws er rfl,r,ts,n,rfl,hR,q⟩
  |sign z=>
   rw[hkk]at q;exact d4 ⟨Ws er rfl,r,ts,n,rfl,hR,q⟩
  |halt_=>
   rw[hkk]at q;exact d4 ⟨Ws er rfl,r,ts,n,rfl,hR,q⟩
end
end TS
namespace TM
open VaprbBase
theorem yJ{n:Int}{d:Nat}(h:d≠0):frac n d=⟨n/(Nat.gcd n.natAbs d:Nat),d/Nat.gcd n.natAbs d⟩:=by
 unfold frac;rw[ah h]
theorem G6{n d:Nat}(h:d≠0):0<Nat.gcd n d:=Nat.gcd_pos_of_pos_right _ (gu h)
theorem u9{n:Int}{d:Nat}(h:d≠0):((frac n d).num<0\/((frac n d).den:Int)<(frac n d).num)↔(n<0\/(d:Int)<n):=by
 rw[yJ h];have hg:=G6 (n:=n.natAbs) h;generalize hG:Nat.gcd n.natAbs d=g at hg⊢;have h1:(g:Int)∣n:=by
  rw[<-hG];exact Int.ofNat_dvd_left.mpr (Nat.gcd_dvd_left _ _)
 have h2:g∣d:=by
  rw[<-hG];exact Nat.gcd_dvd_right _ _
 obtain⟨a,rfl⟩:=h1;obtain⟨b,rfl⟩:=h2;have hg':(0:Int)<g:=VX;dsimp only;rw[Int.mul_ediv_cancel_left _ VX,Nat.mul_div_cancel_left _ hg];constructor
 ·rintro(z|z)
  ·exact .inl (Int.mul_neg_of_pos_of_neg hg' z)
  ·refine .inr ?_;rw[mn];exact Int.mul_lt_mul_of_pos_left z hg'
 ·rintro(z|z)
  ·refine .inl ?_;rcases Int.lt_or_le a 0 with y|y
   ·exact y
   ·have:=Int.mul_nonneg (L6 hg') y;lia
  ·refine .inr ?_;rw[mn]at z;exact Int.lt_of_mul_lt_mul_left z (L6 hg')
theorem NF(n:Int):frac n 1=⟨n,1⟩:=by
 rw[yJ VW,Nat.gcd_one_right];simp
end TM
namespace L2
open PySem PySem.Spec PyProof.Rows
theorem yK{X:Cx}:qT X (binaryOp .FloorDiv) (rI (λ_ j=>0<j/\j.natAbs.log2<9000) λi j=>.int (i/j)):=S2 λi j _ _ _ _ _ hc q=>by
 have h1:(0:Int)<j:=hc.1;exact floordiv_int VX (by rw[Int.fdiv_eq_ediv_of_nonneg i VX];exact q) (.inl (PyProof.noPylong_of_log2 hc.2))
end L2
namespace TS
open PySem PySem.Spec PyProof.Rows L2 TM
open VaprbBase (Bytes Toks PTok here next takeSign takeNum RESERVED)
def T4:Sp:=λvs H Q _=>∃a b:Nat,vs=[.int a,.int b]/\Q (.int (Nat.gcd a b:Nat)) H
def NG:Sp:=λvs H Q _=>∃a b:Nat,vs=[.int a,.int b]/\b≠0/\b<2^9000/\∀p H',H p=none->H' p=some (.tup [.int (VaprbBase.frac a b).num,.int (VaprbBase.frac a b).den])->bq H H'->Q (.ref p) H'
theorem log2_lt{n k:Nat}(hk:0<k)(h:n<2^k):n.log2<k:=by
 by_cases h0:n=0
 ·subst h0;simpa using hk
 ·exact(Nat.log2_lt h0).mpr h
theorem vD{a b:Bytes}(h:strOf a=strOf b):a=b:=by
 have e:(strOf a).cps.toList=(strOf b).cps.toList:=by rw[h]
 have e2:a.map UInt8.toNat=b.map UInt8.toNat:=by simpa[strOf]using e
 exact(List.map_inj_right λx y h=>UInt8.toNat_inj.mp h).mp e2
theorem FG:RESERVED.map (λb=>V.str (strOf b))=[.str "chance",.str "budget",.str "def",.str "let",.str "observe",.str "tell",.str "table",.str "net",.str "flag",.str "num",.str "if",.str "flip",.str "pick",.str "uniform",.str "given",.str "weigh",.str "true",.str "false"]:=VY
theorem Ck(b:Bytes)(l:List Bytes):JU (.str (strOf b)) (l.map λb=>V.str (strOf b))=l.contains b:=by
 induction l with
 |nil=>rfl
 |cons a r ih=>
  have e1:JU (.str (strOf b)) ((a::r).map λb=>V.str (strOf b))=(HN (.str (strOf a)) (.str (strOf b))||JU (.str (strOf b)) (r.map λb=>V.str (strOf b))):=rfl;rw[e1,ih,ej]
  congr 1
  have e2:HN (.str (strOf a)) (.str (strOf b))=(strOf a==strOf b):=rfl;rw[e2,d8,jg,jg];constructor
  ·intro h;exact(vD h).symm
  ·intro h;rw[h]
noncomputable def NH:VaprbBase.Tok->Bool
 | .name b=>!RESERVED.contains b
 |_=>false
theorem wV(k:PTok)(r:Toks):VaprbBase.nameNext (k::r)=NH k.tok:=by
 obtain⟨p,k⟩:=k;cases k<;>rfl
def NI(CT:Addr):Sp:=λvs H Q _=>∃(x:Addr)(k:PTok),vs=[.ref x]/\qD CT H x k/\Q (.bl (NH k.tok)) H
def FH(K:PySem.W.Frag)(CR CT CF:Addr):Sp:=λvs H Q E=>∃(x dx a:Addr)(l:Bytes),vs=[.ref x,.ref a]/\H x=some (.ins CR dx [])/\FA K H a l/\match VaprbBase.tokens l with
 | .error f=>ez CF H (yf [.int f.code,.int f.place]) E
 | .ok ts=>∀H',ib CR CT H' x ts 0->Kp x H H'->Q .gb H'
section
include T
theorem vQ:dQ P w K mg base 1 t.ki ["first","second"] T4:=by
 refine T.mZ.ok fM (λvs H Q E h=>?_) (λcdv A outer s H vs Q E hr h=>?_)
 ·obtain⟨a,b,rfl,_⟩:=h;rfl
 ·obtain⟨a,b,rfl,q⟩:=h;refine⟨_,(ag (d5 (gy bN (Wv tW.j (Wo 1) aK (bu _)) (ag (a9 (i:=2) fM.nd rfl (Or.inl rfl) (bI Rq (Wo 0) (Wo 1))) (ag (a9 (i:=0) fM.nd rfl (Or.inl rfl) (Wo 1)) (az (a9 (i:=1) fM.nd rfl (Or.inl rfl) (Wo 2))))))) (az (aX (Wo 0)))),?_⟩;refine⟨λσ H'=>(∃v v',σ=[some (.int (Nat.gcd a b:Nat)),v,v'])/\H'=H,yD (λσ H'=>∃(x y:Nat)(v:Option V),σ=[some (.int x),some (.int y),v]/\H'=H/\Nat.gcd x y=Nat.gcd a b) (λσ _=>match σ with|[_,some (.int y),_]=>y.toNat|_=>0) ⟨a,b,none,rfl,rfl,rfl⟩ ?_,?_⟩
  ·rintro σ H' ⟨x,y,v,rfl,rfl,hg⟩;refine c6 (λh1=>Ce ?_) λh1=>?_
   ·have hy:0<y:=by
     have z:=aD h1;lia
    refine⟨_,_,rfl,rfl,VX,⟨y,x%y,some (.int ((x:Int)%y)),?_,rfl,?_⟩,?_⟩
    ·show([some (V.int y),some (V.int ((x:Int)%y)),some (V.int ((x:Int)%y))]:L2.St)=_;rw[<-Int.natCast_emod]
    ·rw[<-hg,Nat.gcd_comm y,<-Nat.gcd_rec,Nat.gcd_comm]
    ·show((x:Int)%y).toNat<(y:Int).toNat;rw[<-Int.natCast_emod];have:=JJ x hy;lia
   ·have hy:y=0:=by
     have z:¬(0:Int)<(y:Int):=λz=>h1 (au z);lia
    subst hy;rw[Nat.gcd_zero_right]at hg;subst hg;exact⟨⟨_,_,rfl⟩,rfl⟩
  ·rintro σ H' ⟨⟨v,v',rfl⟩,rfl⟩;exact q
theorem vE:dQ P w K mg base 2 t.IS ["above","below"] NG:=by
 refine T.GY.ok Eh (λvs H Q E h=>?_) (λcdv A outer s H vs Q E hr h=>?_)
 ·obtain⟨a,b,rfl,_⟩:=h;rfl
 ·obtain⟨a,b,rfl,hb,hb2,q⟩:=h;have hg:0<Nat.gcd a b:=G6 hb;have hgl:Nat.gcd a b<=b:=Nat.le_of_dvd (gu hb) (Nat.gcd_dvd_right _ _);have hc:(0:Int)<(Nat.gcd a b:Nat)/\((Nat.gcd a b:Nat):Int).natAbs.log2<9000:=⟨VX,by rw[ji];exact log2_lt VW (cK hgl hb2)⟩;refine⟨_,(ag (a9 (i:=2) Eh.nd rfl (Or.inl rfl) (cH (vQ T) T.m4 (hr.mono VW) bF (aa (Wo 0) (aa (Wo 1) ai)))) (az (aX (qV (aa (bI yK (Wo 0) (Wo 2)) (aa (bI yK (Wo 1) (Wo 2)) ai)))))),?_⟩;refine⟨a,b,rfl,_,_,rfl,rfl,hc,_,_,rfl,rfl,hc,(by show 2<=sizeLine;decide),λp hp=>?_⟩;refine q p _ hp ?_ λc o e=>ak e (aq e hp);rw[aC,yJ hb];show some (HO.tup [V.int ((a:Int)/(Nat.gcd a b:Nat)),V.int ((b:Int)/(Nat.gcd a b:Nat))])=some (HO.tup [V.int ((a:Int)/(Nat.gcd (a:Int).natAbs b:Nat)),V.int ((b/Nat.gcd (a:Int).natAbs b:Nat):Int)]);rw[ji,Int.natCast_ediv]
theorem qF:dQ P w K mg base 1 t.pf ["self"] (NI t.bG):=by
 refine T.sD.ok zA (λvs H Q E h=>?_) (λcdv A outer s H vs Q E hr h=>?_)
 ·obtain⟨x,k,rfl,_⟩:=h;rfl
 ·obtain⟨x,k,rfl,hx,q⟩:=h;obtain⟨b,dx,ex⟩:=hx;obtain⟨aN,rJ,hN⟩:=T.rJ;refine⟨_,(az (aX (Ib (qU cQ (Wp K (Wo 0) rfl) (cv T.Kf) (bu _)) (Ia (qU ju (Wp K (Wo 0) rfl) (cv rJ) (by with_unfolding_all rfl)))))),?_⟩;refine⟨_,Wq ex T.bb.cl (T.bb.no _ VW) rfl,qE _ _,_,rfl,?_⟩;rw[Ez];cases hkk:k.tok with
  |name z=>
   refine d4 ⟨.str (strOf z),Wq ex T.bb.cl (T.bb.no _ VW) (by rw[hkk];rfl),aN,_,rfl,.inr (hN _),rfl,rfl,?_⟩;rw[<-FG,ao rfl,Ck];rw[hkk]at q;exact q
  |num z=>
   rw[hkk]at q;exact cq q
  |sign z=>
   rw[hkk]at q;exact cq q
  |halt_=>
   rw[hkk]at q;exact cq q
theorem va:dQ P w K mg base 8 t.uo ["self","text"] (FH K t.cB t.bG t.cX):=by
 refine T.wc.ok BX (λvs H Q E h=>?_) (λcdv A outer s H vs Q E hr h=>?_)
 ·obtain⟨x,dx,a,l,rfl,_⟩:=h;rfl
 ·obtain⟨x,dx,a,l,rfl,hx,hS,q⟩:=h;refine⟨_,(ag (dz (Wo 0) (cH (FE T) T.AB (hr.mono VW) aS.passes (aa (Wo 1) ai)) rfl) (az (dz (Wo 0) aK rfl))),?_⟩;refine⟨a,l,rfl,hS,?_⟩;cases ht:VaprbBase.tokens l with
  |error f=>
   rw[ht]at q;exact q
  |ok ts=>
   rw[ht]at q;intro ls H' hT s1;refine WY x t.cB dx _ ⟨rfl,s1 _ _ hx,T.bS.cl,T.bS.no _ VW,(by show 0<1000;decide),?_⟩;refine WY x t.cB dx _ ⟨rfl,aC,T.bS.cl,T.bS.no _ VW,(by show 1<1000;decide),?_⟩;have ok:=Ey ht;have kp:Kp x H' (upd (upd H' x (.ins t.cB dx (eG "tokens" (.ref ls) []))) x (.ins t.cB dx (SN ls 0))):=λb o e n=>ak (ak e n) n;refine q _ ⟨⟨dx,ls,aC,?_⟩,ok,ok.pos⟩ (bq.kp s1 kp);obtain⟨xs,e,hl,ha⟩:=hT;have hx':=s1 _ _ hx;refine⟨xs,kp _ _ e (cn e hx' (λz=>nomatch z)),hl,λi y k h1 h2=>?_⟩;obtain⟨b,dy,ey⟩:=ha i y k h1 h2;refine⟨b,dy,kp _ _ ey (cn ey hx' λz=>?_)⟩;injection z with _ _ z
   cases z
end
end TS
namespace TS
open PySem PySem.Spec PyProof.Rows L2 TM
open VaprbBase (Bytes Toks PTok here next takeSign takeNum takeFrac takeChance)
def gc(S:List Addr)(H H':Hp):Prop:=∀b o,H b=some o->b∉S->H' b=some o
theorem gc.refl{S:List Addr}{H:Hp}:gc S H H:=λ_ _ e _=>e
theorem gc.trans{S:List Addr}{H H1 H2:Hp}(a:gc S H H1)(b:gc S H1 H2):gc S H H2:=λc o e n=>b c o (a c o e n) n
theorem gc.of{S:List Addr}{H H1:Hp}(s:bq H H1):gc S H H1:=λb o e _=>s _ _ e
theorem Kp.s{S:List Addr}{r:Addr}{H H1:Hp}(k:Kp r H H1)(h:r∈S):gc S H H1:=λb o e n=>k b o e λz=>n (z▸h)
theorem gc.mono{S S':List Addr}{H H1:Hp}(k:gc S H H1)(h:∀b,b∈S->b∈S'):gc S' H H1:=λb o e n=>k b o e λz=>n (h b z)
def cP(S:List Addr)(C:Addr)(H:Hp)(fs:List (Str×V))(E:XK):Prop:=∀(d:Addr)(H':Hp),H' d=some (XD d fs)->gc S H H'->E (.ref C) (some d) H'
theorem cP.to{S:List Addr}{C:Addr}{H H1:Hp}{fs:List (Str×V)}{E:XK}(x:cP S C H fs E)(k:gc S H H1):ez C H1 fs E:=λd H' e s=>x d H' e (k.trans (.of s))
theorem cP.on{S:List Addr}{C:Addr}{H H1:Hp}{fs:List (Str×V)}{E:XK}(x:cP S C H fs E)(k:gc S H H1):cP S C H1 fs E:=λd H' e s=>x d H' e (k.trans s)
theorem cP.mono{S S':List Addr}{C:Addr}{H:Hp}{fs:List (Str×V)}{E:XK}(x:cP S' C H fs E)(h:∀b,b∈S->b∈S'):cP S C H fs E:=λd H' e s=>x d H' e (s.mono h)
def EA{α:Type}(S:List Addr)(CR CT CF:Addr)(H:Hp)(r:Addr)(ts:Toks)(res:Except VaprbBase.Fault (α×Toks))(E:XK)(k:α->Hp->Prop):Prop:=match res with
 | .error f=>cP S CF H (yf [.int f.code,.int f.place]) E
 | .ok (a,l)=>∀m H',ts.drop m=l->ib CR CT H' r ts m->gc S H H'->k a H'
theorem iu(k:PTok)(r:Toks):takeNum (k::r)=match k.tok with
 | .num z=>.ok ((k.place,z),r)
 |_=>.error ⟨3,k.place⟩:=by
 obtain⟨p,k⟩:=k;cases k<;>rfl
theorem Ll(x:VaprbBase.Tok)(k:PTok)(r:Toks):next x (k::r)=(k.tok==x):=rfl
noncomputable def den(l:Toks):Except VaprbBase.Fault (Nat×Toks):=
 if next (.sign 47) l=true then(match takeNum (l.drop 1)with
  | .error f=>.error f
  | .ok (d,l)=>if d.2<1 then .error ⟨7,d.1⟩else .ok (d.2.toNat,l))
 else .ok (1,l)
theorem ng(l:Toks):takeChance l=match takeNum l with
 | .error f=>.error f
 | .ok (n,l)=>(match den l with
   | .error f=>.error f
   | .ok (d,l)=>if n.2<0\/(d:Int)<n.2 then .error ⟨7,n.1⟩else .ok (VaprbBase.frac n.2 d,l)):=by
 unfold takeChance takeFrac den;cases takeNum l with
 |error f=>rfl
 |ok p=>
  obtain⟨n,l⟩:=p;simp only[bind,Except.bind];by_cases h:next (.sign 47) l=true
  ·simp only[h,zd];cases hq:takeNum (l.drop 1)with
   |error f=>rfl
   |ok p=>
    obtain⟨d,l'⟩:=p;dsimp only;by_cases hd:d.2<1
    ·simp only[hd,zd]
    ·have hd0:d.2.toNat≠0:=by lia
     have e:=u9 (n:=n.2) hd0;simp only[hd,kx,e]
  ·have h':next (.sign 47) l=false:=by simpa using h
   simp only[h',fm,kx];rw[NF];rfl
theorem PF:("/":Str)=⟨#[47]⟩:=VY
theorem PH:(":":Str)=⟨#[58]⟩:=VY
theorem Kk:(",":Str)=⟨#[44]⟩:=VY
def T5(CR CT CF:Addr):Sp:=λvs H Q E=>∃(r:Addr)(ts:Toks)(n:Nat),vs=[.ref r]/\ib CR CT H r ts n/\EA [r] CR CT CF H r ts (den (ts.drop n)) E λd H'=>Q (.int (d:Nat)) H'
def NJ(CR CT CF:Addr):Sp:=λvs H Q E=>∃(r:Addr)(ts:Toks)(n:Nat),vs=[.ref r]/\ib CR CT H r ts n/\EA [r] CR CT CF H r ts (takeChance (ts.drop n)) E λf H'=>∀p,H p=none->H' p=some (.tup [.int f.num,.int f.den])->Q (.ref p) H'
section
include T
theorem vR:dQ P w K mg base 5 t.kj ["reader"] (T5 t.cB t.bG t.cX):=by
 refine T.m7.ok lY (λvs H Q E h=>?_) (λcdv A outer s H vs Q E hr h=>?_)
 ·obtain⟨r,ts,n,rfl,_⟩:=h;rfl
 ·obtain⟨r,ts,n,rfl,hR,q⟩:=h;obtain⟨k,hk,hd⟩:=hR.cur;obtain⟨dxr,ls,er,_⟩:=hR.ex;refine⟨_,(ag (cj (qR (Wy (bR (ir T) T.bS.cl T.gz (hr.mono VW) bF (Wo 0) (aa fN ai)))) (az (aX aK)) bo) (ag (bw (fh (ic T) T.bS.cl T.gE (hr.mono VW) bF (Wo 0))) (ag (a9 (i:=1) lY.nd rfl (Or.inl rfl) (fh (jW T) T.bS.cl T.hU (hr.mono VW) aS.passes (Wo 0))) (ag (cj (Wv kK.j (Wp K (Wo 1) rfl) aK (bu _)) (az (pZ (cR T) T.cf.lM T.cf.ma (hr.mono VW) aS (aa (cv T.mN) (aa (Wp K (Wo 1) rfl) ai)))) bo) (az (aX (Wp K (Wo 1) rfl))))))),?_⟩;unfold den at q;refine⟨Ws er rfl,r,ts,n,47,by rw[PF],VW,hR,?_⟩;cases hn:next (.sign 47) (ts.drop n)with
  |false=>
   rw[hn,ah aj]at q;exact d4 (q n H rfl hR gc.refl)
  |true=>
   rw[hn,ao rfl]at q;have hlt:n+1<ts.length:=by
    rw[hd,Ll]at hn;have hkk:=beq_iff_eq.mp hn;have:=hR.lt;have hne:¬(n+1=ts.length):=λz=>by
     have:=(hR.ok.last hk).mpr z;rw[hkk]at this;cases this
    lia
   refine cq ⟨Ws er rfl,r,ts,n,rfl,hR,hlt,λH1 hR1 kp1=>?_⟩;obtain⟨k1,hk1,hd1⟩:=hR1.cur;obtain⟨dxr1,ls1,er1,_⟩:=hR1.ex;have kps1:gc [r] H H1:=kp1.s (by simp);rw[b9,hd1,iu]at q;refine⟨Ws er1 rfl,r,ts,n+1,k1,rfl,hR1,hk1,?_⟩;cases hkk:k1.tok with
   |num z=>
    rw[hkk]at q;dsimp only at q⊢;intro x H2 hR2 kp2 hx;have kps2:gc [r] H H2:=kps1.trans (kp2.s (by simp));obtain⟨b,dx,ex⟩:=hx;refine⟨.int z,Wq ex T.bb.cl (T.bb.no _ VW) (by rw[hkk];rfl),c6 (λh1=>?_) λh1=>?_⟩
    ·rw[ao (aD h1)]at q;exact⟨.int k1.place,Wq ex T.bb.cl (T.bb.no _ VW) rfl,cM rfl VW (cP.to q kps2)⟩
    ·have h1':¬z<1:=λy=>h1 (au y);rw[ah h1']at q;refine⟨.int z,Wq ex T.bb.cl (T.bb.no _ VW) (by rw[hkk];rfl),?_⟩;have z2:Q (.int ((z.toNat:Nat):Int)) H2:=q (n+1+1) H2 rfl hR2 kps2;have e:((z.toNat:Nat):Int)=z:=VX;rw[e]at z2;exact z2
   |name z=>
    rw[hkk]at q;rw[hd1];exact cP.to q kps1
   |sign z=>
    rw[hkk]at q;rw[hd1];exact cP.to q kps1
   |halt_=>
    rw[hkk]at q;rw[hd1];exact cP.to q kps1
end
open VaprbBase(nameNext takeName)
open Vaprbg(Var)
theorem NK{ts:Toks}{n:Nat}{d:Nat}{l:Toks}(h:vP ts)(e:den (ts.drop n)= .ok (d,l)):d≠0/\d<=1000000000:=by
 unfold den at e;by_cases hn:next (.sign 47) (ts.drop n)=true
 ·rw[ao hn]at e;rw[b9]at e;cases hd:ts.drop (n+1)with
  |nil=>
   rw[hd]at e;cases e
  |cons k r=>
   rw[hd,iu]at e;cases hk:k.tok with
   |num z=>
    rw[hk]at e;dsimp only at e;by_cases hz:z<1
    ·rw[ao hz]at e;cases e
    ·rw[ah hz]at e;cases e;have hm:k∈ts:=List.mem_of_mem_drop (i:=n+1) (by rw[hd];exact aV);have:=h.nm k hm z hk;lia
   |name z=>
    rw[hk]at e;cases e
   |sign z=>
    rw[hk]at e;cases e
   |halt_=>
    rw[hk]at e;cases e
 ·rw[ah hn]at e;cases e;lia
theorem gc.none{S:List Addr}{H H':Hp}{p:Addr}(k:gc S H H')(h:H' p=none)(hs:p∉S):H p=none:=by
 cases e:H p with
 |none=>rfl
 |some o=>
  rw[k p o e hs]at h;cases h
structure fV(H:Hp)(nl cl:Addr)(vs:List Var):Prop where
 nm:H nl=some (.lst (vs.map λv=>V.str (strOf v.name)))
 ch:∃ps:List Addr,H cl=some (.lst (ps.map V.ref))/\ps.length=vs.length/\∀(i:Nat)(p:Addr)(v:Var),ps[i]?=some p->vs[i]?=some v->H p=some (.tup [.int v.chance.num,.int v.chance.den])
theorem fV.same{H H':Hp}{nl cl:Addr}{vs:List Var}(h:fV H nl cl vs)(s:bq H H'):fV H' nl cl vs:=
 let⟨ps,e,hl,ha⟩:=h.ch
 ⟨s _ _ h.nm,ps,s _ _ e,hl,λi p v h1 h2=>s _ _ (ha i p v h1 h2)⟩
theorem fV.kp{CR CT:Addr}{H H':Hp}{r nl cl:Addr}{vs:List Var}{ts:Toks}{n:Nat}(h:fV H nl cl vs)(hR:ib CR CT H r ts n)(k:Kp r H H'):fV H' nl cl vs:=by
 obtain⟨dx,ls,e,_⟩:=hR.ex;obtain⟨ps,e2,hl,ha⟩:=h.ch;exact⟨k _ _ h.nm (cn h.nm e (λz=>nomatch z)),ps,k _ _ e2 (cn e2 e (λz=>nomatch z)),hl,λi p v h1 h2=>k _ _ (ha i p v h1 h2) (cn (ha i p v h1 h2) e (λz=>nomatch z))⟩
noncomputable def newName(vs:List Var)(l:Toks):Except VaprbBase.Fault (Bytes×Toks):=
 if nameNext l=true/\Vaprbg.VARS<=vs.length then .error ⟨4,here l⟩
 else match takeName l with
  | .error f=>.error f
  | .ok (x,l)=>if(vs.any λv=>v.name==x.name)=true then .error ⟨5,x.place⟩else .ok (x.name,l)
noncomputable def lS(vs:List Var)(l:Toks):Except VaprbBase.Fault (Var×Toks):=match newName vs l with
 | .error f=>.error f
 | .ok (x,l)=>(match takeSign 58 l with
   | .error f=>.error f
   | .ok l=>(match takeChance l with
     | .error f=>.error f
     | .ok (c,l)=>.ok (⟨x,c⟩,l)))
theorem pE(k:PTok)(r:Toks):takeName (k::r)=match k.tok with
 | .name b=>if VaprbBase.RESERVED.contains b=true then .error ⟨3,k.place⟩else .ok (⟨k.place,b⟩,r)
 |_=>.error ⟨3,k.place⟩:=by
 obtain⟨p,k⟩:=k;cases k<;>rfl
theorem FI(n:Nat)(vs:List Var)(l:Toks):Vaprbg.takeVars (n+1) vs l=match lS vs l with
 | .error f=>.error f
 | .ok (v,l)=>if next .halt_ l=true then .ok (vs++[v])else(match takeSign 44 l with
   | .error f=>.error f
   | .ok l=>Vaprbg.takeVars n (vs++[v]) l):=by
 rw[Vaprbg.takeVars];unfold lS newName;by_cases h:nameNext l=true/\Vaprbg.VARS<=vs.length
 ·rw[ao h,ao h]
 ·rw[ah h,ah h];simp only[bind,Except.bind];cases takeName l with
  |error f=>rfl
  |ok p=>
   obtain⟨x,l⟩:=p;dsimp only;by_cases hv:(vs.any λv=>v.name==x.name)=true
   ·simp only[hv,zd]
   ·have hv':(vs.any λv=>v.name==x.name)=false:=by simpa using hv
    simp only[hv',fm,kx];cases takeSign 58 l with
    |error f=>rfl
    |ok l=>
     dsimp only;cases takeChance l with
     |error f=>rfl
     |ok p=>
      obtain⟨c,l⟩:=p;dsimp only;by_cases hh:next .halt_ l=true
      ·simp only[hh,zd]
      ·have hh':next .halt_ l=false:=by simpa using hh
       simp only[hh',fm,kx];cases takeSign 44 l<;>rfl
def Lm(CR CT CF:Addr):Sp:=λvs H Q E=>∃(r nl cl:Addr)(ts:Toks)(n:Nat)(us:List Var),vs=[.ref r,.ref nl]/\ib CR CT H r ts n/\fV H nl cl us/\us.length<=12/\EA [r] CR CT CF H r ts (newName us (ts.drop n)) E λx H'=>Q (.str (strOf x)) H'
section
include T
theorem Cm:dQ P w K mg base 6 t.uE ["reader"] (NJ t.cB t.bG t.cX):=by
 refine T.wK.ok mK (λvs H Q E h=>?_) (λcdv A outer s H vs Q E hr h=>?_)
 ·obtain⟨r,ts,n,rfl,_⟩:=h;rfl
 ·obtain⟨r,ts,n,rfl,hR,q⟩:=h;obtain⟨k,hk,hd⟩:=hR.cur;obtain⟨dxr,ls,er,_⟩:=hR.ex;refine⟨_,(ag (a9 (i:=1) mK.nd rfl (Or.inl rfl) (fh (jW T) T.bS.cl T.hU (hr.mono VW) aS.passes (Wo 0))) (ag (a9 (i:=2) mK.nd rfl (Or.inl rfl) (cH (vR T) T.m8 (hr.mono VW) aS.passes (aa (Wo 0) ai))) (ag (cj (PW.pt (Am (Wv kK.j (Wp K (Wo 1) rfl) aK (bu _)) (tR (Wv tW.j (Wp K (Wo 1) rfl) (Wo 2) (bu _))))) (az (pZ (cR T) T.cf.lM T.cf.ma (hr.mono VW) aS (aa (cv T.mN) (aa (Wp K (Wo 1) rfl) ai)))) bo) (az (aX (cH (vE T) T.uN (hr.mono VW) bF (aa (Wp K (Wo 1) rfl) (aa (Wo 2) ai)))))))),?_⟩;rw[ng,hd,iu]at q;refine⟨Ws er rfl,r,ts,n,k,rfl,hR,hk,?_⟩;cases hkk:k.tok with
  |num z=>
   rw[hkk]at q;dsimp only at q⊢;intro x H1 hR1 kp1 hx;have kps1:gc [r] H H1:=kp1.s (by simp);refine⟨r,ts,n+1,rfl,hR1,?_⟩;cases hden:den (ts.drop (n+1))with
   |error f=>
    rw[hden]at q;exact cP.on q kps1
   |ok p=>
    obtain⟨d,l'⟩:=p;rw[hden]at q;obtain⟨hd0,hd9⟩:=NK hR.ok hden;dsimp only at q;intro m H2 hm hR2 kps2;have Mb:=kps1.trans kps2;have hx2:qD t.bG H2 x k:=by
     obtain⟨dx1,ls1,e1,_⟩:=hR1.ex;have nx:=hx.ne e1;obtain⟨b,dx',e'⟩:=hx;exact⟨b,dx',kps2 _ _ e' (by simpa using nx)⟩
    obtain⟨b,dx,ex⟩:=hx2;have hfault:(z<0\/(d:Int)<z)->_:=λhz=>by
     rw[ao hz]at q;exact(cM (us:=[.int 7,.int k.place]) rfl (by show 2<=1000;decide) (cP.to q Mb):_)
    refine⟨.int z,Wq ex T.bb.cl (T.bb.no _ VW) (by rw[hkk];rfl),c6 (λh1=>d4 ⟨.int k.place,Wq ex T.bb.cl (T.bb.no _ VW) rfl,hfault (.inl (aD h1))⟩) λh1=>⟨.int z,Wq ex T.bb.cl (T.bb.no _ VW) (by rw[hkk];rfl),c6 (λh2=>⟨.int k.place,Wq ex T.bb.cl (T.bb.no _ VW) rfl,hfault (.inr (aD h2))⟩) λh2=>?_⟩⟩;have h1':¬z<0:=λy=>h1 (au y);have h2':¬(d:Int)<z:=λy=>h2 (au y);rw[ah (λy=>y.elim h1' h2')]at q;obtain⟨zn,rfl⟩:∃zn:Nat,z=(zn:Int):=⟨z.toNat,VX⟩;refine⟨.int zn,Wq ex T.bb.cl (T.bb.no _ VW) (by rw[hkk];rfl),zn,d,rfl,hd0,cK hd9 (aZ (show 1000000000<2^30 by decide) (cZ VW VW)),λp H3 np hp s3=>?_⟩;obtain⟨dx2,ls2,e2,_⟩:=hR2.ex;have npr:p≠r:=λy=>by
     rw[y,e2]at np;cases np
    exact q m H3 hm (hR2.same s3) (Mb.trans (.of s3)) p (Mb.none np (by simpa using npr)) hp
  |name z=>
   rw[hkk]at q;dsimp only;rw[hd];exact cP.to q gc.refl
  |sign z=>
   rw[hkk]at q;dsimp only;rw[hd];exact cP.to q gc.refl
  |halt_=>
   rw[hkk]at q;dsimp only;rw[hd];exact cP.to q gc.refl
end
open VaprbBase(RESERVED)
theorem EB(b:Bytes)(us:List Var):JU (.str (strOf b)) (us.map λv=>V.str (strOf v.name))=us.any λv=>v.name==b:=by
 have e:=Ck b (us.map λv=>v.name);rw[cS]at e;have e2:(us.map λv=>V.str (strOf v.name))=us.map ((λb=>V.str (strOf b))∘λv=>v.name):=rfl;rw[e2,e]
 induction us with
 |nil=>rfl
 |cons a r ih=>
  rw[bW,ej,tz]
  congr 1
  ·rw[d8,jg,jg];exact eq_comm
  ·exact ih (Ck b _|>.symm▸by rw[cS]) rfl
theorem xw(us:List Var):(us.map λv=>V.str (strOf v.name)).all nZ=true:=by
 rw[LQ];exact List.all_eq_true.mpr λ_ _=>rfl
section
include T
theorem zP:dQ P w K mg base 5 t.pC ["reader","names"] (Lm t.cB t.bG t.cX):=by
 refine T.sV.ok p9 (λvs H Q E h=>?_) (λcdv A outer s H vs Q E hr h=>?_)
 ·obtain⟨r,nl,cl,ts,n,us,rfl,_⟩:=h;rfl
 ·obtain⟨r,nl,cl,ts,n,us,rfl,hR,hV,hu,q⟩:=h;obtain⟨k,hk,hd⟩:=hR.cur;obtain⟨dxr,ls,er,_⟩:=hR.ex;refine⟨_,(ag (a9 (i:=2) p9.nd rfl (Or.inl rfl) (fh (eK T) T.bS.cl T.ee (hr.mono VW) bF (Wo 0))) (ag (cj (qR (Wy (fh (qF T) T.bb.cl T.lP (hr.mono VW) bF (Wo 2)))) (az (bw (fh (fU T) T.bS.cl T.fz (hr.mono VW) aS.passes (Wo 0)))) bo) (ag (cj (Wv cQ (b6 cD rfl T.gP bf (aa (Wo 1) ai)) (cv T.sC) (bu _)) (az (pZ (cR T) T.cf.lM T.cf.ma (hr.mono VW) aS (aa (cv T.Ek) (aa (Wp K (Wo 2) rfl) ai)))) bo) (ag (cj (Wv vr (Wp K (Wo 2) rfl) (Wo 1) (by with_unfolding_all rfl)) (az (pZ (cR T) T.cf.lM T.cf.ma (hr.mono VW) aS (aa (cv T.Ax) (aa (Wp K (Wo 2) rfl) ai)))) bo) (ag (bw (fh (ic T) T.bS.cl T.gE (hr.mono VW) bF (Wo 0))) (az (aX (Wp K (Wo 2) rfl)))))))),?_⟩;refine⟨Ws er rfl,r,ts,n,k,rfl,hR,hk,λx hx=>?_⟩;have hx':=hx;have nxr:=hx.ne er;obtain⟨b,dx,ex⟩:=hx;unfold newName at q;rw[hd,pE,wV]at q;refine⟨Ws ex rfl,x,k,rfl,hx',?_⟩;cases hkk:k.tok with
  |name z=>
   rw[hkk]at q;dsimp only at q;by_cases hz:RESERVED.contains z=true
   ·have e1:NH (.name z)=false:=by show(!RESERVED.contains z)=false;rw[hz];rfl
    rw[e1]at q⊢;rw[ah (λy=>aj y.1),ao hz]at q;refine d4 ⟨Ws er rfl,r,ts,n,rfl,hR,?_⟩;rw[hd];exact cP.to q gc.refl
   ·have e1:NH (.name z)=true:=by show(!RESERVED.contains z)=true;rw[Bool.eq_false_iff.mpr hz];rfl
    rw[e1]at q⊢;rw[ah hz]at q;refine cq ⟨_,_,rfl,.inl ⟨_,cN.of hV.nm,rfl⟩,rfl,?_⟩;rw[ay];refine c6 (λh1=>?_) λh1=>?_
    ·have h1':us.length=12:=by
      have y:=aD h1;injection y with y
      lia
     rw[ao ⟨rfl,by show 12<=us.length;lia⟩]at q;exact⟨.int k.place,Wq ex T.bb.cl (T.bb.no _ VW) rfl,cM (us:=[.int 4,.int k.place]) rfl (by show 2<=1000;decide) (cP.to q gc.refl)⟩
    ·have h1':¬us.length=12:=λy=>h1 (au (by rw[y];rfl));rw[ah (λy=>h1' (by have y2:12<=us.length:=y.2;lia))]at q;dsimp only at q;refine⟨.str (strOf z),Wq ex T.bb.cl (T.bb.no _ VW) (by rw[hkk];rfl),nl,_,rfl,.inl (cN.of hV.nm),rfl,xw us,?_⟩;rw[ah aj,EB];refine c6 (λh2=>?_) λh2=>?_
     ·rw[ao h2]at q;exact⟨.int k.place,Wq ex T.bb.cl (T.bb.no _ VW) rfl,cM (us:=[.int 5,.int k.place]) rfl (by show 2<=1000;decide) (cP.to q gc.refl)⟩
     ·rw[ah h2]at q;have hlt:n+1<ts.length:=by
       have:=hR.lt;have hne:¬(n+1=ts.length):=λz=>by
        have:=(hR.ok.last hk).mpr z;rw[hkk]at this;cases this
       lia
      refine⟨Ws er rfl,r,ts,n,rfl,hR,hlt,λH1 hR1 kp1=>?_⟩;exact⟨.str (strOf z),Wq (kp1 _ _ ex nxr) T.bb.cl (T.bb.no _ VW) (by rw[hkk];rfl),q (n+1) H1 rfl hR1 (kp1.s (by simp))⟩
  |num z=>
   rw[hkk]at q;rw[ah (λy=>aj y.1)]at q;refine d4 ⟨Ws er rfl,r,ts,n,rfl,hR,?_⟩;rw[hd];exact cP.to q gc.refl
  |sign z=>
   rw[hkk]at q;rw[ah (λy=>aj y.1)]at q;refine d4 ⟨Ws er rfl,r,ts,n,rfl,hR,?_⟩;rw[hd];exact cP.to q gc.refl
  |halt_=>
   rw[hkk]at q;rw[ah (λy=>aj y.1)]at q;refine d4 ⟨Ws er rfl,r,ts,n,rfl,hR,?_⟩;rw[hd];exact cP.to q gc.refl
end
theorem gn(c:Nat)(l:Toks):takeSign c l=if next (.sign c) l=true then .ok (l.drop 1)else .error ⟨3,here l⟩:=rfl
theorem ib.Sd{CR CT:Addr}{H:Hp}{r b:Addr}{ts:Toks}{n:Nat}{ys:List V}{o:HO}(h:ib CR CT H r ts n)(hb:H b=some (.lst ys))(hn:∀ls,je CT H ls ts->ls≠b):ib CR CT (upd H b o) r ts n:=by
 obtain⟨dx,ls,e,hT⟩:=h.ex;have n1:=hn ls hT;obtain⟨xs,e2,hl,ha⟩:=hT;refine⟨⟨dx,ls,ak e (cn e hb λz=>nomatch z),xs,ak e2 n1,hl,λi x k h1 h2=>?_⟩,h.ok,h.lt⟩;obtain⟨c,dx',e'⟩:=ha i x k h1 h2;exact⟨c,dx',ak e' (cn e' hb λz=>nomatch z)⟩
theorem fV.T6{CT:Addr}{H:Hp}{nl cl ls:Addr}{us:List Var}{ts:Toks}(h:fV H nl cl us)(ok:vP ts)(hT:je CT H ls ts):ls≠nl:=by
 rintro rfl;obtain⟨xs,e2,hl,ha⟩:=hT;have e:=h.nm;rw[e2]at e;injection e with e
 injection e with e
 have hp:=ok.pos;cases xs with
 |nil=>simp at hl;lia
 |cons x r=>
  cases us with
  |nil=>cases e
  |cons u v=>
   injection e with e _
   cases e
def Jc(CR CT CF:Addr):Sp:=λvs H Q E=>∃(r nl cl:Addr)(ts:Toks)(n:Nat)(us:List Var),vs=[.ref r,.ref nl,.ref cl]/\ib CR CT H r ts n/\fV H nl cl us/\nl≠cl/\us.length<=12/\EA [r,nl,cl] CR CT CF H r ts (lS us (ts.drop n)) E λv H'=>fV H' nl cl (us++[v])->Q .gb H'
section
include T
theorem qG:dQ P w K mg base 7 t.pB ["reader","names","chances"] (Jc t.cB t.bG t.cX):=by
 refine T.sU.ok zG (λvs H Q E h=>?_) (λcdv A outer s H vs Q E hr h=>?_)
 ·obtain⟨r,nl,cl,ts,n,us,rfl,_⟩:=h;rfl
 ·obtain⟨r,nl,cl,ts,n,us,rfl,hR,hV,hnc,hu,q⟩:=h;obtain⟨k,hk,hd⟩:=hR.cur;obtain⟨dxr,ls,er,_⟩:=hR.ex;refine⟨_,(ag (bw (jj bj bL bM dY (Wo 1) (aa (cH (zP T) T.sW (hr.mono VW) aS.passes (aa (Wo 0) (aa (Wo 1) ai))) ai))) (ag (bw (bR (eR T) T.bS.cl T.eh (hr.mono VW) aS.passes (Wo 0) (aa fN ai))) (az (bw (jj bj bL bM dY (Wo 2) (aa (cH (Cm T) T.wL (hr.mono VW) aS.passes (aa (Wo 0) ai)) ai)))))),?_⟩;obtain⟨ps,ec,hpl,hpa⟩:=hV.ch;have n1:nl≠r:=cn hV.nm er λz=>nomatch z;have n2:cl≠r:=cn ec er λz=>nomatch z;refine⟨.inl ⟨rfl,_,cN.of hV.nm⟩,r,nl,cl,ts,n,us,rfl,hR,hV,hu,?_⟩;unfold lS at q;cases hnn:newName us (ts.drop n)with
  |error f=>
   rw[hnn]at q;exact cP.mono q (by simp)
  |ok p=>
   obtain⟨x,l⟩:=p;rw[hnn]at q;dsimp only at q;intro m H1 hm hR1 kps1;have hnl1:=kps1 _ _ hV.nm (by simpa using n1);have hcl1:=kps1 _ _ ec (by simpa using n2);refine⟨nl,_,_,rfl,rfl,hnl1,?_,?_⟩
   ·rw[ay,aM];lia
   have hV1:fV H1 nl cl us:=⟨hnl1,ps,hcl1,hpl,λi p v h1 h2=>kps1 _ _ (hpa i p v h1 h2) (by simpa using cn (hpa i p v h1 h2) er λz=>nomatch z)⟩;have hR1':=hR1.Sd (o:= .lst ((us.map λv=>V.str (strOf v.name))++[.str (strOf x)])) hnl1 λls hT=>hV1.T6 hR.ok hT;have kq1:gc [r,nl,cl] H (upd H1 nl (.lst ((us.map λv=>V.str (strOf v.name))++[.str (strOf x)]))):=λb o e nb=>ak (kps1 _ _ e (by simp at nb⊢;exact nb.1)) (by simp at nb;exact nb.2.1);have hc1':upd H1 nl (.lst ((us.map λv=>V.str (strOf v.name))++[.str (strOf x)])) cl=some (.lst (ps.map V.ref)):=ak hcl1 (bh hnc);have hp1':∀(i:Nat)(p:Addr)(v:Var),ps[i]?=some p->us[i]?=some v->upd H1 nl (.lst ((us.map λv=>V.str (strOf v.name))++[.str (strOf x)])) p=some (.tup [.int v.chance.num,.int v.chance.den]):=λi p v h1 h2=>ak (kps1 _ _ (hpa i p v h1 h2) (by simpa using cn (hpa i p v h1 h2) er λz=>nomatch z)) (cn (hpa i p v h1 h2) hV.nm λz=>nomatch z);have hn1':upd H1 nl (.lst ((us.map λv=>V.str (strOf v.name))++[.str (strOf x)])) nl=some (.lst ((us.map λv=>V.str (strOf v.name))++[.str (strOf x)])):=aC;revert hR1' kq1 hc1' hp1' hn1';generalize upd H1 nl (.lst ((us.map λv=>V.str (strOf v.name))++[.str (strOf x)]))=G1;intro hR1' kq1 hc1' hp1' hn1';obtain⟨dxr1,ls1,er1,_⟩:=hR1'.ex;refine⟨Ws er1 rfl,r,ts,m,58,by rw[PH],VW,hR1',?_⟩;rw[gn,<-hm]at q;cases hs:next (.sign 58) (ts.drop m)with
   |false=>
    rw[hs,ah aj]at q;rw[ah aj];exact cP.to q kq1
   |true=>
    rw[hs,ao rfl]at q;rw[ao rfl];dsimp only at q;intro H2 hR2 kp2;have kq2:gc [r,nl,cl] H H2:=kq1.trans (kp2.s (by simp));have hc2:=kp2 _ _ hc1' n2;have hn2:=kp2 _ _ hn1' n1;have hp2:∀(i:Nat)(p:Addr)(v:Var),ps[i]?=some p->us[i]?=some v->H2 p=some (.tup [.int v.chance.num,.int v.chance.den]):=λi p v h1 h2=>kp2 _ _ (hp1' i p v h1 h2) (cn (hp1' i p v h1 h2) er1 λz=>nomatch z);rw[b9]at q;refine⟨.inl ⟨rfl,_,cN.of hc2⟩,r,ts,m+1,rfl,hR2,?_⟩;cases htc:takeChance (ts.drop (m+1))with
    |error f=>
     rw[htc]at q;exact cP.mono (cP.on q kq2) (by simp)
    |ok p=>
     obtain⟨f,l2⟩:=p;rw[htc]at q;dsimp only at q;intro m3 H3 hm3 hR3 kps3 p np hp;obtain⟨dxr2,ls2,er2,_⟩:=hR2.ex;have hc3:=kps3 _ _ hc2 (by simpa using n2);have hn3:=kps3 _ _ hn2 (by simpa using n1);have hp3:∀(i:Nat)(p:Addr)(v:Var),ps[i]?=some p->us[i]?=some v->H3 p=some (.tup [.int v.chance.num,.int v.chance.den]):=λi p v h1 h2=>kps3 _ _ (hp2 i p v h1 h2) (by simpa using cn (hp2 i p v h1 h2) er2 λz=>nomatch z);refine WZ cl _ _ ⟨rfl,rfl,hc3,?_,?_⟩
     ·rw[ay,aM,hpl];lia
     have hR3':ib t.cB t.bG (upd H3 cl (.lst (ps.map V.ref++[.ref p]))) r ts m3:=hR3.Sd hc3 λls hT=>by
      rintro rfl;obtain⟨xs,e2,hl,ha⟩:=hT;rw[e2]at hc3;injection hc3 with e
      injection e with e
      have hp':=hR.ok.pos;cases xs with
      |nil=>simp at hl;lia
      |cons y r'=>
       cases ps with
       |nil=>cases e
       |cons p' q'=>
        injection e with e _
        injection e with e
        subst e;cases us with
        |nil=>cases hpl
        |cons u v=>
         have z1:=hp3 0 y u rfl rfl;cases ts with
         |nil=>cases hl
         |cons k' l'=>
          obtain⟨b,dx,z2⟩:=ha 0 y k' rfl rfl;rw[z1]at z2;cases z2
     refine q m3 _ hm3 hR3' (λb o e nb=>ak (kps3 _ _ (kq2 _ _ e nb) (by simp at nb⊢;exact nb.1)) (by simp at nb;exact nb.2.2)) ⟨?_,ps++[p],?_,?_,?_⟩
     ·rw[ak hn3 hnc,cb];rfl
     ·rw[aC,cb];rfl
     ·rw[aE,aE,hpl];rfl
     ·intro i p' v h1 h2;by_cases hi:i<ps.length
      ·rw[bO hi]at h1;rw[bO VX]at h2;exact ak (hp3 i p' v h1 h2) (cn (hp3 i p' v h1 h2) hc3 λz=>nomatch z)
      ·have e:i=ps.length:=by
        have:=(List.getElem?_eq_some_iff.mp h1).1;rw[aE]at this;simp at this;lia
       subst e;rw[bA VX,eO]at h1;rw[bA VX,hpl,eO]at h2;cases h1;cases h2;exact ak hp (cn hp hc3 λz=>nomatch z)
end
theorem ez.wide{S:List Addr}{C:Addr}{H H1:Hp}{fs:List (Str×V)}{E:XK}(x:ez C H fs E)(s:bq H H1)(hS:∀b∈S,H b=none):cP S C H1 fs E:=
 λd H' e k=>x d H' e λb o eb=>k b o (s b o eb) λhb=>by
  rw[hS b hb]at eb;cases eb
theorem gc.same{S:List Addr}{H H1 H2:Hp}(s:bq H H1)(k:gc S H1 H2)(hS:∀b∈S,H b=Option.none):bq H H2:=λb o eb=>k b o (s b o eb) λhb=>by
 rw[hS b hb]at eb;cases eb
theorem FJ{c:Nat}{l l':Toks}(h:takeSign c l= .ok l'):l'.length<l.length:=by
 rw[gn]at h;by_cases hn:next (.sign c) l=true
 ·rw[ao hn]at h;cases h;cases l with
  |nil=>cases hn
  |cons x r=>simp
 ·rw[ah hn]at h;cases h
theorem AK{l l':Toks}{x:Nat×Int}(h:takeNum l= .ok (x,l')):l'.length<l.length:=by
 cases l with
 |nil=>cases h
 |cons k r=>
  rw[iu]at h;cases hk:k.tok with
  |num z=>
   rw[hk]at h;cases h;simp
  |name z=>
   rw[hk]at h;cases h
  |sign z=>
   rw[hk]at h;cases h
  |halt_=>
   rw[hk]at h;cases h
theorem PJ{l l':Toks}{d:Nat}(h:den l= .ok (d,l')):l'.length<=l.length:=by
 unfold den at h;by_cases hn:next (.sign 47) l=true
 ·rw[ao hn]at h;cases hq:takeNum (l.drop 1)with
  |error f=>
   rw[hq]at h;cases h
  |ok p=>
   obtain⟨x,l1⟩:=p;rw[hq]at h;dsimp only at h;have h1:=AK hq;rw[bU]at h1;by_cases hx:x.2<1
   ·rw[ao hx]at h;cases h
   ·rw[ah hx]at h;cases h;lia
 ·rw[ah hn]at h;cases h;exact aH _
theorem Cn{l l':Toks}{c:VaprbBase.Frac}(h:takeChance l= .ok (c,l')):l'.length<l.length:=by
 rw[ng]at h;cases h1:takeNum l with
 |error f=>
  rw[h1]at h;cases h
 |ok p=>
  obtain⟨n,l1⟩:=p;rw[h1]at h;dsimp only at h;have z1:=AK h1;cases h2:den l1 with
  |error f=>
   rw[h2]at h;cases h
  |ok p=>
   obtain⟨d,l2⟩:=p;rw[h2]at h;dsimp only at h;have z2:=PJ h2;by_cases hx:n.2<0\/(d:Int)<n.2
   ·rw[ao hx]at h;cases h
   ·rw[ah hx]at h;cases h;lia
theorem G7{us:List Var}{l l':Toks}{x:Bytes}(h:newName us l= .ok (x,l')):l'.length<l.length/\us.length<12:=by
 unfold newName at h;by_cases hn:nameNext l=true/\Vaprbg.VARS<=us.length
 ·rw[ao hn]at h;cases h
 ·rw[ah hn]at h;cases l with
  |nil=>cases h
  |cons k r=>
   rw[pE]at h;cases hk:k.tok with
   |name z=>
    rw[hk]at h;dsimp only at h;by_cases hz:RESERVED.contains z=true
    ·rw[ao hz]at h;cases h
    ·rw[ah hz]at h;dsimp only at h;have hm:nameNext (k::r)=true:=by
      rw[wV,hk];show(!RESERVED.contains z)=true;rw[Bool.eq_false_iff.mpr hz];rfl
     have hv:¬(12<=us.length):=λy=>hn ⟨hm,y⟩;by_cases ha:(us.any λv=>v.name==z)=true
     ·rw[ao ha]at h;cases h
     ·rw[ah ha]at h;cases h;simp;lia
   |num z=>
    rw[hk]at h;cases h
   |sign z=>
    rw[hk]at h;cases h
   |halt_=>
    rw[hk]at h;cases h
theorem Co{us:List Var}{l l':Toks}{v:Var}(h:lS us l= .ok (v,l')):l'.length<l.length/\us.length<12:=by
 unfold lS at h;cases h1:newName us l with
 |error f=>
  rw[h1]at h;cases h
 |ok p=>
  obtain⟨x,l1⟩:=p;rw[h1]at h;dsimp only at h;have z1:=G7 h1;cases h2:takeSign 58 l1 with
  |error f=>
   rw[h2]at h;cases h
  |ok l2=>
   rw[h2]at h;dsimp only at h;have z2:=FJ h2;cases h3:takeChance l2 with
   |error f=>
    rw[h3]at h;cases h
   |ok p=>
    obtain⟨c,l3⟩:=p;rw[h3]at h;cases h;have z3:=Cn h3;lia
noncomputable def nh(j:Nat)(us:List Var)(l:Toks):Except VaprbBase.Fault (List Var):=if next .halt_ l=true then .ok us else(match takeSign 44 l with
 | .error f=>.error f
 | .ok l=>Vaprbg.takeVars j us l)
theorem pF(n:Nat)(vs:List Var)(l:Toks):Vaprbg.takeVars (n+1) vs l=match lS vs l with
 | .error f=>.error f
 | .ok (v,l)=>nh n (vs++[v]) l:=FI n vs l
theorem yL(b:Bytes):Vaprbg.readVars b=match VaprbBase.tokens b with
 | .error f=>.error f
 | .ok l=>Vaprbg.takeVars (l.length+1) [] l:=by
 unfold Vaprbg.readVars;cases VaprbBase.tokens b<;>rfl
def Se(CV:Addr)(H0 H:Hp)(x:Addr)(us:List Var):Prop:=∃dx nl cl,H x=some (.ins CV dx (TY [.ref nl,.ref cl]))/\fV H nl cl us/\H0 nl=none/\H0 cl=none/\nl≠cl
def G8(K:PySem.W.Frag)(CV CF:Addr):Sp:=λvs H Q E=>∃(a:Addr)(l:Bytes),vs=[.ref a]/\FA K H a l/\match Vaprbg.readVars l with
 | .error f=>ez CF H (yf [.int f.code,.int f.place]) E
 | .ok us=>∀x H',Se CV H H' x us->bq H H'->H x=none->Q (.ref x) H'
section
include T
theorem yM:dQ P w K mg base 1 t.mW ["self","names","chances"] (Br t.jd 2 TY):=by
 refine T.qA.ok ye (λvs H Q E h=>?_) (λcdv A outer s H vs Q E hr h=>?_)
 ·obtain⟨x,dx,us,rfl,hl,_⟩:=h;exact bJ Nat.succ hl
 ·obtain⟨x,dx,us,rfl,hl,hx,q⟩:=h;obtain⟨n,c,rfl⟩:=WT hl;refine⟨_,(ag (dz (Wo 0) (Wo 1) rfl) (az (dz (Wo 0) (Wo 2) rfl))),?_⟩;refine WY x t.jd dx _ ⟨rfl,hx,T.eD.cl,T.eD.no _ VW,(by show 0<1000;decide),?_⟩;refine WY x t.jd dx _ ⟨rfl,aC,T.eD.cl,T.eD.no _ VW,(by show 1<1000;decide),?_⟩;exact q _ aC λb o e n=>by rw[bt n,bt n];exact e
theorem A1:dQ P w K mg base 10 t.rS ["text"] (G8 K t.jd t.cX):=by
 refine T.uY.ok iT (λvs H Q E h=>?_) (λcdv A outer s H vs Q E hr h=>?_)
 ·revert h;refine W6 λa l=>W9 λe0_ _=>?_;subst e0_;rfl
 ·obtain⟨a,l,rfl,hS,q⟩:=h;refine⟨_,(ag (a9 (i:=1) iT.nd rfl (Or.inl rfl) (oj (va T) T.bS.lM T.bS.ma (hr.mono VW) aS.passes (aa (Wo 0) ai))) (ag (a9 (i:=2) iT.nd rfl (Or.inl rfl) (cI ai)) (ag (a9 (i:=3) iT.nd rfl (Or.inl rfl) (cI ai)) (ag (bw (cH (qG T) T.lR (hr.mono VW) aS.passes (aa (Wo 1) (aa (Wo 2) (aa (Wo 3) ai))))) (ag (d5 (gy bN (qR (Wy (fh (oz T) T.bS.cl T.kl (hr.mono VW) bF (Wo 1)))) (ag (bw (bR (eR T) T.bS.cl T.eh (hr.mono VW) aS.passes (Wo 1) (aa fN ai))) (az (bw (cH (qG T) T.lR (hr.mono VW) aS.passes (aa (Wo 1) (aa (Wo 2) (aa (Wo 3) ai))))))))) (az (aX (oj (yM T) T.eD.lM T.eD.ma (hr.mono VW) bF (aa (Wo 2) (aa (Wo 3) ai)))))))))),?_⟩;rw[yL]at q;refine λr dx nr nd ne=>⟨r,dx,a,l,rfl,aC,?_,?_⟩
  ·exact bq.seq (bq.made nr nd λb o e _=>e) hS
  cases ht:VaprbBase.tokens l with
  |error f=>
   rw[ht]at q;exact ez.same q (bq.made nr nd λb o e _=>e)
  |ok ts=>
   rw[ht]at q;dsimp only at q;intro H1 hR1 kp1;have s1:bq H H1:=bq.made nr nd kp1;refine⟨rfl,(by show 0<=sizeLine;lia),λnl hnl=>⟨(by show 0<=sizeLine;lia),λcl hcl=>?_⟩⟩;have ncl:cl≠nl:=λy=>by
    rw[y,aC]at hcl;cases hcl
   rw[bt ncl]at hcl;have fnl:H nl=none:=by
    cases e:H nl with
    |none=>rfl
    |some o=>
     rw[s1 _ _ e]at hnl;cases hnl
   have fcl:H cl=none:=by
    cases e:H cl with
    |none=>rfl
    |some o=>
     rw[s1 _ _ e]at hcl;cases hcl
   have fS:∀b∈[r,nl,cl],H b=none:=by
    intro b hb;simp at hb;rcases hb with rfl|rfl|rfl
    ·exact nr
    ·exact fnl
    ·exact fcl
   have s2':bq H1 (upd (upd H1 nl (.lst [])) cl (.lst [])):=λb o e=>ak (ak e (aq e hnl)) (aq e hcl);have hV2:fV (upd (upd H1 nl (.lst [])) cl (.lst [])) nl cl []:=⟨ak aC (bh ncl),[],aC,rfl,λi p v h1 _=>nomatch h1⟩;have hR2:=hR1.same s2';have s2:=s1.trans s2';revert s2 hV2 hR2;generalize upd (upd H1 nl (.lst [])) cl (.lst [])=H2;intro hV2 hR2 s2;refine⟨r,nl,cl,ts,0,[],rfl,hR2,hV2,bh ncl,br _,?_⟩;rw[pF]at q;rw[fw];cases hov:lS [] ts with
   |error f=>
    rw[hov]at q;exact ez.wide q s2 fS
   |ok p=>
    obtain⟨v,l3⟩:=p;rw[hov]at q;dsimp only at q;generalize hres:nh ts.length ([]++[v]) l3=res at q;intro m H3 hm hR3 k3 hV3;refine⟨λσ H'=>∃us,σ=[some (.ref a),some (.ref r),some (.ref nl),some (.ref cl)]/\fV H' nl cl us/\bq H H'/\res= .ok us,⟨λd σ H'=>∃(n j:Nat)(us:List Var),d=ts.length-n/\σ=[some (.ref a),some (.ref r),some (.ref nl),some (.ref cl)]/\ib t.cB t.bG H' r ts n/\fV H' nl cl us/\us.length<=12/\bq H H'/\ts.length-n<=j/\res=nh j us (ts.drop n),(WY _ m ts.length _ ⟨rfl,rfl,hR3,hV3,(by show 1<=12;decide),k3.same s2 fS,VX,by rw[hm];exact hres.symm⟩),?_⟩,?_⟩
    ·intro d σ H';refine Xc λn j us=>Xb λe0_ e1_ hR hV hu=>W8 λsH hj e=>?_;subst e0_;subst e1_;refine W6 (λdxr ls=>W9 λer _=>?_) hR.ex;refine⟨Ws er rfl,r,ts,n,rfl,hR,?_⟩;cases hh:next .halt_ (ts.drop n)with
     |true=>
      refine cq ⟨us,rfl,hV,sH,?_⟩;rw[e,nh,ao hh]
     |false=>
      refine d4 ⟨λσ' H''=>∃(n' j':Nat)(us':List Var),n<n'/\n'<ts.length/\σ'=[some (.ref a),some (.ref r),some (.ref nl),some (.ref cl)]/\ib t.cB t.bG H'' r ts n'/\fV H'' nl cl us'/\us'.length<=12/\bq H H''/\ts.length-n'<=j'/\res=nh j' us' (ts.drop n'),?_,?_⟩
      ·intro σ' H'';refine Xc λn' j' us'=>Xb λh1 h2 h3 h4 h5=>Xd λh6 h7 h8 h9=>?_;exact⟨ts.length-n',VX,WZ n' j' us' ⟨rfl,h3,h4,h5,h6,h7,h8,h9⟩⟩
      rw[nh,ah (by rw[hh];exact aj),gn]at e;refine⟨Ws er rfl,r,ts,n,44,by rw[Kk],VW,hR,?_⟩;cases hs:next (.sign 44) (ts.drop n)with
      |false=>
       rw[hs,ah aj]at e;rw[e]at q;rw[ah aj];exact ez.same q sH
      |true=>
       rw[hs,ao rfl]at e;rw[ao rfl];dsimp only at e;rw[b9]at e;intro H5 hR5 kp5;have k5:gc [r,nl,cl] H' H5:=kp5.s (by simp);have s5:bq H H5:=k5.same sH fS;have hV5:fV H5 nl cl us:=hV.kp hR kp5;refine⟨r,nl,cl,ts,n+1,us,rfl,hR5,hV5,bh ncl,hu,?_⟩;obtain⟨j',rfl⟩:∃j',j=j'+1:=⟨j-1,by have:=hR.lt;lia⟩;rw[pF]at e;cases hov5:lS us (ts.drop (n+1))with
       |error f=>
        rw[hov5]at e;rw[e]at q;exact ez.wide q s5 fS
       |ok p=>
        obtain⟨v6,l6⟩:=p;rw[hov5]at e;dsimp only at e;intro m6 H6 hm6 hR6 k6 hV6;obtain⟨z1,z2⟩:=Co hov5;have hlt6:=hR6.lt;rw[<-hm6,bU,bU]at z1;refine⟨m6,j',us++[v6],VX,hlt6,rfl,hR6,hV6,?_,k6.same s5 fS,VX,?_⟩
        ·rw[aE];show us.length+1<=12;lia
        ·rw[hm6];exact e
    ·rintro σ H' ⟨us,rfl,hV,sH,e⟩;rw[e]at q;dsimp only at q;refine kL rfl λx H7 nx hx s7=>?_;obtain⟨dx7,e7⟩:=hx;exact q x H7 ⟨dx7,nl,cl,e7,hV.same s7,fnl,fcl,bh ncl⟩ (sH.trans s7) (by
      cases e8:H x with
      |none=>rfl
      |some o=>
       rw[sH _ _ e8]at nx;cases nx)
end
end TS
namespace TM
noncomputable def idx:List Bool->Nat
 |[]=>0
 |b::r=>b.toNat*2^r.length+idx r
theorem ko:∀as:List Bool,idx as<2^as.length
 |[]=>VW
 |b::r=>by
  have h:=ko r;rw[idx,aT,dM];cases b
  ·simp only[f9];lia
  ·simp only[gO];lia
noncomputable def bitsOf:Nat->Nat->List Bool
 |0,_=>[]
 |n+1,p=>p.testBit n::bitsOf n (p%2^n)
theorem cJ:∀n p:Nat,(bitsOf n p).length=n
 |0,_=>rfl
 |n+1,p=>by rw[bitsOf,aT,cJ n]
theorem AL{n p:Nat}(h:p<2^(n+1)):(p.testBit n).toNat=p/2^n:=by
 rw[L7];have hp:0<2^n:=eS VW;have h2:p/2^n<2:=by
  rw[Nat.div_lt_iff_lt_mul hp];rw[dM]at h;lia
 generalize p/2^n=c at h2;have:c=0\/c=1:=VX;rcases this with e|e<;>rw[e]<;>rfl
theorem jf:∀{n p:Nat},p<2^n->idx (bitsOf n p)=p
 |0,p,h=>by
  have:p=0:=by simpa using h
  subst this;rfl
 |n+1,p,h=>by
  have hp:0<2^n:=eS VW;rw[bitsOf,idx,cJ,jf (JJ _ hp),AL h,Dd];exact Nat.div_add_mod p (2^n)
theorem oA:∀{as:List Bool}{i:Nat},i<as.length->(idx as).testBit (as.length-1-i)=as[i]?.getD false
 |[],i,h=>absurd h (by simp)
 |b::r,0,_=>by
  have h:=ko r;have e:(b::r).length-1-0=r.length:=by simp
  rw[e,idx,Dd,Q6 _ h];rw[ah (cV _),eO];cases b<;>rfl
 |b::r,i+1,h=>by
  have h':i<r.length:=by simpa using h
  have hl:=ko r;have e:(b::r).length-1-(i+1)=r.length-1-i:=by simp;lia
  rw[e,idx,Dd,Q6 _ hl];rw[ao VX];exact oA h'
theorem Bt:∀{as bs:List Bool},as.length=bs.length->idx as=idx bs->as=bs
 |[],[],_,_=>rfl
 |[],_::_,h,_=>by simp at h
 |_::_,[],h,_=>by simp at h
 |a::r,b::q,h,e=>by
  have h':r.length=q.length:=by simpa using h
  have h1:=ko r;have h2:=ko q;rw[idx,idx,h']at e;rw[h']at h1;have hab:a=b:=by
   cases a<;>cases b<;>simp only[f9,gO]at e<;>first|rfl|lia
  subst hab;rw[Bt h' VX]
theorem yN:∀{as:List Bool}{i:Nat}(b:Bool),i<as.length->idx (as.set i b)+(as[i]?.getD false).toNat*2^(as.length-1-i)=idx as+b.toNat*2^(as.length-1-i)
 |[],i,b,h=>absurd h (by simp)
 |a::r,0,b,_=>by
  have e:(a::r).length-1-0=r.length:=by simp
  rw[e];show b.toNat*2^r.length+idx r+a.toNat*2^r.length=a.toNat*2^r.length+idx r+b.toNat*2^r.length;lia
 |a::r,i+1,b,h=>by
  have h':i<r.length:=by simpa using h
  have ih:=yN b h';have e:(a::r).length-1-(i+1)=r.length-1-i:=by simp;lia
  rw[e];show a.toNat*2^(r.set i b).length+idx (r.set i b)+(r[i]?.getD false).toNat*2^(r.length-1-i)=a.toNat*2^r.length+idx r+b.toNat*2^(r.length-1-i);rw[ck];lia
structure cu(n:Nat)(f:List Bool->Bool)(t:Nat):Prop where
 lt:t<2^2^n
 at_:∀as:List Bool,as.length=n->t.testBit (idx as)=f as
theorem cu.congr{n:Nat}{f g:List Bool->Bool}{t:Nat}(h:cu n f t)(e:∀as:List Bool,as.length=n->f as=g as):cu n g t:=⟨h.lt,λas ha=>(h.at_ as ha).trans (e as ha)⟩
theorem rZ{t m p:Nat}(h:t<2^m)(hp:m<=p):t.testBit p=false:=De (aZ h (cZ VW hp))
theorem cu.and{n:Nat}{f g:List Bool->Bool}{t u:Nat}(h:cu n f t)(k:cu n g u):cu n (λas=>f as&&g as) (t&&&u):=
 ⟨nM _ k.lt,λas ha=>by rw[dE,h.at_ as ha,k.at_ as ha]⟩
theorem cu.or{n:Nat}{f g:List Bool->Bool}{t u:Nat}(h:cu n f t)(k:cu n g u):cu n (λas=>f as||g as) (t|||u):=
 ⟨jR h.lt k.lt,λas ha=>by rw[pO,h.at_ as ha,k.at_ as ha]⟩
theorem cu.xor{n:Nat}{f g:List Bool->Bool}{t u:Nat}(h:cu n f t)(k:cu n g u):cu n (λas=>f as^^g as) (t^^^u):=
 ⟨nO h.lt k.lt,λas ha=>by rw[mo,h.at_ as ha,k.at_ as ha]⟩
theorem xy(n:Nat):cu n (λ_=>true) (2^2^n-1):=by
 have hp:0<2^2^n:=eS VW;refine⟨VX,λas ha=>?_⟩;rw[vV,<-ha];exact au (ko as)
theorem Cp(n:Nat):cu n (λ_=>false) 0:=⟨eS VW,λas _=>Nat.zero_testBit _⟩
theorem cu.other{n:Nat}{f:List Bool->Bool}{t:Nat}(h:cu n f t):cu n (λas=>!f as) ((2^2^n-1)^^^t):=((xy n).xor h).congr λas _=>Bool.true_xor _
theorem cu.same{n:Nat}{f g:List Bool->Bool}{t u:Nat}(h:cu n f t)(k:cu n g u):cu n (λas=>f as==g as) ((2^2^n-1)^^^(t^^^u)):=(h.xor k).other.congr λas _=>by cases f as<;>cases g as<;>rfl
theorem cu.FK{n:Nat}{c f g:List Bool->Bool}{v t u:Nat}(h0:cu n c v)(h:cu n f t)(k:cu n g u):cu n (λas=>if c as=true then f as else g as) ((v&&&t)|||(((2^2^n-1)^^^v)&&&u)):=
 ((h0.and h).or (h0.other.and k)).congr λas _=>by cases c as<;>cases f as<;>cases g as<;>rfl
structure tm(n i t:Nat):Prop where
 lt:t<2^2^n
 at_:∀p,p<2^n->t.testBit p=p.testBit (n-1-i)
theorem tm.tab{n i t:Nat}(h:tm n i t)(hi:i<n):cu n (λas=>as[i]?.getD false) t:=⟨h.lt,λas ha=>by
 subst ha;rw[h.at_ _ (ko as),oA hi]⟩
theorem NL{k j t:Nat}(hk:k<j)(lt:t<2^2^j)(at_:∀p,p<2^j->t.testBit p=p.testBit k):
 (t|||t<<<2^j)<2^2^(j+1)/\∀p,p<2^(j+1)->(t|||t<<<2^j).testBit p=p.testBit k:=by
 have e2:2^(j+1)=2^j+2^j:=by rw[dM];lia
 constructor
 ·refine jR (aZ lt (cZ VW (by rw[e2];exact Nat.le_add_right _ _))) ?_;rw[OJ,e2,OO];exact Q7 lt (eS VW)
 ·intro p hp;rw[pO,gx];by_cases h:p<2^j
  ·rw[at_ p h,aQ VX,gr,Ah]
  ·have h':p-2^j<2^j:=by lia
   rw[rZ lt VX,at_ _ h',au VX,js,Ai];obtain⟨q,rfl⟩:∃q,p=2^j+q:=⟨p-2^j,VX⟩;rw[Nat.add_sub_cancel_left];rw[Nat.testBit_two_pow_add_gt (by lia:k<j)]
theorem Ln(k:Nat):((2^2^k-1)<<<2^k)<2^2^(k+1)/\∀p,p<2^(k+1)->((2^2^k-1)<<<2^k).testBit p=p.testBit k:=by
 have e2:2^(k+1)=2^k+2^k:=by rw[dM];lia
 have hp:0<2^2^k:=eS VW;constructor
 ·rw[OJ,e2,OO];exact Q7 VX hp
 ·intro p h;rw[gx,vV];have z:=AL h;have hk:0<2^k:=eS VW;by_cases h1:p<2^k
  ·rw[Nat.div_eq_of_lt h1]at z;rw[aQ VX,gr];cases e:p.testBit k
   ·rfl
   ·rw[e]at z;cases z
  ·have e:p/2^k=1:=by
    rw[Nat.div_eq_iff hk];lia
   rw[e]at z;rw[au VX,au VX,js];cases e:p.testBit k
   ·rw[e]at z;cases z
   ·rfl
theorem Bu{p k:Nat}:(p+2^k).testBit k=!p.testBit k:=by
 rw[L8];exact Nat.testBit_two_pow_add_eq p k
theorem NM{n k p:Nat}(hk:k<n)(hp:p<2^n)(h:p.testBit k=false):p+2^k<2^n:=by
 apply f7;intro hle;have h1:(p+2^k).testBit k=true:=by rw[Bu,h];rfl
 have hkn:2^k<=2^(n-1):=cZ VW VX;have e:2^n=2^(n-1)+2^(n-1):=by
  obtain⟨m,rfl⟩:∃m,n=m+1:=⟨n-1,VX⟩;rw[nP,dM];lia
 obtain⟨q,hq⟩:∃q,p+2^k=2^n+q:=⟨p+2^k-2^n,VX⟩;rw[hq,Nat.testBit_two_pow_add_gt hk]at h1;have hq2:q<2^k:=VX;rw[De hq2]at h1;cases h1
theorem Sf{k p:Nat}(h:p.testBit k=true):2^k<=p:=by
 apply sj;intro hl;rw[De hl]at h;cases h
theorem Bv{k p:Nat}(h:2^k<=p):(p-2^k).testBit k=!p.testBit k:=by
 obtain⟨q,rfl⟩:∃q,p=q+2^k:=⟨p-2^k,VX⟩;rw[nP,Bu,Bool.not_not]
theorem cu.Vf{n i:Nat}{f:List Bool->Bool}{t v:Nat}(h:cu n f t)(hv:tm n i v)(hi:i<n):cu n (λas=>f (as.set i true)) ((t&&&v)|||((t&&&v)>>>2^(n-1-i))):=by
 have hlt:t&&&v<2^2^n:=nM _ hv.lt;refine⟨jR hlt (cK (Nat.shiftRight_le _ _) hlt),λas ha=>?_⟩;subst ha;have hp:=ko as;have e:=yN true hi;rw[gO,fY]at e;have hb:=oA hi;rw[pO,Df,dE,dE,hv.at_ _ hp,hb];cases hc:as[i]?.getD false with
 |true=>
  rw[hc]at e hb;rw[gO,fY]at e;have z:v.testBit (2^(as.length-1-i)+idx as)=false:=by
   by_cases hl:2^(as.length-1-i)+idx as<2^as.length
   ·rw[hv.at_ _ hl,L8,Bu,hb];rfl
   ·exact rZ hv.lt VX
  rw[z,kz,Ah,tD,<-h.at_ _ (by rw[ck])];rw[show idx (as.set i true)=idx as by lia]
 |false=>
  rw[hc]at e hb;rw[f9,vW,pM]at e;have hl:=NM VX hp hb;rw[L8 (2^(as.length-1-i)),hv.at_ _ hl,Bu,hb,kz,Ai,F6,tD,<-e];exact h.at_ _ (by rw[ck])
theorem cu.Vg{n i:Nat}{f:List Bool->Bool}{t v:Nat}(h:cu n f t)(hv:tm n i v)(hi:i<n):cu n (λas=>f (as.set i false)) ((t^^^(t&&&v))|||((t^^^(t&&&v))<<<2^(n-1-i))):=by
 have hlt:t^^^(t&&&v)<2^2^n:=nO h.lt (nM _ hv.lt);have hw:∀p,p<2^n->(t^^^(t&&&v)).testBit p=(t.testBit p&&!p.testBit (n-1-i)):=λp hp=>by
  rw[mo,dE,hv.at_ _ hp];cases t.testBit p<;>cases p.testBit (n-1-i)<;>rfl
 have hk:n-1-i<n:=VX;refine⟨jR hlt (Nat.lt_pow_two_of_testBit _ λp hp=>?_),λas ha=>?_⟩
 ·rw[gx];by_cases h1:2^(n-1-i)<=p
  ·rw[au h1,js];by_cases h2:p-2^(n-1-i)<2^n
   ·rw[hw _ h2,Bv h1,Bool.not_not];cases hb:p.testBit (n-1-i)
    ·rw[kz]
    ·have:=NM hk h2 (by rw[Bv h1,hb];rfl);lia
   ·exact rZ hlt VX
  ·rw[aQ h1,gr]
 ·subst ha;have hp:=ko as;have e:=yN false hi;rw[f9,vW,pM]at e;have hb:=oA hi;rw[pO,gx,hw _ hp,hb];cases hc:as[i]?.getD false with
  |true=>
   rw[hc]at e hb;rw[gO,fY]at e;have hge:=Sf hb;rw[hw _ (cK (Nat.sub_le _ _) hp),Bv hge,hb,au hge,js,Bool.not_true,F6,kz,Ai,tD];rw[<-h.at_ _ (by rw[ck])];rw[show idx (as.set i false)=idx as-2^(as.length-1-i) by lia]
  |false=>
   rw[hc]at e hb;rw[f9,vW,pM]at e;have z:(decide (2^(as.length-1-i)<=idx as)&&(t^^^(t&&&v)).testBit (idx as-2^(as.length-1-i)))=false:=by
    by_cases h1:2^(as.length-1-i)<=idx as
    ·rw[hw _ (cK (Nat.sub_le _ _) hp),Bv h1,hb];simp
    ·rw[aQ h1,gr]
   rw[z,Ah,F6,tD,<-h.at_ _ (by rw[ck]),e]
theorem Cq:∀(n a b:Nat),a<=n->(a|||b)=(a^^^b)+(a&&&b)
 |0,a,b,h=>by
  have:a=0:=VX;subst this;simp
 |n+1,a,b,h=>by
  by_cases h0:a=0
  ·subst h0;simp
  ·have ih:=Cq n (a/2) (b/2) VX;have d1:(a|||b)/2=a/2|||b/2:=Nat.or_div_two;have d2:(a^^^b)/2=a/2^^^b/2:=Nat.xor_div_two;have d3:(a&&&b)/2=a/2&&&b/2:=Nat.and_div_two;have m1:(a|||b)%2=(a^^^b)%2+(a&&&b)%2:=by
    have e1:(a|||b)%2=(a%2)|||(b%2):=Nat.or_mod_two_pow (n:=1);have e2:(a^^^b)%2=(a%2)^^^(b%2):=Nat.xor_mod_two_pow (n:=1);have e3:(a&&&b)%2=(a%2)&&&(b%2):=Nat.and_mod_two_pow (n:=1);rw[e1,e2,e3];have h1:a%2=0\/a%2=1:=VX;have h2:b%2=0\/b%2=1:=VX;rcases h1 with h1|h1<;>rcases h2 with h2|h2<;>rw[h1,h2]<;>rfl
   lia
end TM
namespace L2
open PySem PySem.Spec PyProof.Rows
theorem Cr(a b:Nat):Builtin.bitAnd (a:Int) (b:Int)=((a&&&b:Nat):Int):=by
 unfold Builtin.bitAnd;rw[au (show(0:Int)<=a by lia),au (show(0:Int)<=b by lia)];rfl
theorem EC(a b:Nat):Builtin.bitOr (a:Int) (b:Int)=((a|||b:Nat):Int):=by
 unfold Builtin.bitOr Builtin.bitAnd;have h:∀n:Nat,decide ((0:Int)<=Builtin.bitNot n)=false:=λn=>aQ (by unfold Builtin.bitNot;lia);have h2:∀z:Int,Builtin.bitNot (Builtin.bitNot z)=z:=λz=>by unfold Builtin.bitNot;lia
 rw[h a,h b];dsimp only;rw[h2,h2,h2];rfl
theorem Jd(a b:Nat):Builtin.bitXor (a:Int) (b:Int)=((a^^^b:Nat):Int):=by
 unfold Builtin.bitXor;rw[EC,Cr,TM.Cq a a b (aH _)];lia
theorem PK(a k:Nat):(a:Int)*2^(k:Int).toNat=((a<<<k:Nat):Int):=by
 rw[OJ,bc];simp
theorem PL(a k:Nat):(a:Int)/2^(k:Int).toNat=((a>>>k:Nat):Int):=by
 rw[zc,bc];simp
theorem iw{X:Cx}:qT X (binaryOp .LShift) (λx y H Q=>∃a k:Nat,x= .int a/\y= .int k/\a<2^100000/\k<=100000/\Q (.int (a<<<k:Nat)) H):=by
 intro pins s σ H x y v u Q I rx ry h;obtain⟨a,k,rfl,rfl,ha,hk,q⟩:=h;refine(S2 (λi j _ _ _ _ _ hc q=>lshift_int hc.1 hc.2 q):qT X (binaryOp .LShift) (rI (λi j=>0<=j/\(Builtin.Int.intBits i:Int)+j<=2^27) λi j=>.int (i*2^j.toNat))) pins s σ H _ _ v u Q I rx ry ⟨_,_,rfl,rfl,⟨VX,?_⟩,?_⟩
 ·have:Builtin.Int.intBits (a:Int)<=100000:=by
   unfold Builtin.Int.intBits;split
   ·lia
   ·rename_i h0;rw[ji];have:a≠0:=λz=>h0 (by rw[z];rfl);exact(Nat.log2_lt this).mpr ha
  lia
 ·dsimp only;rw[PK];exact q
def rN(g:Nat->Nat->Nat):R2:=λx y H Q=>∃a b:Nat,x= .int a/\y= .int b/\Q (.int (g a b:Nat)) H
theorem iU{X:Cx}:qT X (binaryOp .BitAnd) (rN λa b=>a&&&b):=by
 intro pins s σ H x y v u Q I rx ry h;obtain⟨a,b,rfl,rfl,q⟩:=h;exact Mp pins s σ H _ _ v u Q I rx ry ⟨_,_,rfl,rfl,by dsimp only;rw[Cr];exact q⟩
theorem pG{X:Cx}:qT X (binaryOp .BitOr) (rN λa b=>a|||b):=by
 intro pins s σ H x y v u Q I rx ry h;obtain⟨a,b,rfl,rfl,q⟩:=h;exact S3 pins s σ H _ _ v u Q I rx ry ⟨_,_,rfl,rfl,by dsimp only;rw[EC];exact q⟩
theorem r8{X:Cx}:qT X (binaryOp .BitXor) (rN λa b=>a^^^b):=by
 intro pins s σ H x y v u Q I rx ry h;obtain⟨a,b,rfl,rfl,q⟩:=h;exact Rt pins s σ H _ _ v u Q I rx ry ⟨_,_,rfl,rfl,by dsimp only;rw[Jd];exact q⟩
theorem Bw{X:Cx}:qT X (binaryOp .RShift) (rN λa b=>a>>>b):=by
 intro pins s σ H x y v u Q I rx ry h;obtain⟨a,b,rfl,rfl,q⟩:=h;exact Rr pins s σ H _ _ v u Q I rx ry ⟨_,_,rfl,rfl,VX,by dsimp only;rw[PL];exact q⟩
end L2
namespace TS
open PySem PySem.Spec PyProof.Rows L2 TM
theorem r9:(1:Nat)<2^100000:=Nat.one_lt_two_pow VW
theorem qH{n:Nat}(hn:n<=12):2^n<=4096:=(cZ VW hn:2^n<=2^12)
theorem FL{t n:Nat}(hn:n<=12)(h:t<2^2^n):t<2^100000:=aZ h (cZ VW (be (qH hn) VW))
def Sg:Sp:=λvs H Q _=>∃k:Nat,vs=[.int k]/\k<=100000/\Q (.int (2^k-1:Nat)) H
def Je:Sp:=λvs H Q _=>∃n i:Nat,vs=[.int n,.int i]/\i<n/\n<=12/\∀tb:Nat,tm n i tb->Q (.int tb) H
section
include T
theorem FN:dQ P w K mg base 1 t.ones ["width"] Sg:=by
 refine T.Nj.ok Px (λvs H Q E h=>?_) (λcdv A outer s H vs Q E hr h=>?_)
 ·obtain⟨k,rfl,_⟩:=h;rfl
 ·obtain⟨k,rfl,hk,q⟩:=h;refine⟨_,(az (aX (bI fO.j (bI iw aK (Wo 0)) aK))),?_⟩;refine⟨1,k,rfl,rfl,r9,hk,?_⟩;rw[eP];have hp:0<2^k:=eS VW;have e:((2^k:Nat):Int)-1=((2^k-1:Nat):Int):=VX;show Q (.int (((2^k:Nat):Int)-1)) H;rw[e];exact q
theorem yO:dQ P w K mg base 2 t.mU ["count","variable"] Je:=by
 refine T.qp.ok eJ (λvs H Q E h=>?_) (λcdv A outer s H vs Q E hr h=>?_)
 ·obtain⟨n,i,rfl,_⟩:=h;rfl
 ·obtain⟨n,i,rfl,hi,hn,q⟩:=h;refine⟨_,(ag (a9 (i:=2) eJ.nd rfl (Or.inl rfl) (bI iw aK (bI fO.j (bI fO.j (Wo 0) aK) (Wo 1)))) (ag (a9 (i:=3) eJ.nd rfl (Or.inl rfl) (bI iw (cH (FN T) T.Fu (hr.mono VW) bF (aa (Wo 2) ai)) (Wo 2))) (ag (a9 (i:=4) eJ.nd rfl (Or.inl rfl) (bI tU aK (Wo 2))) (ag (d5 (gy bN (Wv kK.j (Wo 4) (bI iw aK (Wo 0)) (bu _)) (ag (a9 (i:=3) eJ.nd rfl (Or.inl rfl) (bI pG (Wo 3) (bI iw (Wo 3) (Wo 4)))) (az (a9 (i:=4) eJ.nd rfl (Or.inl rfl) (bI tU aK (Wo 4))))))) (az (aX (Wo 3))))))),?_⟩;have hk12:n-1-i<=11:=VX;have hb:2^(n-1-i)<=4096:=qH VX;refine⟨1,n-1-i,rfl,bJ V.int VX,r9,VX,?_⟩;rw[eP];refine⟨2^(n-1-i),rfl,VX,_,_,rfl,rfl,FL (n:=n-1-i) VX (by have:=eS (n:=2^(n-1-i)) (a:=2) VW;lia),VX,?_⟩;refine⟨_,_,rfl,rfl,.inl ⟨VW,VW⟩,?_⟩;obtain⟨v1,v2⟩:=Ln (n-1-i);refine⟨λσ H'=>∃(tb:Nat)(a b c d:Option V),σ=[a,b,c,some (.int tb),d]/\H'=H/\tm n i tb,⟨λm σ H'=>∃j tb:Nat,m=n-j/\σ=[some (.int n),some (.int i),some (.int (2^(n-1-i):Nat)),some (.int tb),some (.int (2^j:Nat))]/\H'=H/\n-1-i<j/\j<=n/\tb<2^2^j/\∀p,p<2^j->tb.testBit p=p.testBit (n-1-i),⟨_,n-1-i+1,_,rfl,?_,rfl,VX,VX,v1,v2⟩,?_⟩,?_⟩
  ·have e:(2:Int)*((2^(n-1-i):Nat):Int)=((2^(n-1-i+1):Nat):Int):=by rw[dM];lia
   show([_,_,_,_,some (V.int ((2:Int)*((2^(n-1-i):Nat):Int)))]:L2.St)=_;rw[e]
  ·intro m σ H';refine W6 λj tb=>Xb λe0_ e1_ e2_ hj hjn=>W9 λhlt hat=>?_;subst e0_;subst e1_;subst e2_;have hbj:2^j<=4096:=qH VX;refine⟨1,n,rfl,rfl,r9,VX,?_⟩;rw[eP];refine c6 (λh1=>?_) λh1=>?_
   ·have h1':2^j<2^n:=by
     have z:=aD h1;lia
    have hjl:j<n:=(Nat.pow_lt_pow_iff_right VW).mp h1';obtain⟨u1,u2⟩:=NL hj hlt hat;refine⟨λσ' H''=>∃j' tb:Nat,n-j'<n-j/\σ'=[some (.int n),some (.int i),some (.int (2^(n-1-i):Nat)),some (.int tb),some (.int (2^j':Nat))]/\H''=H'/\n-1-i<j'/\j'<=n/\tb<2^2^j'/\∀p,p<2^j'->tb.testBit p=p.testBit (n-1-i),?_,?_⟩
    ·intro σ' H'';refine W6 λj' tb'=>Xb λz z1 z2 z3 z4=>W9 λz5 z6=>?_;exact⟨_,z,j',tb',rfl,z1,z2,z3,z4,z5,z6⟩
    refine⟨tb,2^j,rfl,rfl,FL VX hlt,VX,_,_,rfl,rfl,?_⟩;refine⟨_,_,rfl,rfl,.inl ⟨VW,VW⟩,j+1,_,VX,?_,rfl,VX,VX,u1,u2⟩;have e:(2:Int)*((2^j:Nat):Int)=((2^(j+1):Nat):Int):=by rw[dM];lia
    show([_,_,_,_,some (V.int ((2:Int)*((2^j:Nat):Int)))]:L2.St)=_;rw[e]
   ·have h1':¬(2^j<2^n):=λz=>h1 (au VX);have hjl:¬j<n:=λz=>h1' (F7 VW z);have:j=n:=VX;subst this;exact⟨tb,_,_,_,_,rfl,rfl,hlt,hat⟩
  ·rintro σ H' ⟨tb,a,b,c,d,rfl,rfl,hv⟩;exact q tb hv
end
noncomputable def vc(n:Nat):Nat:=2^2^n-1
noncomputable def Lo(n:Nat)(vl:Addr):List (Str×V):=[("count",.int n),("full",.int (vc n:Nat)),("variable_tables",.ref vl)]
structure PM(n:Nat)(H:Hp)(vl:Addr)(vts:List Nat):Prop where
 at_:H vl=some (.lst (vts.map λv=>V.int (v:Nat)))
 len:vts.length=n
 ok:∀(i v:Nat),vts[i]?=some v->tm n i v
structure nj(CS:Addr)(H:Hp)(x:Addr)(n:Nat):Prop where
 ex:∃dx vl vts,H x=some (.ins CS dx (Lo n vl))/\PM n H vl vts
 le:n<=12
theorem nj.same{CS:Addr}{H H':Hp}{x:Addr}{n:Nat}(h:nj CS H x n)(s:bq H H'):nj CS H' x n:=
 let⟨dx,vl,vts,e,v⟩:=h.ex
 ⟨(WZ dx vl vts ⟨s _ _ e,s _ _ v.at_,v.len,v.ok⟩),h.le⟩
theorem _root_.L2.bq.no{H H':Hp}{b:Addr}(s:bq H H')(h:H' b=none):H b=none:=by
 cases e:H b with
 |none=>rfl
 |some o=>
  rw[s b o e]at h;cases h
theorem Kp.no{x b:Addr}{H H':Hp}(k:Kp x H H')(h:H' b=none)(n:b≠x):H b=none:=by
 cases e:H b with
 |none=>rfl
 |some o=>
  rw[k b o e n]at h;cases h
def G9(CS:Addr):Sp:=λvs H Q _=>∃(x dx:Addr)(n:Nat),vs=[.ref x,.int n]/\H x=some (.ins CS dx [])/\n<=12/\∀vl H',H vl=none->(∃dx,H' x=some (.ins CS dx (Lo n vl)))->(∃vts,PM n H' vl vts)->Kp x H H'->Q .gb H'
def PN(CS:Addr):Sp:=λvs H Q _=>∃(x:Addr)(n a:Nat),vs=[.ref x,.int a]/\nj CS H x n/\Q (.int (vc n^^^a:Nat)) H
def Sh(CS:Addr):Sp:=λvs H Q _=>∃(x:Addr)(n a b:Nat),vs=[.ref x,.int a,.int b]/\nj CS H x n/\Q (.int (vc n^^^(a^^^b):Nat)) H
def NN(CS:Addr):Sp:=λvs H Q _=>∃(x:Addr)(n c a b:Nat),vs=[.ref x,.int c,.int a,.int b]/\nj CS H x n/\Q (.int ((c&&&a)|||((vc n^^^c)&&&b):Nat)) H
def PQ(CS:Addr):Sp:=λvs H Q _=>∃(x:Addr)(n a i:Nat)(b:Bool)(f:List Bool->Bool),vs=[.ref x,.int a,.int i,.int b.toNat]/\nj CS H x n/\i<n/\cu n f a/\∀u:Nat,cu n (λas=>f (as.set i b)) u->Q (.int u) H
section
include T
theorem DE:dQ P w K mg base 3 t.xn ["self","count"] (G9 t.b8):=by
 refine T.yx.ok oX (λvs H Q E h=>?_) (λcdv A outer s H vs Q E hr h=>?_)
 ·obtain⟨x,dx,n,rfl,_⟩:=h;rfl
 ·obtain⟨x,dx,n,rfl,hx,hn,q⟩:=h;refine⟨_,(ag (dz (Wo 0) (Wo 1) rfl) (ag (dz (Wo 0) (cH (FN T) T.Fu (hr.mono VW) bF (aa (bI iw aK (Wo 1)) ai)) rfl) (az (dz (Wo 0) (D6 (own:=[("variable",2)]) rfl oX.nd (zo rfl T.zI (aa (Wo 1) ai)) (show t6 ["self","count","variable"] (aI l9) _ _ from⟨rfl,VY,VY,VY,VY⟩) (λ_ _ _ _ _=>fu (i:=2) oX.nd rfl (Or.inl rfl)) (λ_ _ _ _ _=>xT) (λ_ _ _ _ _=>(cH (yO T) T.qr (hr.mono VW) bF (aa (Wo 1) (aa (Wo 2) ai))))) rfl)))),?_⟩;have hb:2^n<=4096:=qH hn;refine WY x t.b8 dx _ ⟨rfl,hx,T.bg.cl,T.bg.no _ VW,(by show 0<1000;decide),?_⟩;refine⟨1,n,rfl,rfl,r9,VX,2^n,by rw[eP],VX,WY x t.b8 dx _ ⟨rfl,aC,T.bg.cl,T.bg.no _ VW,(by show 1<1000;decide),?_⟩⟩;have kp1:Kp x H (upd (upd H x (.ins t.b8 dx (eG "count" (.int n) []))) x (.ins t.b8 dx (eG "full" (.int (2^2^n-1:Nat)) (eG "count" (.int n) [])))):=λb o e nb=>ak (ak e nb) nb;have ex1:upd (upd H x (.ins t.b8 dx (eG "count" (.int n) []))) x (.ins t.b8 dx (eG "full" (.int (2^2^n-1:Nat)) (eG "count" (.int n) []))) x=some (.ins t.b8 dx [("count",.int n),("full",.int (vc n:Nat))]):=aC;revert kp1 ex1;generalize upd (upd H x (.ins t.b8 dx (eG "count" (.int n) []))) x (.ins t.b8 dx (eG "full" (.int (2^2^n-1:Nat)) (eG "count" (.int n) [])))=H1;intro kp1 ex1;refine⟨n,rfl,VX,VX,λD nD=>?_⟩;have nDx:x≠D:=aq ex1 nD;refine⟨λi m H'=>∃vts:List Nat,m=n-i/\i<=n/\H' D=some (.lst (vts.map λv=>V.int (v:Nat)))/\vts.length=i/\(∀(j v:Nat),vts[j]?=some v->tm n j v)/\bq H1 H',⟨_,[],rfl,br _,aC,rfl,λj v h=>(nomatch h),λb o e=>ak e (aq e nD)⟩,?_⟩;rintro i m H' ⟨vts,rfl,hi,hD,hl,hv,sm⟩;by_cases hin:i=n
  ·subst hin;refine .inl ⟨gR (bc i),WY x t.b8 dx _ ⟨rfl,sm _ _ ex1,T.bg.cl,T.bg.no _ VW,(by show 2<1000;decide),?_⟩⟩;refine q D _ (kp1.no nD (bh nDx)) ⟨dx,aC⟩ ⟨vts,ak hD (bh nDx),hl,hv⟩ ?_;exact λb o e nb=>ak (sm _ _ (kp1 b o e nb)) nb
  ·refine .inr ⟨(by show i<(n:Int).toNat;lia),λH''=>∃vts:List Nat,H'' D=some (.lst (vts.map λv=>V.int (v:Nat)))/\vts.length=i+1/\(∀(j v:Nat),vts[j]?=some v->tm n j v)/\bq H1 H'',?_,?_⟩
   ·rintro H'' ⟨vts',z1,z2,z3,z4⟩;exact⟨n-(i+1),VX,vts',rfl,VX,z1,z2,z3,z4⟩
   ·rintro y H'' ⟨rfl,rfl⟩;refine⟨rfl,?_⟩;unfold KU;show(if true=true then _ else _);rw[ao rfl];refine⟨n,i,?_,VX,hn,λtb htb=>⟨_,hD,?_,vts++[tb],?_,?_,?_,?_⟩⟩
    ·show[V.int (n:Int),V.int ((0:Int)+(i:Int))]=_;rw[Int.zero_add]
    ·rw[ay,aM];lia
    ·rw[aC,cb];rfl
    ·rw[aE,hl];rfl
    ·intro j v h;by_cases hj:j<vts.length
     ·rw[bO hj]at h;exact hv j v h
     ·have e:j=i:=by
       have:=(List.getElem?_eq_some_iff.mp h).1;rw[aE]at this;simp at this;lia
      subst e;rw[bA VX,hl,eO]at h;cases h;exact htb
    ·exact λb o e=>ak (sm b o e) (aq e nD)
theorem ie:dQ P w K mg base 1 t.uC ["self","table"] (PN t.b8):=by
 refine T.wI.ok B3 (λvs H Q E h=>?_) (λcdv A outer s H vs Q E hr h=>?_)
 ·obtain⟨x,n,a,rfl,_⟩:=h;rfl
 ·obtain⟨x,n,a,rfl,hS,q⟩:=h;obtain⟨dx,vl,vts,ex,hV⟩:=hS.ex;refine⟨_,(az (aX (bI r8 (Wp K (Wo 0) rfl) (Wo 1)))),?_⟩;exact⟨_,Wq ex T.bg.cl (T.bg.no _ VW) rfl,_,a,rfl,rfl,q⟩
theorem DF:dQ P w K mg base 2 t.xo ["self","first","second"] (Sh t.b8):=by
 refine T.yy.ok DC (λvs H Q E h=>?_) (λcdv A outer s H vs Q E hr h=>?_)
 ·obtain⟨x,n,a,b,rfl,_⟩:=h;rfl
 ·obtain⟨x,n,a,b,rfl,hS,q⟩:=h;obtain⟨dx,vl,vts,ex,hV⟩:=hS.ex;refine⟨_,(az (aX (bR (ie T) T.bg.cl T.gF (hr.mono VW) bF (Wo 0) (aa (bI r8 (Wo 1) (Wo 2)) ai)))),?_⟩;exact⟨Ws ex rfl,a,b,rfl,rfl,WZ x n _ ⟨rfl,hS,q⟩⟩
theorem iV:dQ P w K mg base 2 t.rQ ["self","asked","yes","no"] (NN t.b8):=by
 refine T.uW.ok AY (λvs H Q E h=>?_) (λcdv A outer s H vs Q E hr h=>?_)
 ·obtain⟨x,n,c,a,b,rfl,_⟩:=h;rfl
 ·obtain⟨x,n,c,a,b,rfl,hS,q⟩:=h;obtain⟨dx,vl,vts,ex,hV⟩:=hS.ex;refine⟨_,(az (aX (bI pG (bI iU (Wo 1) (Wo 2)) (bI iU (bR (ie T) T.bg.cl T.gF (hr.mono VW) bF (Wo 0) (aa (Wo 1) ai)) (Wo 3))))),?_⟩;exact⟨c,a,rfl,rfl,Ws ex rfl,WZ x n c ⟨rfl,hS,_,b,rfl,rfl,_,_,rfl,rfl,q⟩⟩
theorem fj:dQ P w K mg base 1 t.uD ["self","table","variable","truth"] (PQ t.b8):=by
 refine T.wJ.ok jy (λvs H Q E h=>?_) (λcdv A outer s H vs Q E hr h=>?_)
 ·obtain⟨x,n,a,i,b,f,rfl,_⟩:=h;rfl
 ·obtain⟨x,n,a,i,b,f,rfl,hS,hi,hf,q⟩:=h;obtain⟨dx,vl,vts,ex,hV⟩:=hS.ex;have hn:=hS.le;obtain⟨v,hv⟩:∃v,vts[i]?=some v:=⟨_,af (by rw[hV.len];exact hi)⟩;have hvar:=hV.ok i v hv;have hb:2^(n-1-i)<=4096:=qH VX;refine⟨_,(ag (a9 (i:=4) jy.nd rfl (Or.inl rfl) (bI iw aK (bI fO.j (bI fO.j (Wp K (Wo 0) rfl) aK) (Wo 2)))) (ag (a9 (i:=5) jy.nd rfl (Or.inl rfl) (bI iU (Wo 1) (bp (Wr K) (Wp K (Wo 0) rfl) (Wo 2) (λ_ _=>rfl)))) (ag (cj (Wv cQ (Wo 3) aK (bu _)) (az (aX (bI pG (Wo 5) (bI Bw (Wo 5) (Wo 4))))) bo) (ag (a9 (i:=6) jy.nd rfl (Or.inl rfl) (bI r8 (Wo 1) (Wo 5))) (az (aX (bI pG (Wo 6) (bI iw (Wo 6) (Wo 4))))))))),?_⟩;refine⟨_,Wq ex T.bg.cl (T.bg.no _ VW) rfl,1,n-1-i,rfl,bJ V.int VX,r9,VX,?_⟩;rw[eP];refine⟨_,Wq ex T.bg.cl (T.bg.no _ VW) rfl,V.int (v:Nat),Wt (cN.of hV.at_) (cx (by rw[aR,hv];rfl)),a,v,rfl,rfl,?_⟩;refine⟨rfl,?_⟩;cases b with
  |true=>exact d4 ⟨_,_,rfl,rfl,_,_,rfl,rfl,q _ (hf.Vf hvar hi)⟩
  |false=>
   have hlt:a^^^(a&&&v)<2^2^n:=nO hf.lt (nM _ hvar.lt);exact cq ⟨_,_,rfl,rfl,_,_,rfl,rfl,FL hn hlt,VX,_,_,rfl,rfl,q _ (hf.Vg hvar hi)⟩
end
end TS
namespace TM
open VaprbBase (Bytes Toks PTok here next takeSign RESERVED word wrong)
open Vaprbg (Var Form takeForm takeTwo)
abbrev Rd(α:Type):=Except VaprbBase.Fault (α×Toks)
noncomputable def arity(w:Bytes):Nat:=if w=word "not"then 1 else if w=word "and"then 2 else if w=word "or"then 2 else if w=word "eq"then 2 else if w=word "if"then 3 else 0
noncomputable def Lp(fs:List Form)(i:Nat):Form:=fs.getD i (.const false)
noncomputable def combine(w:Bytes)(fs:List Form):Form:=
 if w=word "not"then .not (Lp fs 0)else if w=word "and"then .and (Lp fs 0) (Lp fs 1)else if w=word "or"then .or (Lp fs 0) (Lp fs 1)
 else if w=word "eq"then .eq (Lp fs 0) (Lp fs 1)else .cond (Lp fs 0) (Lp fs 1) (Lp fs 2)
noncomputable def takeMore(form:Toks->Rd Form):Nat->List Form->Toks->Rd (List Form)
 |0,fs,l=>match takeSign 41 l with
  | .error f=>.error f
  | .ok l=>.ok (fs,l)
 |c+1,fs,l=>match takeSign 44 l with
  | .error f=>.error f
  | .ok l=>(match form l with
    | .error f=>.error f
    | .ok (a,l)=>takeMore form c (fs++[a]) l)
noncomputable def iy(form:Toks->Rd Form)(c:Nat)(l:Toks):Rd (List Form):=match takeSign 40 l with
 | .error f=>.error f
 | .ok l=>(match form l with
   | .error f=>.error f
   | .ok (a,l)=>takeMore form (c-1) [a] l)
noncomputable def lT(w:Bytes)(r:Toks):Bool:=decide (w=word "if")||(decide (arity w≠0)&&next (.sign 40) r)
noncomputable def named(us:List Var)(p:Nat)(w:Bytes)(r:Toks):Rd Form:=
 if RESERVED.contains w=true\/next (.sign 40) r=true then .error ⟨3,p⟩else match us.findIdx? λv=>v.name==w with
  |some i=>.ok (.var i,r)
  |none=>.error ⟨6,p⟩
noncomputable def Jf(us:List Var)(lv:Nat)(p:Nat)(w:Bytes)(r:Toks):Rd Form:=
 if lT w r=true then(match iy (takeForm us lv) (arity w) r with
  | .error f=>.error f
  | .ok (fs,l)=>.ok (combine w fs,l))
 else if w=word "true"then .ok (.const true,r)else if w=word "false"then .ok (.const false,r)else named us p w r
theorem zQ(form:Toks->Rd Form)(l:Toks)(g:Form->Form->Form)(w:Bytes)(hg:∀a b,combine w [a,b]=g a b):
 ((takeTwo form l).map λx=>(g x.1.1 x.1.2,x.2))=(match iy form 2 l with
   | .error f=>.error f
   | .ok (fs,l)=>.ok (combine w fs,l)):=by
 unfold takeTwo iy;simp only[bind,Except.bind,takeMore];cases takeSign 40 l with
 |error f=>rfl
 |ok l1=>
  dsimp only;cases form l1 with
  |error f=>rfl
  |ok p=>
   obtain⟨a,l2⟩:=p;dsimp only;cases takeSign 44 l2 with
   |error f=>rfl
   |ok l3=>
    dsimp only;cases form l3 with
    |error f=>rfl
    |ok p=>
     obtain⟨b,l4⟩:=p;dsimp only;cases takeSign 41 l4 with
     |error f=>rfl
     |ok l5=>
      show Except.ok (g a b,l5)=Except.ok (combine w [a,b],l5);rw[hg]
theorem DG(us:List Var)(lv:Nat)(k:PTok)(r:Toks):takeForm us (lv+1) (k::r)=match k.tok with
 | .name w=>Jf us lv k.place w r
 |_=>.error ⟨3,k.place⟩:=by
 obtain⟨p,k⟩:=k;cases k with
 |num z=>rfl
 |sign z=>rfl
 |halt_=>rfl
 |name w=>
  rw[takeForm];dsimp only;unfold Jf;by_cases h1:w=word "true"
  ·have e:lT w r=false:=by subst h1;rfl
   rw[ao h1,e,ah aj,ao h1]
  rw[ah h1];by_cases h2:w=word "false"
  ·have e:lT w r=false:=by subst h2;rfl
   rw[ao h2,e,ah aj,ah h1,ao h2]
  rw[ah h2];by_cases h3:w=word "if"
  ·have e:lT w r=true:=by subst h3;rfl
   have ea:arity w=3:=by subst h3;rfl
   have ec:∀a b c,combine w [a,b,c]= .cond a b c:=by subst h3;intros;rfl
   rw[ao h3,e,ao rfl,ea];unfold iy;simp only[bind,Except.bind,takeMore];cases takeSign 40 r with
   |error f=>rfl
   |ok l1=>
    dsimp only;cases takeForm us lv l1 with
    |error f=>rfl
    |ok q=>
     obtain⟨a,l2⟩:=q;dsimp only;cases takeSign 44 l2 with
     |error f=>rfl
     |ok l3=>
      dsimp only;cases takeForm us lv l3 with
      |error f=>rfl
      |ok q=>
       obtain⟨b,l4⟩:=q;dsimp only;cases takeSign 44 l4 with
       |error f=>rfl
       |ok l5=>
        dsimp only;cases takeForm us lv l5 with
        |error f=>rfl
        |ok q=>
         obtain⟨c,l6⟩:=q;dsimp only;cases takeSign 41 l6 with
         |error f=>rfl
         |ok l7=>
          show Except.ok (Form.cond a b c,l7)=Except.ok (combine w [a,b,c],l7);rw[ec]
  rw[ah h3];have ei:lT w r=(decide (arity w≠0)&&next (.sign 40) r):=by unfold lT;rw[aQ h3,Ai]
  rw[ei];by_cases h4:RESERVED.contains w=true
  ·have ea:arity w=0:=by
    unfold arity;rw[ah (λz=>by rw[z]at h4;revert h4;decide),ah (λz=>by rw[z]at h4;revert h4;decide),ah (λz=>by rw[z]at h4;revert h4;decide),ah (λz=>by rw[z]at h4;revert h4;decide),ah h3]
   rw[ao h4,ea];show _=(if false=true then _ else _);rw[ah aj,ah h1,ah h2,named,ao (.inl h4)];rfl
  rw[ah h4];cases hn:next (.sign 40) r with
  |false=>
   rw[ah aj,kz,ah aj,ah h1,ah h2,named,ah (λz=>z.elim h4 (by rw[hn];exact aj))];cases List.findIdx? (λv:Var=>v.name==w) us<;>rfl
  |true=>
   rw[ao rfl,tD];by_cases g1:w=word "not"
   ·have ea:arity w=1:=by subst g1;rfl
    have ec:∀a,combine w [a]= .not a:=by subst g1;intros;rfl
    rw[ao g1,ea];show _=(if true=true then _ else _);rw[ao rfl];unfold iy;simp only[bind,Except.bind,eO,takeMore];cases takeSign 40 r with
    |error f=>rfl
    |ok l1=>
     dsimp only;cases takeForm us lv l1 with
     |error f=>rfl
     |ok q=>
      obtain⟨a,l2⟩:=q;dsimp only;cases takeSign 41 l2 with
      |error f=>rfl
      |ok l3=>
       show Except.ok (Form.not a,l3)=Except.ok (combine w [a],l3);rw[ec]
   rw[ah g1];by_cases g2:w=word "and"
   ·have ea:arity w=2:=by subst g2;rfl
    rw[ao g2,ea];show _=(if true=true then _ else _);rw[ao rfl];exact zQ _ _ _ w (by subst g2;intros;rfl)
   rw[ah g2];by_cases g3:w=word "or"
   ·have ea:arity w=2:=by subst g3;rfl
    rw[ao g3,ea];show _=(if true=true then _ else _);rw[ao rfl];exact zQ _ _ _ w (by subst g3;intros;rfl)
   rw[ah g3];by_cases g4:w=word "eq"
   ·have ea:arity w=2:=by subst g4;rfl
    rw[ao g4,ea];show _=(if true=true then _ else _);rw[ao rfl];exact zQ _ _ _ w (by subst g4;intros;rfl)
   rw[ah g4];have ea:arity w=0:=by
    unfold arity;rw[ah g1,ah g2,ah g3,ah g4,ah h3]
   rw[ea];show _=(if false=true then _ else _);rw[ah aj,ah h1,ah h2,named,ao (.inr hn)]
theorem yP{form:Toks->Rd Form}:∀{c:Nat}{fs gs:List Form}{l l':Toks},takeMore form c fs l= .ok (gs,l')->gs.length=fs.length+c
 |0,fs,gs,l,l',h=>by
  unfold takeMore at h;cases e:takeSign 41 l with
  |error f=>
   rw[e]at h;cases h
  |ok l1=>
   rw[e]at h;cases h;rfl
 |c+1,fs,gs,l,l',h=>by
  unfold takeMore at h;cases e:takeSign 44 l with
  |error f=>
   rw[e]at h;cases h
  |ok l1=>
   rw[e]at h;dsimp only at h;cases e2:form l1 with
   |error f=>
    rw[e2]at h;cases h
   |ok q=>
    obtain⟨a,l2⟩:=q;rw[e2]at h;have ih:=yP h;rw[aE]at ih;simp at ih;lia
end TM
namespace L2
open PySem PySem.Spec PyProof.Rows
def AM(P:Program)(w:World)(K:PySem.W.Frag)(a:Addr)(kvs:List (Key×V)):Prop:=
 ∃(o:Obj)(vs:List (Key×Value)),List.lookup a K=some o/\(a==sysModules)=false/\KV kvs vs/\∀h:Heap,h.get? a=some o->h.DictOf (dG P w) a vs
def Si(P:Program)(w:World)(K:PySem.W.Frag)(td ty:TE):TE:=λσ H Q=>td σ H λx H1=>ty σ H1 λy H2=>∃a kvs k v,x= .ref a/\AM P w K a kvs/\y=kV k/\fv kvs k=some v/\Q v H2
def T7(P:Program)(w:World)(K:PySem.W.Frag)(ty td:TE):TE:=λσ H Q=>ty σ H λy H1=>td σ H1 λx H2=>∃a kvs k,x= .ref a/\AM P w K a kvs/\y=kV k/\Q (.bl (fv kvs k).isSome) H2
section
variable{X:Cx}{o i:Expr}{pos:Pos}{td ty:TE}
theorem Ha(ho:PE X o td)(hi:PE X i ty)(hs:RJ i):PE X (.Subscript o i pos) (Si X.prog X.w X.K td ty):=by
 intro pins s σ H Q I h;refine JY PySem.F.slot_dict_getitem.lookup hs (eu (ho pins s σ H _ I h) λu s1 ⟨x,H1,I1,rx,q1⟩=>eu (hi pins s1 σ H1 _ I1 q1) λiv s2=>W6 λy H2=>W8 λI2 ry=>W7 λa kvs k v=>Xe λex hk ey hv q2=>?_);subst ex ey;obtain rfl:u=Value.ref a:=rx;revert hk;refine W6 λob vs=>Xd λe1 e2 rel dd=>?_;have dd:=dd _ (I2.vL a ob e1);obtain⟨w',hw,rw'⟩:=lZ.some_of (v:=v) (o:=valueAt vs k) (by rw[<-hv];exact rel.val k);exact⟨dd.typeIs,wpAny_getItem_of (Ap ry) dd.mapOf hw ⟨v,H2,I2.tok _,rw',q2⟩⟩
theorem PR(hi:PE X i ty)(ho:PE X o td):PC X .In i o (T7 X.prog X.w X.K ty td):=by
 intro pins s σ H Q I h;refine eu (hi pins s σ H _ I h) λiv s1 ⟨y,H1,I1,ry,q1⟩=>eu (ho pins s1 σ H1 _ I1 q1) λu s2=>W6 λx H2=>W8 λI2 rx=>Xc λa kvs k=>Xd λex hk ey q2=>?_;subst ex ey;obtain rfl:u=Value.ref a:=rx;revert hk;refine W6 λob vs=>Xd λe1 e2 rel dd=>?_;have dd:=dd _ (I2.vL a ob e1);refine wpAny_in_of (Ap ry) e2 dd.mapOf ?_;rw[<-(rel.val k).mi];exact⟨.bl _,H2,I2.tok _,rfl,q2⟩
end
end L2
namespace TS
open PySem PySem.Spec PyProof.Rows L2 TM
open VaprbBase (Bytes Toks PTok here next takeSign RESERVED word)
open Vaprbg (Var Form takeForm)
theorem wq{w b:Bytes}{z:Str}(h:strOf b=z):decide (V.str (strOf w)=V.str z)=decide (w=b):=by
 subst h;by_cases e:w=b
 ·rw[e,au rfl,au rfl]
 ·rw[aQ e,aQ];intro y;injection y with y
  exact e (vD y)
theorem QV:strOf (word "not")="not":=VY
theorem QW:strOf (word "and")="and":=VY
theorem T8:strOf (word "or")="or":=VY
theorem s_eq:strOf (word "eq")="eq":=VY
theorem T9:strOf (word "if")="if":=VY
theorem s_true:strOf (word "true")="true":=VY
theorem s_false:strOf (word "false")="false":=VY
structure nq(n:Nat)(fs:List Form)(tbs:List Nat):Prop where
 len:tbs.length=fs.length
 ok:∀(i:Nat)(f:Form)(tb:Nat),fs[i]?=some f->tbs[i]?=some tb->cu n (λas=>f.val as) tb
theorem nq.nil{n:Nat}:nq n [] []:=⟨rfl,λi f tb h _=>nomatch h⟩
theorem nq.snoc{n:Nat}{fs:List Form}{tbs:List Nat}{f:Form}{tb:Nat}(h:nq n fs tbs)(k:cu n (λas=>f.val as) tb):nq n (fs++[f]) (tbs++[tb]):=by
 refine⟨by rw[aE,aE,h.len];rfl,λi g u h1 h2=>?_⟩;by_cases hi:i<fs.length
 ·rw[bO hi]at h1;rw[bO (by rw[h.len];exact hi)]at h2;exact h.ok i g u h1 h2
 ·have e:i=fs.length:=by
   have:=(List.getElem?_eq_some_iff.mp h1).1;rw[aE]at this;simp at this;lia
  subst e;rw[bA (aH _),eO]at h1;rw[bA (by rw[h.len];exact aH _),h.len,eO]at h2;cases h1;cases h2;exact k
def Jg(CS:Addr):Sp:=λvs H Q _=>∃(w:Bytes)(pl sp:Addr)(n:Nat)(fs:List Form)(tbs:List Nat),vs=[.str (strOf w),.ref pl,.ref sp]/\arity w≠0/\fs.length=arity w/\H pl=some (.lst (tbs.map λv=>V.int (v:Nat)))/\nq n fs tbs/\nj CS H sp n/\
 ∀tb:Nat,cu n (λas=>(combine w fs).val as) tb->Q (.int tb) H
def PU(H:Hp)(nl:Addr)(us:List Var):Prop:=H nl=some (.lst (us.map λv=>V.str (strOf v.name)))
def PV(CR CT CF CS:Addr):Sp:=λvs H Q E=>∃(r x nl sp:Addr)(ts:Toks)(n:Nat)(us:List Var)(k:PTok)(w:Bytes),vs=[.ref r,.ref x,.ref nl,.ref sp]/\ib CR CT H r ts n/\qD CT H x k/\k.tok= .name w/\PU H nl us/\nj CS H sp us.length/\
 match named us k.place w (ts.drop n)with
 | .error f=>ez CF H (yf [.int f.code,.int f.place]) E
 | .ok (g,l)=>l=ts.drop n->∀tb:Nat,cu us.length (λas=>g.val as) tb->Q (.int tb) H
section
include T
theorem Hb:dQ P w K mg base 3 t.B8 ["word","parts","space"] (Jg t.b8):=by
 refine T.Cc.ok GP (λvs H Q E h=>?_) (λcdv A outer s H vs Q E hr h=>?_)
 ·obtain⟨w,pl,sp,n,fs,tbs,rfl,_⟩:=h;rfl
 ·obtain⟨w,pl,sp,n,fs,tbs,rfl,h0,hf,hP,hT,hS,q⟩:=h;obtain⟨dx,vl,vts,ex,hV⟩:=hS.ex;refine⟨_,(ag (cj (Wv cQ (Wo 0) fN (bu _)) (az (aX (bR (ie T) T.bg.cl T.gF (hr.mono VW) bF (Wo 2) (aa (bp (Wr K) (Wo 1) aK (λ_ _=>rfl)) ai)))) bo) (ag (cj (Wv cQ (Wo 0) fN (bu _)) (az (aX (bI iU (bp (Wr K) (Wo 1) aK (λ_ _=>rfl)) (bp (Wr K) (Wo 1) aK (λ_ _=>rfl))))) bo) (ag (cj (Wv cQ (Wo 0) fN (bu _)) (az (aX (bI pG (bp (Wr K) (Wo 1) aK (λ_ _=>rfl)) (bp (Wr K) (Wo 1) aK (λ_ _=>rfl))))) bo) (ag (cj (Wv cQ (Wo 0) fN (bu _)) (az (aX (bR (DF T) T.bg.cl T.yz (hr.mono VW) bF (Wo 2) (aa (bp (Wr K) (Wo 1) aK (λ_ _=>rfl)) (aa (bp (Wr K) (Wo 1) aK (λ_ _=>rfl)) ai))))) bo) (az (aX (bR (iV T) T.bg.cl T.hZ (hr.mono VW) bF (Wo 2) (aa (bp (Wr K) (Wo 1) aK (λ_ _=>rfl)) (aa (bp (Wr K) (Wo 1) aK (λ_ _=>rfl)) (aa (bp (Wr K) (Wo 1) aK (λ_ _=>rfl)) ai)))))))))),?_⟩;have hix:∀(i:Nat),i<fs.length->∃tb:Nat,Dr (tbs.map λv=>V.int (v:Nat)) (i:Int)=some (.int (tb:Nat))/\cu n (λas=>(Lp fs i).val as) tb:=λi hi=>by
   obtain⟨tb,htb⟩:∃tb,tbs[i]?=some tb:=⟨_,af (by rw[hT.len];exact hi)⟩;refine⟨tb,cx (by rw[aR,htb];rfl),?_⟩;have e:fs[i]?=some (Lp fs i):=by
    rw[af hi];unfold Lp;rw[xG,af hi];rfl
   exact hT.ok i _ tb e htb
  refine⟨rfl,?_⟩;rw[wq QV];refine c6 (λh1=>?_) λh1=>?_
  ·have h1:=aD h1;subst h1;obtain⟨a,ea,ha⟩:=hix 0 (by rw[hf];decide);exact⟨Ws ex rfl,_,Wt (cN.of hP) ea,WZ sp n a ⟨rfl,hS,q _ ha.other⟩⟩
  have n1:¬w=word "not":=λz=>h1 (au z);refine⟨rfl,?_⟩;rw[wq QW];refine c6 (λh1=>?_) λh1=>?_
  ·have h1:=aD h1;subst h1;obtain⟨a,ea,ha⟩:=hix 0 (by rw[hf];decide);obtain⟨b,eb,hb⟩:=hix 1 (by rw[hf];decide);exact⟨_,Wt (cN.of hP) ea,_,Wt (cN.of hP) eb,a,b,rfl,rfl,q _ (ha.and hb)⟩
  have n2:¬w=word "and":=λz=>h1 (au z);refine⟨rfl,?_⟩;rw[wq T8];refine c6 (λh1=>?_) λh1=>?_
  ·have h1:=aD h1;subst h1;obtain⟨a,ea,ha⟩:=hix 0 (by rw[hf];decide);obtain⟨b,eb,hb⟩:=hix 1 (by rw[hf];decide);exact⟨_,Wt (cN.of hP) ea,_,Wt (cN.of hP) eb,a,b,rfl,rfl,q _ (ha.or hb)⟩
  have n3:¬w=word "or":=λz=>h1 (au z);refine⟨rfl,?_⟩;rw[wq s_eq];refine c6 (λh1=>?_) λh1=>?_
  ·have h1:=aD h1;subst h1;obtain⟨a,ea,ha⟩:=hix 0 (by rw[hf];decide);obtain⟨b,eb,hb⟩:=hix 1 (by rw[hf];decide);exact⟨Ws ex rfl,_,Wt (cN.of hP) ea,_,Wt (cN.of hP) eb,WY sp n a b ⟨rfl,hS,q _ (ha.same hb)⟩⟩
  have n4:¬w=word "eq":=λz=>h1 (au z);have h5:w=word "if":=eW λn5=>h0 (by unfold arity;rw[ah n1,ah n2,ah n3,ah n4,ah n5]);subst h5;obtain⟨a,ea,ha⟩:=hix 0 (by rw[hf];decide);obtain⟨b,eb,hb⟩:=hix 1 (by rw[hf];decide);obtain⟨c,ec,hc⟩:=hix 2 (by rw[hf];decide);exact⟨Ws ex rfl,_,Wt (cN.of hP) ea,_,Wt (cN.of hP) eb,_,Wt (cN.of hP) ec,W1 sp n a b c ⟨rfl,hS,q _ (ha.FK hb hc)⟩⟩
end
theorem Jh:("(":Str)=⟨#[40]⟩:=VY
theorem PX:(")":Str)=⟨#[41]⟩:=VY
theorem NO(us:List Var)(w:Bytes):(us.any λv=>v.name==w)=(us.findIdx? λv=>v.name==w).isSome:=by
 rw[List.findIdx?_isSome]
theorem Kl{a b:Bytes}:HN (.str (strOf a)) (.str (strOf b))=(a==b):=by
 have e2:HN (.str (strOf a)) (.str (strOf b))=(strOf a==strOf b):=rfl;rw[e2,d8,jg,jg];exact⟨λh=>vD h,λh=>by rw[h]⟩
section
include T
theorem Cs:dQ P w K mg base 3 t.ur ["reader","token","names","space"] (PV t.cB t.bG t.cX t.b8):=by
 refine T.wg.ok BZ (λvs H Q E h=>?_) (λcdv A outer s H vs Q E hr h=>?_)
 ·revert h;refine W7 λr x nl sp=>W7 λts n us k=>Xa λw=>W9 λe0_ _=>?_;subst e0_;rfl
 ·revert h;refine W7 λr x nl sp=>W7 λts n us k=>Xa λw=>Xb λe0_ hR hx hk hN=>W9 λhS q=>?_;subst e0_;refine Xc (λdx vl vts=>W9 λes hV=>?_) hS.ex;refine W6 (λdxr ls=>W9 λer _=>?_) hR.ex;have hx':=hx;obtain⟨b,dxt,ex⟩:=hx;refine⟨_,(ag (cj (PW.pt (Am (qR (Wy (fh (qF T) T.bb.cl T.lP (hr.mono VW) bF (Wo 1)))) (tR (Wy (bR (ir T) T.bS.cl T.gz (hr.mono VW) bF (Wo 0) (aa fN ai)))))) (az (pZ (cR T) T.cf.lM T.cf.ma (hr.mono VW) aS (aa (cv T.rH) (aa (Wp K (Wo 1) rfl) ai)))) bo) (ag (cj (Wv ju (Wp K (Wo 1) rfl) (Wo 2) (by with_unfolding_all rfl)) (az (pZ (cR T) T.cf.lM T.cf.ma (hr.mono VW) aS (aa (cv T.v9) (aa (Wp K (Wo 1) rfl) ai)))) bo) (az (aX (bp (Wr K) (Wp K (Wo 3) rfl) (jj bj Bc PySem.F.type_list_index Gj (Wo 2) (aa (Wp K (Wo 1) rfl) ai)) (λ_ _=>rfl)))))),?_⟩;have hfault:∀c:Int,ez t.cX H (yf [.int c,.int k.place]) E->_:=λc y=>(cM (us:=[.int c,.int k.place]) rfl (by show 2<=1000;decide) y);refine⟨Ws ex rfl,x,k,rfl,hx',?_⟩;have eN:NH k.tok=!RESERVED.contains w:=by rw[hk];rfl
  rw[eN];unfold named at q;cases hz:RESERVED.contains w with
  |true=>
   rw[hz,ao (.inl rfl)]at q;exact d4 (d4 ⟨.int k.place,Wq ex T.bb.cl (T.bb.no _ VW) rfl,hfault 3 q⟩)
  |false=>
   rw[hz]at q;refine cq ⟨Ws er rfl,r,ts,n,40,by rw[Jh],VW,hR,?_⟩;cases hn:next (.sign 40) (ts.drop n)with
   |true=>
    rw[hn,ao (.inr rfl)]at q;exact d4 ⟨.int k.place,Wq ex T.bb.cl (T.bb.no _ VW) rfl,hfault 3 q⟩
   |false=>
    rw[hn,ah (λy=>y.elim aj aj)]at q;refine cq ⟨.str (strOf w),Wq ex T.bb.cl (T.bb.no _ VW) (by rw[hk];rfl),nl,_,rfl,.inl (cN.of hN),rfl,xw us,?_⟩;rw[ao rfl,EB,NO];cases hf:us.findIdx? λv=>v.name==w with
    |none=>
     rw[hf]at q;exact d4 ⟨.int k.place,Wq ex T.bb.cl (T.bb.no _ VW) rfl,hfault 6 q⟩
    |some i=>
     rw[hf]at q;dsimp only at q;refine Xa (λhi=>W9 λhp hm=>?_) (List.findIdx?_eq_some_iff_getElem.mp hf);obtain⟨v,hv⟩:∃v,vts[i]?=some v:=⟨_,af (by rw[hV.len];exact hi)⟩;refine cq ⟨_,Wq es T.bg.cl (T.bg.no _ VW) rfl,.inl ⟨rfl,_,cN.of hN⟩,.str (strOf w),Wq ex T.bb.cl (T.bb.no _ VW) (by rw[hk];rfl),nl,_,_,i,.str (strOf us[i].name),rfl,rfl,cN.of hN,rfl,xw us,?_,?_,?_,V.int (v:Nat),Wt (cN.of hV.at_) (cx (by rw[aR,hv];rfl)),q rfl v ((hV.ok i v hv).tab hi)⟩
     ·rw[aR,af hi];rfl
     ·rw[Kl];exact hp
     ·intro m z' hlt hz';have hm':=hm m hlt;rw[aR,af VX]at hz';cases hz';rw[Kl];exact Bool.eq_false_iff.mpr hm'
end
structure FO(CS:Addr)(H:Hp)(nl sp:Addr)(us:List Var):Prop where
 nm:PU H nl us
 sc:nj CS H sp us.length
theorem FO.Mb{CR CT CS:Addr}{H H':Hp}{r nl sp:Addr}{us:List Var}{ts:Toks}{n:Nat}(h:FO CS H nl sp us)(hR:ib CR CT H r ts n)(k:gc [r] H H'):FO CS H' nl sp us:=by
 obtain⟨dxr,ls,er,_⟩:=hR.ex;obtain⟨dx,vl,vts,es,hV⟩:=h.sc.ex;have n1:nl≠r:=cn h.nm er λz=>nomatch z;have n2:sp≠r:=cn es er λz=>by
  injection z with _ _ z
  have:=bJ List.length z;simp[Lo,SN]at this
 have n3:vl≠r:=cn hV.at_ er λz=>nomatch z;exact⟨k _ _ h.nm (by simpa using n1),⟨(WZ dx vl vts ⟨k _ _ es (by simpa using n2),k _ _ hV.at_ (by simpa using n3),hV.len,hV.ok⟩),h.sc.le⟩⟩
theorem PY{CT:Addr}{H:Hp}{pl ls:Addr}{tbs:List Nat}{ts:Toks}(h:H pl=some (.lst (tbs.map λv=>V.int (v:Nat))))(ok:vP ts)(hT:je CT H ls ts):ls≠pl:=by
 rintro rfl;obtain⟨xs,e2,hl,ha⟩:=hT;rw[e2]at h;injection h with e
 injection e with e
 have hp:=ok.pos;cases xs with
 |nil=>simp at hl;lia
 |cons x r=>
  cases tbs with
  |nil=>cases e
  |cons u v=>
   injection e with e _
   cases e
def zR(CR CT CF CS:Addr)(lv:Nat):Sp:=λvs H Q E=>∃(r nl sp:Addr)(ts:Toks)(n d:Nat)(us:List Var),vs=[.ref r,.ref nl,.ref sp,.int d]/\d+lv=25/\ib CR CT H r ts n/\FO CS H nl sp us/\
 EA [r] CR CT CF H r ts (takeForm us lv (ts.drop n)) E λf H'=>∀tb:Nat,cu us.length (λas=>f.val as) tb->Q (.int tb) H'
def Km(CR CT CF CS:Addr)(lv:Nat):Sp:=λvs H Q E=>∃(r nl sp:Addr)(ts:Toks)(n d c:Nat)(us:List Var),vs=[.ref r,.ref nl,.ref sp,.int d,.int c]/\d+lv=24/\1<=c/\c<=3/\ib CR CT H r ts n/\FO CS H nl sp us/\
 EA [r] CR CT CF H r ts (iy (takeForm us lv) c (ts.drop n)) E λfs H'=>∀(pl:Addr)(tbs:List Nat),H' pl=some (.lst (tbs.map λv=>V.int (v:Nat)))->nq us.length fs tbs->Q (.ref pl) H'
section
include T
theorem DH{lv:Nat}(F:dQ P w K mg base (6+2*lv) t.jA ["reader","names","space","depth"] (zR t.cB t.bG t.cX t.b8 lv)):dQ P w K mg base (6+2*lv+1) t.rK ["reader","names","space","depth","count"] (Km t.cB t.bG t.cX t.b8 lv):=by
 refine T.rV.ok oM (λvs H Q E h=>?_) (λcdv A outer s H vs Q E hr h=>?_)
 ·revert h;refine W7 λr nl sp ts=>W7 λn d c us=>W9 λe0_ _=>?_;subst e0_;rfl
 ·revert h;refine W7 λr nl sp ts=>W7 λn d c us=>Xb λe0_ hd hc1 hc3 hR=>W9 λhF q=>?_;subst e0_;refine W6 (λdxr ls=>W9 λer _=>?_) hR.ex;refine⟨_,(ag (bw (bR (eR T) T.bS.cl T.eh (hr.mono VX) aS.passes (Wo 0) (aa fN ai))) (ag (a9 (i:=5) oM.nd rfl (Or.inl rfl) (cI (aa (cH F T.jJ (hr.mono VX) aS.passes (aa (Wo 0) (aa (Wo 1) (aa (Wo 2) (aa (bI fH.j (Wo 3) aK) ai))))) ai))) (ag (d5 (gy bN (Wv kK.j (b6 cD rfl T.gP bf (aa (Wo 5) ai)) (Wo 4) (bu _)) (ag (bw (bR (eR T) T.bS.cl T.eh (hr.mono VX) aS.passes (Wo 0) (aa fN ai))) (az (bw (jj bj bL bM dY (Wo 5) (aa (cH F T.jJ (hr.mono VX) aS.passes (aa (Wo 0) (aa (Wo 1) (aa (Wo 2) (aa (bI fH.j (Wo 3) aK) ai))))) ai))))))) (ag (bw (bR (eR T) T.bS.cl T.eh (hr.mono VX) aS.passes (Wo 0) (aa fN ai))) (az (aX (Wo 5))))))),?_⟩;unfold iy at q;rw[gn]at q;refine⟨Ws er rfl,r,ts,n,40,by rw[Jh],VW,hR,?_⟩;cases hs:next (.sign 40) (ts.drop n)with
  |false=>
   rw[hs,ah aj]at q;rw[ah aj];exact cP.to q gc.refl
  |true=>
   rw[hs,ao rfl]at q;rw[ao rfl];dsimp only at q;rw[b9]at q;intro H1 hR1 kp1;have k1:gc [r] H H1:=kp1.s (by simp);have hF1:=hF.Mb hR k1;refine⟨r,nl,sp,ts,n+1,d+1,us,rfl,VX,hR1,hF1,?_⟩;cases hf1:takeForm us lv (ts.drop (n+1))with
   |error f=>
    rw[hf1]at q;exact cP.on q k1
   |ok p=>
    obtain⟨f1,l1⟩:=p;rw[hf1]at q;dsimp only at q;intro m2 H2 hm2 hR2 k2 tb htb;refine⟨(by show 1<=sizeLine;rw[aM];decide),λpl npl=>?_⟩;have k12:=k1.trans k2;refine W6 (λdxr2 ls2=>W9 λer2 _=>?_) hR2.ex;have nr:pl≠r:=λz=>by
     rw[z,er2]at npl;cases npl
    have npH:H pl=none:=k12.none npl (by simpa using nr);have s3:bq H2 (upd H2 pl (.lst [.int tb])):=λb o e=>ak e (aq e npl);rw[<-hm2]at q;generalize hres:takeMore (takeForm us lv) (c-1) [f1] (ts.drop m2)=res at q;refine⟨λσ H'=>∃(n':Nat)(fs:List Form)(tbs:List Nat),σ=[some (.ref r),some (.ref nl),some (.ref sp),some (.int d),some (.int c),some (.ref pl)]/\ib t.cB t.bG H' r ts n'/\H' pl=some (.lst (tbs.map λv=>V.int (v:Nat)))/\nq us.length fs tbs/\gc [r] H H'/\res=takeMore (takeForm us lv) 0 fs (ts.drop n'),
     ⟨λm σ H'=>∃(n' j:Nat)(fs:List Form)(tbs:List Nat),m=j/\σ=[some (.ref r),some (.ref nl),some (.ref sp),some (.int d),some (.int c),some (.ref pl)]/\ib t.cB t.bG H' r ts n'/\H' pl=some (.lst (tbs.map λv=>V.int (v:Nat)))/\nq us.length fs tbs/\fs.length+j=c/\gc [r] H H'/\res=takeMore (takeForm us lv) j fs (ts.drop n'),
      ⟨_,m2,c-1,[f1],[tb],rfl,rfl,hR2.same s3,aC,nq.nil.snoc htb,by simp;lia,k12.trans (.of s3),hres.symm⟩,?_⟩,?_⟩
    ·intro m σ H';refine W7 λn' j fs tbs=>Xb λe0_ e1_ hR' hP' hT'=>W8 λhj k' e=>?_;subst e0_;subst e1_;refine⟨_,_,rfl,.inl ⟨_,cN.of hP',rfl⟩,?_⟩;rw[ay,hT'.len];refine c6 (λh1=>?_) λh1=>?_
     ·have h1':fs.length<c:=by
       have z:=aD h1;lia
      obtain⟨j',rfl⟩:∃j',m=j'+1:=⟨m-1,VX⟩;refine W6 (λdxr' ls'=>W9 λer' _=>?_) hR'.ex;unfold takeMore at e;rw[gn]at e;refine⟨λσ' H''=>∃(n':Nat)(fs:List Form)(tbs:List Nat),σ'=[some (.ref r),some (.ref nl),some (.ref sp),some (.int d),some (.int c),some (.ref pl)]/\ib t.cB t.bG H'' r ts n'/\H'' pl=some (.lst (tbs.map λv=>V.int (v:Nat)))/\nq us.length fs tbs/\fs.length+j'=c/\gc [r] H H''/\res=takeMore (takeForm us lv) j' fs (ts.drop n'),?_,?_⟩
      ·rintro σ' H'' ⟨n',fs,tbs,z⟩;exact⟨j',VX,WY n' j' fs tbs ⟨rfl,z⟩⟩
      refine⟨Ws er' rfl,r,ts,n',44,by rw[Kk],VW,hR',?_⟩;cases hs4:next (.sign 44) (ts.drop n')with
      |false=>
       rw[hs4,ah aj]at e;rw[e]at q;rw[ah aj];exact cP.to q k'
      |true=>
       rw[hs4,ao rfl]at e;rw[ao rfl];dsimp only at e;rw[b9]at e;intro H5 hR5 kp5;have k5:=k'.trans (kp5.s (by simp):gc [r] H' H5);have hP5:=kp5 _ _ hP' nr;refine⟨.inl ⟨rfl,_,cN.of hP5⟩,r,nl,sp,ts,n'+1,d+1,us,rfl,VX,hR5,hF.Mb hR k5,?_⟩;cases hf5:takeForm us lv (ts.drop (n'+1))with
       |error f=>
        rw[hf5]at e;rw[e]at q;exact cP.on q k5
       |ok p=>
        obtain⟨f6,l6⟩:=p;rw[hf5]at e;dsimp only at e;intro m6 H6 hm6 hR6 k6 tb6 htb6;have hP6:=k6 _ _ hP5 (by simpa using nr);refine WZ pl _ _ ⟨rfl,rfl,hP6,?_,?_⟩
        ·rw[ay,hT'.len,aM];lia
        refine⟨m6,fs++[f6],tbs++[tb6],rfl,hR6.Sd hP6 λls hT=>PY hP6 hR.ok hT,?_,hT'.snoc htb6,?_,?_,?_⟩
        ·rw[aC,cb];rfl
        ·rw[aE];show fs.length+1+j'=c;lia
        ·exact λb o eb nb=>ak (k6 _ _ (k5 b o eb nb) nb) (aq eb npH)
        ·rw[hm6];exact e
     ·have h1':¬fs.length<c:=λz=>h1 (au VX);have hj0:m=0:=VX;subst hj0;exact WZ n' fs tbs ⟨rfl,hR',hP',hT',k',e⟩
    ·intro σ H';refine Xc λn' fs tbs=>Xb λe0_ hR' hP' hT' k' e=>?_;subst e0_;refine W6 (λdxr' ls'=>W9 λer' _=>?_) hR'.ex;unfold takeMore at e;rw[gn]at e;refine⟨Ws er' rfl,r,ts,n',41,by rw[PX],VW,hR',?_⟩;cases hs7:next (.sign 41) (ts.drop n')with
     |false=>
      rw[hs7,ah aj]at e;rw[e]at q;rw[ah aj];exact cP.to q k'
     |true=>
      rw[hs7,ao rfl]at e;rw[ao rfl];dsimp only at e;rw[e]at q;intro H8 hR8 kp8;exact q (n'+1) H8 (by rw[b9]) hR8 (k'.trans (kp8.s (by simp))) pl tbs (kp8 _ _ hP' nr) hT'
end
def AN(P:Program)(w:World)(K:PySem.W.Frag)(mg:Str->Option Value)(x:Str)(kvs:List (Key×V)):Prop:=∃a,GV mg x (.ref a)/\AM P w K a kvs
noncomputable def gN:List (Key×V):=[(.inr "not",.int 1),(.inr "and",.int 2),(.inr "or",.int 2),(.inr "eq",.int 2),(.inr "if",.int 3)]
theorem ED(w:Bytes):fv gN (.inr (strOf w))=if arity w=0 then none else some (.int (arity w:Nat)):=by
 have h:∀(b:Bytes)(z:Str),strOf b=z->decide ((Sum.inr z:Key)= .inr (strOf w))=decide (w=b):=λb z e=>by
  subst e;by_cases y:w=b
  ·rw[y,au rfl,au rfl]
  ·rw[aQ y,aQ];intro u;injection u with u
   exact y (vD u).symm
 unfold fv gN arity;rw[c8,c8,c8,c8,c8,List.find?_nil];dsimp only;rw[h _ _ QV,h _ _ QW,h _ _ T8,h _ _ s_eq,h _ _ T9];by_cases h1:w=word "not"
 ·rw[au h1,ao h1];rfl
 rw[aQ h1,ah h1];by_cases h2:w=word "and"
 ·rw[au h2,ao h2];rfl
 rw[aQ h2,ah h2];by_cases h3:w=word "or"
 ·rw[au h3,ao h3];rfl
 rw[aQ h3,ah h3];by_cases h4:w=word "eq"
 ·rw[au h4,ao h4];rfl
 rw[aQ h4,ah h4];by_cases h5:w=word "if"
 ·rw[au h5,ao h5];rfl
 rw[aQ h5,ah h5];rfl
theorem NP(w:Bytes):arity w<=3:=by
 unfold arity
 repeat' split
 all_goals lia
def NQ(CR CT CF CS:Addr):Nat->Sp
 |0=>λ_ _ _ _=>False
 |lv+1=>Km CR CT CF CS lv
section
include T
theorem kZ(hPa:AN P w K mg "PARTS" gN){lv:Nat}(F:dQ P w K mg base (5+2*lv) t.rK ["reader","names","space","depth","count"] (NQ t.cB t.bG t.cX t.b8 lv)):dQ P w K mg base (5+2*lv+1) t.jA ["reader","names","space","depth"] (zR t.cB t.bG t.cX t.b8 lv):=by
 obtain⟨aP,gPARTS,hPK⟩:=hPa;refine T.uJ.ok lD (λvs H Q E h=>?_) (λcdv A outer s H vs Q E hr h=>?_)
 ·obtain⟨r,nl,sp,ts,n,d,us,rfl,_⟩:=h;rfl
 ·obtain⟨r,nl,sp,ts,n,d,us,rfl,hd,hR,hF,q⟩:=h;obtain⟨k,hk,hdr⟩:=hR.cur;obtain⟨dxr,ls,er,_⟩:=hR.ex;refine⟨_,(ag (a9 (i:=4) lD.nd rfl (Or.inl rfl) (fh (eK T) T.bS.cl T.ee (hr.mono VX) bF (Wo 0))) (ag (cj (a8 tW.j (Wo 3) (cv T.GU) (bu _)) (az (pZ (cR T) T.cf.lM T.cf.ma (hr.mono VX) aS (aa (cv T.El) (aa (Wp K (Wo 4) rfl) ai)))) bo) (ag (cj (Wv Ge (Wp K (Wo 4) rfl) (cv T.Kf) (bu _)) (az (bw (fh (fU T) T.bS.cl T.fz (hr.mono VX) aS.passes (Wo 0)))) bo) (ag (bw (fh (ic T) T.bS.cl T.gE (hr.mono VX) bF (Wo 0))) (ag (cj (Pw (PW.pt (Am (Wv cQ (Wp K (Wo 4) rfl) fN (bu _)) (tR (PW.pt (zm (WB (PR (Wp K (Wo 4) rfl) (cv gPARTS))) (vp (Wy (bR (ir T) T.bS.cl T.gz (hr.mono VX) bF (Wo 0) (aa fN ai)))))))))) (ag (a9 (i:=5) lD.nd rfl (Or.inl rfl) (cH F T.yj (hr.mono VX) aS.passes (aa (Wo 0) (aa (Wo 1) (aa (Wo 2) (aa (Wo 3) (aa (Ha (cv gPARTS) (Wp K (Wo 4) rfl) (λ_ _=>rfl)) ai))))))) (az (aX (cH (Hb T) T.Cd (hr.mono VX) bF (aa (Wp K (Wo 4) rfl) (aa (Wo 5) (aa (Wo 2) ai))))))) bo) (ag (cj (Wv cQ (Wp K (Wo 4) rfl) fN (bu _)) (az (aX (Wp K (Wo 2) rfl))) bo) (ag (cj (Wv cQ (Wp K (Wo 4) rfl) fN (bu _)) (az (aX aK)) bo) (az (aX (cH (Cs T) T.wj (hr.mono VX) aS.passes (aa (Wo 0) (aa (Wo 4) (aa (Wo 1) (aa (Wo 2) ai)))))))))))))),?_⟩;refine⟨Ws er rfl,r,ts,n,k,rfl,hR,hk,λx hx=>?_⟩;have hx':=hx;have nxr:=hx.ne er;obtain⟨b,dx,ex⟩:=hx;refine⟨_,rfl,?_⟩;cases lv with
  |zero=>
   have hd':d=25:=VX;subst hd';rw[hdr]at q;exact d4 ⟨.int k.place,Wq ex T.bb.cl (T.bb.no _ VW) rfl,cM (us:=[.int 4,.int k.place]) rfl (by show 2<=1000;decide) (cP.to q gc.refl)⟩
  |succ lv=>
   rw[aQ (show¬((24:Int)<(d:Int)) by lia)];rw[hdr,DG]at q;refine cq ⟨_,Wq ex T.bb.cl (T.bb.no _ VW) rfl,qE _ _,?_⟩;rw[Ez];cases hkk:k.tok with
   |num z=>
    rw[hkk]at q;refine d4 ⟨Ws er rfl,r,ts,n,rfl,hR,?_⟩;rw[hdr];exact cP.to q gc.refl
   |sign z=>
    rw[hkk]at q;refine d4 ⟨Ws er rfl,r,ts,n,rfl,hR,?_⟩;rw[hdr];exact cP.to q gc.refl
   |halt_=>
    rw[hkk]at q;refine d4 ⟨Ws er rfl,r,ts,n,rfl,hR,?_⟩;rw[hdr];exact cP.to q gc.refl
   |name w=>
    rw[hkk]at q;dsimp only at q;have hlt:n+1<ts.length:=by
     have:=hR.lt;have hne:¬(n+1=ts.length):=λz=>by
      have:=(hR.ok.last hk).mpr z;rw[hkk]at this;cases this
     lia
    refine cq ⟨Ws er rfl,r,ts,n,rfl,hR,hlt,λH1 hR1 kp1=>?_⟩;have k1:gc [r] H H1:=kp1.s (by simp);have hF1:=hF.Mb hR k1;have ex1:=kp1 _ _ ex nxr;have hx1:qD t.bG H1 x k:=⟨b,dx,ex1⟩;obtain⟨dxr1,ls1,er1,_⟩:=hR1.ex;have hld:List.lookup ("held":Str) (Ni [G2 k.tok,IX k.tok,.int k.place,.int b])=some (V.str (strOf w)):=by rw[hkk];rfl
    refine⟨λv H'=>v=lT w (ts.drop (n+1))/\H'=H1,?_,?_⟩
    ·refine⟨V.str (strOf w),Wq ex1 T.bb.cl (T.bb.no _ VW) hld,rfl,?_⟩;rw[wq T9];refine c6 (λh1=>?_) λh1=>?_
     ·refine⟨?_,rfl⟩;unfold lT;rw[h1];rfl
     ·refine⟨V.str (strOf w),Wq ex1 T.bb.cl (T.bb.no _ VW) hld,aP,gN,.inr (strOf w),rfl,hPK,rfl,?_⟩;rw[ED];have h1':decide (w=word "if")=false:=Bool.eq_false_iff.mpr h1;by_cases ha:arity w=0
      ·rw[ao ha];refine cq ⟨?_,rfl⟩;unfold lT;rw[h1',ha];rfl
      ·rw[ah ha];refine d4 ⟨Ws er1 rfl,r,ts,n+1,40,by rw[Jh],VW,hR1,?_,rfl⟩;unfold lT;rw[h1',au ha];rfl
    ·rintro v H' ⟨rfl,rfl⟩;unfold Jf at q;cases hp:lT w (ts.drop (n+1))with
     |true=>
      rw[hp,ao rfl]at q;have ha:arity w≠0:=λz=>by
       unfold lT at hp;rw[z]at hp;have:w=word "if":=by simpa using hp
       subst this;revert z;decide
      have ev:fv gN (.inr (strOf w))=some (.int (arity w:Nat)):=by rw[ED,ah ha]
      refine d4 ⟨V.str (strOf w),Wq ex1 T.bb.cl (T.bb.no _ VW) hld,aP,gN,.inr (strOf w),.int (arity w:Nat),rfl,hPK,rfl,ev,r,nl,sp,ts,n+1,d,arity w,us,rfl,VX,VX,NP w,hR1,hF1,?_⟩;cases htp:iy (takeForm us lv) (arity w) (ts.drop (n+1))with
      |error f=>
       rw[htp]at q;exact cP.on q k1
      |ok p=>
       obtain⟨fs,l2⟩:=p;rw[htp]at q;dsimp only at q;intro m2 H2 hm2 hR2 k2 pl tbs hpl hT;have hx2:qD t.bG H2 x k:=by
        have nx:=hx1.ne er1;exact⟨b,dx,k2 _ _ ex1 (by simpa using nx)⟩
       have ex2:=k2 _ _ ex1 (by simpa using hx1.ne er1);have hlen:fs.length=arity w:=by
        unfold iy at htp;cases e1:takeSign 40 (ts.drop (n+1))with
        |error f=>
         rw[e1]at htp;cases htp
        |ok l3=>
         rw[e1]at htp;dsimp only at htp;cases e2:takeForm us lv l3 with
         |error f=>
          rw[e2]at htp;cases htp
         |ok p=>
          obtain⟨a,l4⟩:=p;rw[e2]at htp;have:=yP htp;simp at this;lia
       exact⟨V.str (strOf w),Wq ex2 T.bb.cl (T.bb.no _ VW) hld,W0 w pl sp us.length fs tbs ⟨rfl,ha,hlen,hpl,hT,(hF1.Mb hR1 k2).sc,λtb htb=>q m2 H2 hm2 hR2 (k1.trans k2) tb htb⟩⟩
     |false=>
      rw[hp,ah aj]at q;refine cq ⟨V.str (strOf w),Wq ex1 T.bb.cl (T.bb.no _ VW) hld,rfl,?_⟩;rw[wq s_true];obtain⟨dxs,vl,vts,es,hV⟩:=hF1.sc.ex;refine c6 (λh1=>?_) λh1=>?_
      ·rw[ao (aD h1)]at q;exact⟨_,Wq es T.bg.cl (T.bg.no _ VW) rfl,q (n+1) H' rfl hR1 k1 _ (xy _)⟩
      rw[ah (λz=>h1 (au z))]at q;refine⟨V.str (strOf w),Wq ex1 T.bb.cl (T.bb.no _ VW) hld,rfl,?_⟩;rw[wq s_false];refine c6 (λh2=>?_) λh2=>?_
      ·rw[ao (aD h2)]at q;exact q (n+1) H' rfl hR1 k1 _ (Cp _)
      rw[ah (λz=>h2 (au z))]at q;refine⟨r,x,nl,sp,ts,n+1,us,k,w,rfl,hR1,hx1,hkk,hF1.nm,hF1.sc,?_⟩;cases hnm:named us k.place w (ts.drop (n+1))with
      |error f=>
       rw[hnm]at q;exact cP.to q k1
      |ok p=>
       obtain⟨g,l⟩:=p;rw[hnm]at q;intro hl tb htb;exact q (n+1) H' hl.symm hR1 k1 tb htb
theorem tq(hPa:AN P w K mg "PARTS" gN):∀lv:Nat,dQ P w K mg base (6+2*lv) t.jA ["reader","names","space","depth"] (zR t.cB t.bG t.cX t.b8 lv)
 |0=>kZ T hPa (lv:=0) (T.rV.ok (k:=4) oM (λvs H Q E h=>h.elim) (λcdv A outer s H vs Q E hr h=>h.elim))
 |lv+1=>by
  have F:=DH T (tq hPa lv);have G:=kZ (base:=base) T hPa (lv:=lv+1) (dQ.mono F VX);exact dQ.mono G VX
end
open Vaprbg(readForm)
theorem FO.same{CS:Addr}{H H':Hp}{nl sp:Addr}{us:List Var}(h:FO CS H nl sp us)(s:bq H H'):FO CS H' nl sp us:=⟨s _ _ h.nm,h.sc.same s⟩
theorem FP(us:List Var)(b:Bytes):readForm us b=match VaprbBase.tokens b with
 | .error f=>.error f
 | .ok l=>(match takeForm us 24 l with
   | .error f=>.error f
   | .ok (f,l)=>if next .halt_ l=true then .ok f else .error ⟨3,here l⟩):=by
 unfold readForm;simp only[bind,Except.bind];cases VaprbBase.tokens b with
 |error f=>rfl
 |ok l=>
  dsimp only;have e:Vaprbg.DEPTH=24:=rfl;rw[e];cases takeForm us 24 l with
  |error f=>rfl
  |ok p=>rfl
def Ct(K:PySem.W.Frag)(CF CS:Addr):Sp:=λvs H Q E=>∃(a nl sp:Addr)(l:Bytes)(us:List Var),vs=[.ref a,.ref nl,.ref sp]/\FA K H a l/\FO CS H nl sp us/\match readForm us l with
 | .error f=>ez CF H (yf [.int f.code,.int f.place]) E
 | .ok f=>∀(tb:Nat)(H':Hp),cu us.length (λas=>f.val as) tb->bq H H'->Q (.int tb) H'
section
include T
theorem zS(hPa:AN P w K mg "PARTS" gN):dQ P w K mg base 55 t.pk ["text","names","space"] (Ct K t.cX t.b8):=by
 refine T.sI.ok j5 (λvs H Q E h=>?_) (λcdv A outer s H vs Q E hr h=>?_)
 ·obtain⟨a,nl,sp,l,us,rfl,_⟩:=h;rfl
 ·obtain⟨a,nl,sp,l,us,rfl,hS,hF,q⟩:=h;refine⟨_,(ag (a9 (i:=3) j5.nd rfl (Or.inl rfl) (oj (va T) T.bS.lM T.bS.ma (hr.mono VW) aS.passes (aa (Wo 0) ai))) (ag (a9 (i:=4) j5.nd rfl (Or.inl rfl) (cH (tq T hPa 24) T.jJ (hr.mono VW) aS.passes (aa (Wo 3) (aa (Wo 1) (aa (Wo 2) (aa aK ai)))))) (ag (cj (qR (Wy (fh (oz T) T.bS.cl T.kl (hr.mono VW) bF (Wo 3)))) (az (bw (fh (fU T) T.bS.cl T.fz (hr.mono VW) aS.passes (Wo 3)))) bo) (az (aX (Wo 4)))))),?_⟩;rw[FP]at q;refine λr dx nr nd ne=>⟨r,dx,a,l,rfl,aC,?_,?_⟩
  ·exact bq.seq (bq.made nr nd λb o e _=>e) hS
  cases ht:VaprbBase.tokens l with
  |error f=>
   rw[ht]at q;exact ez.same q (bq.made nr nd λb o e _=>e)
  |ok ts=>
   rw[ht]at q;dsimp only at q;intro H1 hR1 kp1;have s1:bq H H1:=bq.made nr nd kp1;have fS:∀b∈[r],H b=none:=by
    intro b hb;simp at hb;subst hb;exact nr
   refine⟨rfl,r,nl,sp,ts,0,1,us,rfl,rfl,hR1,hF.same s1,?_⟩;rw[fw];cases hf:takeForm us 24 ts with
   |error f=>
    rw[hf]at q;exact ez.wide q s1 fS
   |ok p=>
    obtain⟨f,l2⟩:=p;rw[hf]at q;dsimp only at q;intro m H2 hm hR2 k2 tb htb;have s2:bq H H2:=k2.same s1 fS;obtain⟨dxr,ls,er,_⟩:=hR2.ex;refine⟨Ws er rfl,r,ts,m,rfl,hR2,?_⟩;rw[<-hm]at q;cases hh:next .halt_ (ts.drop m)with
    |true=>
     rw[hh,ao rfl]at q;exact cq (q tb H2 htb s2)
    |false=>
     rw[hh,ah aj]at q;exact d4 ⟨Ws er rfl,r,ts,m,rfl,hR2,ez.same q s2⟩
end
end TS
namespace TM
open Vaprbg (Node put build)
abbrev c4:=Vaprbg.Store
abbrev Fn:=Vaprbg.Fn
theorem yQ(s:c4)(m:Node):∃e,(put s m).1=s++e/\e.length<=1:=by
 unfold put;by_cases h:m.lo=m.hi
 ·rw[ao h];exact⟨[],by simp,by simp⟩
 ·rw[ah h];cases s.findIdx? λx=>x==m with
  |some i=>exact⟨[],by simp,by simp⟩
  |none=>exact⟨[m],rfl,by simp⟩
theorem jm(f:Fn):∀(n:Nat)(as:List Bool)(s:c4),∃e,(build f n as s).1=s++e/\e.length+1<=2^n
 |0,as,s=>⟨[],by simp[build],by simp⟩
 |n+1,as,s=>by
  obtain⟨e1,h1,l1⟩:=jm f n (as++[false]) s;obtain⟨e2,h2,l2⟩:=jm f n (as++[true]) (build f n (as++[false]) s).1;obtain⟨e3,h3,l3⟩:=yQ (build f n (as++[true]) (build f n (as++[false]) s).1).1 ⟨as.length,(build f n (as++[false]) s).2,(build f n (as++[true]) (build f n (as++[false]) s).1).2⟩;refine⟨e1++e2++e3,?_,?_⟩
  ·rw[build];rw[h3,h2,h1];simp
  ·rw[aE,aE,dM];lia
theorem AO{s t:c4}{m:Node}{i:Nat}(h:(s.findIdx? λx=>x==m)=some i):((s++t).findIdx? λx=>x==m)=some i:=by
 rw[kD,h];rfl
theorem PZ{s t:c4}{m:Node}{d:Nat}(h:put s m=(s,d)):put (s++t) m=(s++t,d):=by
 unfold put at h⊢;by_cases hm:m.lo=m.hi
 ·rw[ao hm]at h⊢;injection h with _ h
  rw[h]
 ·rw[ah hm]at h⊢;cases hf:s.findIdx? λx=>x==m with
  |some i=>
   rw[hf]at h;rw[AO hf];injection h with _ h
   dsimp only;rw[<-h]
  |none=>
   rw[hf]at h;injection h with h _
   have:=bJ List.length h;simp at this
theorem Lq(s:c4)(m:Node):put (put s m).1 m=((put s m).1,(put s m).2):=by
 by_cases hm:m.lo=m.hi
 ·have e:put s m=(s,m.lo):=by unfold put;rw[ao hm]
  rw[e];exact e
 ·cases hf:s.findIdx? λx=>x==m with
  |some i=>
   have e:put s m=(s,i+2):=by unfold put;rw[ah hm,hf]
   rw[e];exact e
  |none=>
   have e:put s m=(s++[m],s.length+2):=by unfold put;rw[ah hm,hf]
   rw[e];unfold put;rw[ah hm,kD,hf];simp
theorem Sj{s e:c4}(h:s++e=s):e=[]:=by
 have:=bJ List.length h;simpa using this
theorem qI{f:Fn}:∀{n:Nat}{as:List Bool}{s:c4}{d:Nat}(t:c4),build f n as s=(s,d)->build f n as (s++t)=(s++t,d)
 |0,as,s,d,t,h=>by
  rw[build]at h⊢;injection h with _ h
  rw[h]
 |n+1,as,s,d,t,h=>by
  rw[build]at h⊢;obtain⟨e1,h1,_⟩:=jm f n (as++[false]) s;obtain⟨e2,h2,_⟩:=jm f n (as++[true]) (build f n (as++[false]) s).1;obtain⟨e3,h3,_⟩:=yQ (build f n (as++[true]) (build f n (as++[false]) s).1).1 ⟨as.length,(build f n (as++[false]) s).2,(build f n (as++[true]) (build f n (as++[false]) s).1).2⟩;have hs:=bJ Prod.fst h;dsimp only at hs;rw[h3,h2,h1,bK,bK]at hs;have z:=Sj hs;have z1:e1=[]:=(List.append_eq_nil_iff.mp z).1;have z2:e2=[]:=(List.append_eq_nil_iff.mp (List.append_eq_nil_iff.mp z).2).1;subst z1 z2;rw[bD]at h1 h2;rw[h1]at h2;have b1:build f n (as++[false]) s=(s,(build f n (as++[false]) s).2):=Prod.ext h1 rfl;rw[h1]at h;have b2:build f n (as++[true]) s=(s,(build f n (as++[true]) s).2):=Prod.ext h2 rfl;rw[h2]at h;rw[qI t b1];dsimp only;rw[qI t b2];dsimp only;exact PZ h
theorem vd(f:Fn):∀(n:Nat)(as:List Bool)(s:c4),build f n as (build f n as s).1=((build f n as s).1,(build f n as s).2)
 |0,as,s=>by simp only[build]
 |n+1,as,s=>by
  obtain⟨e2,h2,_⟩:=jm f n (as++[true]) (build f n (as++[false]) s).1;obtain⟨e3,h3,_⟩:=yQ (build f n (as++[true]) (build f n (as++[false]) s).1).1 ⟨as.length,(build f n (as++[false]) s).2,(build f n (as++[true]) (build f n (as++[false]) s).1).2⟩;have a1:=vd f n (as++[false]) s;have a2:=vd f n (as++[true]) (build f n (as++[false]) s).1;have a3:=Lq (build f n (as++[true]) (build f n (as++[false]) s).1).1 ⟨as.length,(build f n (as++[false]) s).2,(build f n (as++[true]) (build f n (as++[false]) s).1).2⟩;have eb:build f (n+1) as s=put (build f n (as++[true]) (build f n (as++[false]) s).1).1 ⟨as.length,(build f n (as++[false]) s).2,(build f n (as++[true]) (build f n (as++[false]) s).1).2⟩:=by rw[build]
  rw[eb];have c1:=qI (e2++e3) a1;have c2:=qI e3 a2;rw[<-bK,<-h2,<-h3]at c1;rw[<-h3]at c2;rw[build,c1];dsimp only;rw[c2];dsimp only;exact a3
theorem ve{f g:Fn}:∀{n:Nat}{as bs:List Bool}(s:c4),as.length=bs.length->(∀cs:List Bool,cs.length=n->f (as++cs)=g (bs++cs))->build f n as s=build g n bs s
 |0,as,bs,s,hl,h=>by
  have e:=h [] rfl;rw[bD,bD]at e;rw[build,build,e]
 |n+1,as,bs,s,hl,h=>by
  have i1:∀s,build f n (as++[false]) s=build g n (bs++[false]) s:=λs=>ve s (by simp[hl]) λcs hc=>by
   rw[bK,bK];exact h _ (by simp[hc])
  have i2:∀s,build f n (as++[true]) s=build g n (bs++[true]) s:=λs=>ve s (by simp[hl]) λcs hc=>by
   rw[bK,bK];exact h _ (by simp[hc])
  rw[build,build,i1,i2,hl]
theorem P0{n:Nat}{f:List Bool->Bool}{t:Nat}(h:cu (n+1) f t):cu n (λbs=>f (false::bs)) (t&&&(2^2^n-1)):=by
 have hp:0<2^2^n:=eS VW;refine⟨nM _ VX,λas ha=>?_⟩;rw[dE,vV,au (by rw[<-ha];exact ko as),tD,<-h.at_ _ (by simp[ha])];rw[idx,f9,vW,pN]
theorem P1{n:Nat}{f:List Bool->Bool}{t:Nat}(h:cu (n+1) f t):cu n (λbs=>f (true::bs)) (t>>>2^n):=by
 refine⟨?_,λas ha=>?_⟩
 ·rw[zc,Nat.div_lt_iff_lt_mul (eS VW),<-OO];have e:2^n+2^n=2^(n+1):=by rw[dM];lia
  rw[e];exact h.lt
 ·rw[Df,<-h.at_ _ (by simp[ha]),idx,gO,fY,ha]
theorem P2{f:List Bool->Bool}{t:Nat}(h:cu 0 f t):t=if f []=true then 1 else 0:=by
 have h1:=h.lt;have h2:=h.at_ [] rfl;have e:t=0\/t=1:=by
  have:t<2:=h1;lia
 rw[<-h2];rcases e with rfl|rfl<;>rfl
end TM
namespace TS
open PySem PySem.Spec PyProof.Rows L2 TM
open Vaprbg (Node put build)
noncomputable def nk(m:Node):List Key:=[.inl (m.var:Int),.inl (m.lo:Int),.inl (m.hi:Int)]
theorem Sk{a b:Node}(h:nk a=nk b):a=b:=by
 obtain⟨a1,a2,a3⟩:=a;obtain⟨b1,b2,b3⟩:=b;unfold nk at h;injection h with h1 h
 injection h with h2 h
 injection h with h3 _
 injection h1 with h1
 injection h2 with h2
 injection h3 with h3
 have e1:a1=b1:=by exact Aj h1
 have e2:a2=b2:=by exact Aj h2
 have e3:a3=b3:=by exact Aj h3
 subst e1 e2 e3;rfl
noncomputable def qJ(m:Node):List V:=[.int m.var,.int m.lo,.int m.hi]
theorem Ji(m:Node):(nk m).map kV=qJ m:=rfl
noncomputable def kvsOf:Nat->c4->List (List Key×V)
 |_,[]=>[]
 |o,m::r=>(nk m,.int (o+2:Nat))::kvsOf (o+1) r
theorem fC:∀(o:Nat)(s:c4),(kvsOf o s).length=s.length
 |_,[]=>rfl
 |o,m::r=>by rw[kvsOf,aT,fC,aT]
theorem xA:∀(o:Nat)(s:c4)(m:Node),kvsOf o (s++[m])=kvsOf o s++[(nk m,.int (o+s.length+2:Nat))]
 |o,[],m=>rfl
 |o,x::r,m=>by
  rw[List.cons_append,kvsOf,kvsOf,xA,List.cons_append,aT];have e:o+1+r.length+2=o+(r.length+1)+2:=VX;rw[e]
theorem kq:∀(o:Nat)(s:c4)(m:Node),fv (kvsOf o s) (nk m)=(s.findIdx? λx=>x==m).map λi=>V.int (o+i+2:Nat)
 |o,[],m=>rfl
 |o,x::r,m=>by
  rw[kvsOf,List.findIdx?_cons];by_cases h:x=m
  ·rw[mv (by rw[h]),ao (by rw[h];exact Be m)];rfl
  ·rw[mw (λz=>h (Sk z)),ah (λz=>h (beq_iff_eq.mp z)),kq];cases(r.findIdx? λx=>x==m)with
   |none=>rfl
   |some i=>
    show some (V.int ((o+1+i+2:Nat):Int))=some (V.int ((o+(i+1)+2:Nat):Int));have e:o+1+i+2=o+(i+1)+2:=VX;rw[e]
abbrev Kn:=List (Nat×Nat×Nat)
noncomputable def kk(a p:Nat):List Key:=[.inl (a:Int),.inl (p:Int)]
theorem NR{a p b q:Nat}(h:kk a p=kk b q):a=b/\p=q:=by
 unfold kk at h;injection h with h1 h
 injection h with h2 _
 injection h1 with h1
 injection h2 with h2
 exact⟨Aj h1,Aj h2⟩
noncomputable def vS(kn:Kn):List (List Key×V):=kn.map λx=>(kk x.1 x.2.1,V.int (x.2.2:Nat))
theorem NS{kn:Kn}{a p:Nat}{v:V}(h:fv (vS kn) (kk a p)=some v):∃d,(a,p,d)∈kn/\v= .int (d:Nat):=by
 induction kn with
 |nil=>cases h
 |cons x r ih=>
  by_cases e:kk x.1 x.2.1=kk a p
  ·have h2:fv (vS (x::r)) (kk a p)=some (V.int (x.2.2:Nat)):=mv e;rw[h2]at h;cases h;obtain⟨e1,e2⟩:=NR e;obtain⟨x1,x2,x3⟩:=x;dsimp only at e1 e2;subst e1 e2;exact⟨x3,aV,rfl⟩
  ·have h2:fv (vS (x::r)) (kk a p)=fv (vS r) (kk a p):=mw e;rw[h2]at h;obtain⟨d,hd,hv⟩:=ih h;exact⟨d,aL _ hd,hv⟩
theorem zT(kn:Kn)(a p d:Nat):vS (kn++[(a,p,d)])=vS kn++[(kk a p,.int (d:Nat))]:=by
 unfold vS;rw[cb];rfl
def FQ(n:Nat)(s:c4)(kn:Kn):Prop:=∀a p d,(a,p,d)∈kn->∀(f:Fn)(as:List Bool),as.length=a->cu (n-a) (λbs=>f (as++bs)) p->build f (n-a) as s=(s,d)
theorem FQ.ext{n:Nat}{s:c4}{kn:Kn}(h:FQ n s kn)(e:c4):FQ n (s++e) kn:=λa p d hm f as ha ht=>qI e (h a p d hm f as ha ht)
noncomputable def Sl(sd:Addr)(n:Nat)(fd kd:Addr):List (Str×V):=[("stored",.ref sd),("count",.int n),("fresh",.ref fd),("known",.ref kd)]
structure Cu(CD:Addr)(H:Hp)(x sd fd kd:Addr)(n:Nat)(s0 nw:c4)(kn:Kn):Prop where
 ex:∃dx,H x=some (.ins CD dx (Sl sd n fd kd))
 st:H sd=some (.dT (kvsOf 0 s0))
 fr:H fd=some (.dT (kvsOf s0.length nw))
 kw:H kd=some (.dT (vS kn))
 n1:fd≠sd
 n2:kd≠sd
 n3:kd≠fd
theorem Cu.same{CD:Addr}{H H':Hp}{x sd fd kd:Addr}{n:Nat}{s0 nw:c4}{kn:Kn}(h:Cu CD H x sd fd kd n s0 nw kn)(s:bq H H'):Cu CD H' x sd fd kd n s0 nw kn:=
 let⟨dx,e⟩:=h.ex
 ⟨⟨dx,s _ _ e⟩,s _ _ h.st,s _ _ h.fr,s _ _ h.kw,h.n1,h.n2,h.n3⟩
def Jj(CD:Addr):Sp:=λvs H Q _=>∃(x b sd fd kd:Addr)(n:Nat)(s0 nw:c4)(kn:Kn)(m:Node),vs=[.ref x,.ref b]/\H b=some (.tup (qJ m))/\m.lo≠m.hi/\nw.length<10000/\Cu CD H x sd fd kd n s0 nw kn/\
 ∀(d:Nat)(nw':c4)(H':Hp),put (s0++nw) m=(s0++nw',d)->Cu CD H' x sd fd kd n s0 nw' kn->gc [fd] H H'->Q (.int d) H'
section
include T
theorem yR:dQ P w K mg base 1 t.jF ["self","node"] (Jj t.cT):=by
 refine T.qt.ok yd (λvs H Q E h=>?_) (λcdv A outer s H vs Q E hr h=>?_)
 ·obtain⟨x,b,sd,fd,kd,n,s0,nw,kn,m,rfl,_⟩:=h;rfl
 ·obtain⟨x,b,sd,fd,kd,n,s0,nw,kn,m,rfl,hb,hm,hz,hD,q⟩:=h;obtain⟨dx,ex⟩:=hD.ex;have hu:(tY (Ar P w) P w K mg base ["self","node"] "Draft.numbered" (aI ip) t.jF cdv A outer s H E).A.units+1<cLine:=by
   have:=hr.units;show(A.deeper _).units+1<cLine;lia
  refine⟨_,(ag (cj (WB (RK hu (Wo 1) (Wp K (Wo 0) rfl))) (az (aX (E8 hu (Wp K (Wo 0) rfl) (Wo 1) (λ_ _=>rfl)))) bo) (ag (d5 (cj (WB (zu hu (Wo 1) (Wp K (Wo 0) rfl))) (az (Bk hu (Wp K (Wo 0) rfl) (Wo 1) (bI fH.j (bI fH.j aK (b6 pY rfl T.gP bf (aa (Wp K (Wo 0) rfl) ai))) (b6 pY rfl T.gP bf (aa (Wp K (Wo 0) rfl) ai))) rfl)) bo)) (az (aX (E8 hu (Wp K (Wo 0) rfl) (Wo 1) (λ_ _=>rfl)))))),?_⟩;rw[<-Ji]at hb;refine⟨_,Wq ex T.bT.cl (T.bT.no _ VW) rfl,sd,_,rfl,tF.t hD.st hb,?_⟩;rw[kq];cases hf:s0.findIdx? λx=>x==m with
  |some i=>
   have hg:=tF.t hD.st hb;rw[kq,hf]at hg;refine d4 ⟨_,Wq ex T.bT.cl (T.bT.no _ VW) rfl,sd,_,rfl,hg,q (0+i+2) nw H ?_ hD gc.refl⟩;unfold put;rw[ah hm,AO hf,pN]
  |none=>
   refine cq ⟨λσ H'=>∃(nw':c4)(j:Nat),σ=[some (.ref x),some (.ref b)]/\Cu t.cT H' x sd fd kd n s0 nw' kn/\(nw'.findIdx? λx=>x==m)=some j/\put (s0++nw) m=(s0++nw',s0.length+j+2)/\gc [fd] H H'/\H' b=some (.tup ((nk m).map kV)),?_,?_⟩
   ·refine⟨_,Wq ex T.bT.cl (T.bT.no _ VW) rfl,fd,_,rfl,tF.t hD.fr hb,?_⟩;rw[kq];cases hg:nw.findIdx? λx=>x==m with
    |some j=>
     refine cq ⟨nw,j,rfl,hD,hg,?_,gc.refl,hb⟩;unfold put;rw[ah hm,kD,hf,hg];show(s0++nw,j+s0.length+2)=_;rw[L8 j]
    |none=>
     have en:fv (kvsOf s0.length nw) (nk m)=none:=by rw[kq,hg];rfl
     refine d4 ⟨_,Wq ex T.bT.cl (T.bT.no _ VW) rfl,sd,_,rfl,hD.st,_,Wq ex T.bT.cl (T.bT.no _ VW) rfl,fd,_,rfl,hD.fr,_,Wq ex T.bT.cl (T.bT.no _ VW) rfl,fd,_,rfl,Dt.t hD.fr hb ?_,nw++[m],nw.length,rfl,⟨⟨dx,ak ex (cn ex hD.fr λz=>nomatch z)⟩,ak hD.st (bh hD.n1),?_,ak hD.kw hD.n3,hD.n1,hD.n2,hD.n3⟩,?_,?_,?_,ak hb (cn hb hD.fr λz=>nomatch z)⟩
     ·rw[fC,aM];lia
     ·rw[aC,xV _ en,xA,fC,fC];have e:(2:Int)+(s0.length:Nat)+(nw.length:Nat)=((s0.length+nw.length+2:Nat):Int):=VX;show some (HO.dT (kvsOf s0.length nw++[(nk m,V.int ((2:Int)+(s0.length:Nat)+(nw.length:Nat)))]))=_;rw[e]
     ·rw[kD,hg];simp
     ·unfold put;rw[ah hm,kD,hf,hg];simp
     ·exact λc o e nc=>ak e (by simpa using nc)
   ·rintro σ H' ⟨nw',j,rfl,hD',hj,hput,k',hb'⟩;obtain⟨dx',ex'⟩:=hD'.ex;have hg:=tF.t hD'.fr hb';rw[kq,hj]at hg;exact⟨_,Wq ex' T.bT.cl (T.bT.no _ VW) rfl,fd,_,rfl,hg,q _ nw' H' hput hD' k'⟩
end
def zU(CD:Addr)(r:Nat):Sp:=λvs H Q _=>∃(x sd fd kd:Addr)(n a p:Nat)(s0 nw:c4)(kn:Kn)(f:Fn)(as:List Bool),vs=[.ref x,.int a,.int p]/\a+r=n/\n<=12/\as.length=a/\cu r (λbs=>f (as++bs)) p/\
 Cu CD H x sd fd kd n s0 nw kn/\FQ n (s0++nw) kn/\nw.length+2^r<=9000/\kn.length+2^r<=9000/\
 ∀(d:Nat)(nw':c4)(kn':Kn)(H':Hp),build f r as (s0++nw)=(s0++nw',d)->Cu CD H' x sd fd kd n s0 nw' kn'->FQ n (s0++nw') kn'->nw'.length+1<=nw.length+2^r->kn'.length+1<=kn.length+2^r->(∀a' p',a'<a->fv (vS kn') (kk a' p')=fv (vS kn) (kk a' p'))->gc [fd,kd] H H'->Q (.int d) H'
theorem Lr{n r:Nat}{s s':c4}{kn:Kn}{f:Fn}{as:List Bool}{p d:Nat}(hn:as.length+r=n)(hk:FQ n s' kn)(hb:build f r as s=(s',d))(ht:cu r (λbs=>f (as++bs)) p):FQ n s' (kn++[(as.length,p,d)]):=by
 intro a q e hm g bs hl hg;rcases List.mem_append.mp hm with h|h
 ·exact hk a q e h g bs hl hg
 ·have z:=List.mem_singleton.mp h;injection z with z1 z
  injection z with z2 z3
  subst z1 z2 z3;have er:n-as.length=r:=VX;rw[er]at hg⊢;have ef:=vd f r as s;rw[hb]at ef;rw[<-ef];refine ve s' hl λcs hc=>?_;rw[<-hg.at_ cs hc,<-ht.at_ cs hc]
theorem FR{kvs:List (List Key×V)}{k k':List Key}{v:V}(h:k≠k'):fv (kvs++[(k,v)]) k'=fv kvs k':=by
 unfold fv;rw[List.find?_append];cases(kvs.find? λkv=>decide (kv.1=k'))with
 |some y=>rfl
 |none=>
  show((List.find? (λkv=>decide (kv.1=k')) [(k,v)]).map λx=>x.2)=none;rw[c8];dsimp only;rw[aQ h];rfl
theorem Ls{kvs:List (List Key×V)}{k:List Key}{v:V}(h:fv kvs k=none):fv (kvs++[(k,v)]) k=some v:=by
 unfold fv at h⊢;rw[List.find?_append];have e:(kvs.find? λkv=>decide (kv.1=k))=none:=by simpa using h
 rw[e];show((List.find? (λkv=>decide (kv.1=k)) [(k,v)]).map λx=>x.2)=some v;rw[c8];dsimp only;rw[au rfl];rfl
section
include T
theorem jX{r:Nat}{sp:Sp}(F:dQ P w K mg base (2+r) t.gD ["self","asked","part"] sp)(hsp:∀r',r=r'+1->sp=zU t.cT r'):dQ P w K mg base (2+r+1) t.gD ["self","asked","part"] (zU t.cT r):=by
 refine T.lQ.ok eZ (λvs H Q E h=>?_) (λcdv A outer s H vs Q E hr h=>?_)
 ·revert h;refine W7 λx sd fd kd=>W7 λn a p s0=>W7 λnw kn f as=>W9 λe0_ _=>?_;subst e0_;rfl
 ·revert h;refine W7 λx sd fd kd=>W7 λn a p s0=>W7 λnw kn f as=>Xb λe0_ hn hn12 hal hp=>Xe λhD hK hb1 hb2 q=>?_;subst e0_;obtain⟨dx,ex⟩:=hD.ex;have hu:(tY (Ar P w) P w K mg base ["self","asked","part","key","half","no","yes"] "Draft.diagram" (aI iS) t.gD cdv A outer s H E).A.units+1<cLine:=by
   have:=hr.units;show(A.deeper _).units+1<cLine;lia
  refine⟨_,(ag (cj (Wv cQ (Wo 1) (Wp K (Wo 0) rfl) (bu _)) (az (aX (Wo 2))) bo) (ag (a9 (i:=3) eZ.nd rfl (Or.inl rfl) (qV (aa (Wo 1) (aa (Wo 2) ai)))) (ag (d5 (cj (WB (zu hu (Wo 3) (Wp K (Wo 0) rfl))) (ag (a9 (i:=4) eZ.nd rfl (Or.inl rfl) (bI iw aK (bI fO.j (bI fO.j (Wp K (Wo 0) rfl) aK) (Wo 1)))) (ag (a9 (i:=5) eZ.nd rfl (Or.inl rfl) (bR F T.bT.cl T.fA (hr.mono VX) bF (Wo 0) (aa (bI fH.j (Wo 1) aK) (aa (bI iU (Wo 2) (cH (FN T) T.Fu (hr.mono VX) bF (aa (Wo 4) ai))) ai)))) (ag (a9 (i:=6) eZ.nd rfl (Or.inl rfl) (bR F T.bT.cl T.fA (hr.mono VX) bF (Wo 0) (aa (bI fH.j (Wo 1) aK) (aa (bI Bw (Wo 2) (Wo 4)) ai)))) (az (Bk hu (Wp K (Wo 0) rfl) (Wo 3) (Pu (tS (Wv cQ (Wo 5) (Wo 6) (bu _)) (Wo 5) (bR (yR T) T.bT.cl T.qu (hr.mono VX) bF (Wo 0) (aa (qV (aa (Wo 1) (aa (Wo 5) (aa (Wo 6) ai)))) ai)))) rfl))))) bo)) (az (aX (E8 hu (Wp K (Wo 0) rfl) (Wo 3) (λ_ _=>rfl))))))),?_⟩;refine⟨_,Wq ex T.bT.cl (T.bT.no _ VW) rfl,rfl,?_⟩;cases r with
  |zero=>
   have e:a=n:=VX;subst e;rw[au rfl];refine d4 ?_;have hp0:=P2 hp;refine q p nw kn H ?_ hD hK (by simp) (by simp) (λ_ _ _=>rfl) gc.refl;rw[build,hp0,bD]
  |succ r=>
   have hsp:=hsp r rfl;subst hsp;rw[aQ (λz=>by injection z with z;lia)];refine cq ⟨(by show 2<=sizeLine;rw[aM];decide),λkb nkb=>?_⟩;have s1:bq H (upd H kb (.tup [.int a,.int p])):=λc o e=>ak e (aq e nkb);have hkb:upd H kb (.tup [.int a,.int p]) kb=some (.tup ((kk a p).map kV)):=aC;have hD1:=hD.same s1;have e1:upd H kb (.tup [.int a,.int p]) kb=some (.tup ((kk a p).map kV)):=aC;have kp1:gc [fd,kd] H (upd H kb (.tup [.int a,.int p])):= .of s1;revert s1 hkb hD1 e1 kp1;generalize upd H kb (.tup [.int a,.int p])=H1;intro s1 hkb hD1 e1 kp1;obtain⟨dx1,ex1⟩:=hD1.ex;have h2r:2^(r+1)=2^r+2^r:=by rw[dM];lia
   have hr12:2^r<=4096:=qH VX;have hr0:1<=2^r:=eS VW;refine⟨λσ H'=>∃(nw':c4)(kn':Kn)(d:Nat)(v4 v5 v6:Option V),σ=[some (.ref x),some (.int a),some (.int p),some (.ref kb),v4,v5,v6]/\Cu t.cT H' x sd fd kd n s0 nw' kn'/\FQ n (s0++nw') kn'/\build f (r+1) as (s0++nw)=(s0++nw',d)/\fv (vS kn') (kk a p)=some (.int (d:Nat))/\H' kb=some (.tup ((kk a p).map kV))/\nw'.length+1<=nw.length+2^(r+1)/\kn'.length+1<=kn.length+2^(r+1)/\(∀a' p',a'<a->fv (vS kn') (kk a' p')=fv (vS kn) (kk a' p'))/\gc [fd,kd] H H',?_,?_⟩
   ·refine⟨_,Wq ex1 T.bT.cl (T.bT.no _ VW) rfl,kd,_,rfl,tF.t hD1.kw hkb,?_⟩;cases hv:fv (vS kn) (kk a p)with
    |some v=>
     obtain⟨d,hd,rfl⟩:=NS hv;refine cq ⟨nw,kn,d,_,_,_,rfl,hD1,hK,?_,hv,hkb,VX,VX,λ_ _ _=>rfl,kp1⟩;have z:=hK a p d hd f as hal (by rw[show n-a=r+1 by lia];exact hp);rw[show n-a=r+1 by lia]at z;exact z
    |none=>
     have hlo:cu r (λbs=>f ((as++[false])++bs)) (p&&&(2^2^r-1)):=(P0 hp).congr λbs _=>by
      rw[bK];rfl
     have hhi:cu r (λbs=>f ((as++[true])++bs)) (p>>>2^r):=(P1 hp).congr λbs _=>by
      rw[bK];rfl
     refine d4 ⟨_,Wq ex1 T.bT.cl (T.bT.no _ VW) rfl,1,r,rfl,bJ V.int VX,r9,VX,?_⟩;rw[eP];refine⟨Ws ex1 rfl,2^r,rfl,VX,p,_,rfl,rfl,W1 x sd fd kd n ⟨a+1,_,s0,nw,kn,f,as++[false],rfl,VX,hn12,by simp[hal],hlo,hD1,hK,VX,VX,λd1 nw1 kn1 H2 b1 hD2 hK2 g1 g2 g3 k2=>?_⟩⟩;obtain⟨dx2,ex2⟩:=hD2.ex;refine⟨Ws ex2 rfl,p,2^r,rfl,rfl,W1 x sd fd kd n ⟨a+1,W1 _ s0 nw1 kn1 f ⟨as++[true],rfl,VX,hn12,by simp[hal],hhi,hD2,hK2,VX,VX,λd2 nw2 kn2 H3 b2 hD3 hK3 g4 g5 g6 k3=>?_⟩⟩⟩;obtain⟨dx3,ex3⟩:=hD3.ex;have nkbf:kb≠fd:=cn hkb hD1.fr λz=>nomatch z;have nkbk:kb≠kd:=cn hkb hD1.kw λz=>nomatch z;have hkb3:H3 kb=some (.tup ((kk a p).map kV)):=k3 _ _ (k2 _ _ hkb (by simp[nkbf,nkbk])) (by simp[nkbf,nkbk]);have hbd:build f (r+1) as (s0++nw)=put (s0++nw2) ⟨a,d1,d2⟩:=by
      rw[build,b1];dsimp only;rw[b2,hal]
     refine⟨λv H'=>∃(d:Nat)(nw3:c4),v= .int d/\Cu t.cT H' x sd fd kd n s0 nw3 kn2/\put (s0++nw2) ⟨a,d1,d2⟩=(s0++nw3,d)/\gc [fd] H3 H',?_,?_⟩
     ·refine⟨rfl,c6 (λh1=>?_) λh1=>?_⟩
      ·have h1':d1=d2:=by
        have z:=aD h1;injection z with z
        lia
       refine⟨d1,nw2,rfl,hD3,?_,gc.refl⟩;unfold put;rw[ao h1']
      ·have h1':d1≠d2:=λz=>h1 (au (by rw[z]));refine⟨Ws ex3 rfl,(by show 3<=sizeLine;rw[aM];decide),λb nb=>?_⟩;have s4:bq H3 (upd H3 b (.tup (qJ ⟨a,d1,d2⟩))):=λc o e=>ak e (aq e nb);refine W5 x b sd fd kd n s0 nw2 kn2 ⟨⟨a,d1,d2⟩,rfl,aC,h1',VX,hD3.same s4,λd nw3 H' hput hD' k'=>⟨d,nw3,rfl,hD',hput,(gc.of s4).trans k'⟩⟩
     ·intro v H4;refine W6 λd nw3=>Xd λe0_ hD4 hput k4=>?_;subst e0_;obtain⟨dx4,ex4⟩:=hD4.ex;have hkb4:H4 kb=some (.tup ((kk a p).map kV)):=k4 _ _ hkb3 (by simp[nkbf]);have en:fv (vS kn2) (kk a p)=none:=by rw[g6 a p VX,g3 a p VX,hv]
      have hk4:gc [fd,kd] H H4:=((kp1.trans k2).trans k3).trans (k4.mono (by simp));have hl3:nw3.length<=nw2.length+1:=by
       obtain⟨e,he,hle⟩:=yQ (s0++nw2) ⟨a,d1,d2⟩;rw[hput]at he;have:=bJ List.length he;simp at this;lia
      have hK4:FQ n (s0++nw3) kn2:=by
       obtain⟨e,he,hle⟩:=yQ (s0++nw2) ⟨a,d1,d2⟩;rw[hput]at he;dsimp only at he;rw[he];exact hK3.ext e
      rw[hput]at hbd;have hKn:=Lr VX hK4 hbd hp;rw[hal]at hKn;refine⟨_,Wq ex4 T.bT.cl (T.bT.no _ VW) rfl,kd,_,rfl,Dt.t hD4.kw hkb4 ?_,nw3,kn2++[(a,p,d)],WY d _ _ _ ⟨rfl,⟨⟨dx4,ak ex4 (cn ex4 hD4.kw λz=>nomatch z)⟩,ak hD4.st (bh hD4.n2),ak hD4.fr (bh hD4.n3),?_,hD4.n1,hD4.n2,hD4.n3⟩,hKn,hbd,?_,ak hkb4 nkbk,?_,?_,?_,?_⟩⟩
      ·unfold vS;rw[ay,aM];lia
      ·rw[aC,xV _ en,zT]
      ·rw[zT];exact Ls en
      ·lia
      ·rw[aE];show kn2.length+1+1<=_;lia
      ·intro a' p' ha';rw[zT,FR (λz=>by have:=(NR z).1;lia),g6 a' p' VX,g3 a' p' VX]
      ·exact λc o e nc=>ak (hk4 c o e nc) (by simp at nc;exact nc.2)
   ·intro σ H';refine W7 λnw' kn' d v4=>W6 λv5 v6=>Xb λe0_ hD' hK' hb' hv'=>Xe λhkb' l1 l2 l3 k'=>?_;subst e0_;obtain⟨dx',ex'⟩:=hD'.ex;have hg:=tF.t hD'.kw hkb';rw[hv']at hg;exact⟨_,Wq ex' T.bT.cl (T.bT.no _ VW) rfl,kd,_,rfl,hg,q d nw' kn' H' hb' hD' hK' l1 l2 l3 k'⟩
theorem iz:∀r:Nat,dQ P w K mg base (3+r) t.gD ["self","asked","part"] (zU t.cT r)
 |0=>jX T (r:=0) (sp:=λ_ _ _ _=>False) (T.lQ.ok (k:=1) eZ (λvs H Q E h=>h.elim) (λcdv A outer s H vs Q E hr h=>h.elim)) (λr' h=>nomatch h)
 |r+1=>dQ.mono (jX T (r:=r+1) (dQ.mono (iz r) VX) (λr' h=>by injection h with h;rw[h])) VX
end
end TS
namespace TM
open Vaprbg (Node put build nodeOf follow says)
noncomputable def root(n:Nat)(s:c4)(d:Nat):Nat:=match nodeOf s d with
 |some m=>m.var
 |none=>n
structure WF(n:Nat)(s:c4):Prop where
 nd:∀(i:Nat)(m:Node),s[i]?=some m->m.var<n/\m.lo<i+2/\m.hi<i+2/\m.lo≠m.hi/\m.var<root n s m.lo/\m.var<root n s m.hi
 un:s.Nodup
theorem NT(n:Nat):WF n []:=⟨λi m h=>(nomatch h),List.nodup_nil⟩
theorem qK{s:c4}{d:Nat}{m:Node}(h:nodeOf s d=some m):2<=d/\d<s.length+2/\s[d-2]?=some m:=by
 unfold nodeOf at h;by_cases h2:d<2
 ·rw[ao h2]at h;cases h
 ·rw[ah h2]at h;have:=(List.getElem?_eq_some_iff.mp h).1;exact⟨VX,VX,h⟩
theorem nu{s e:c4}{d:Nat}(h:d<s.length+2):nodeOf (s++e) d=nodeOf s d:=by
 unfold nodeOf;by_cases h2:d<2
 ·rw[ao h2,ao h2]
 ·rw[ah h2,ah h2,bO VX]
theorem nv(s:c4)(m:Node):nodeOf (s++[m]) (s.length+2)=some m:=by
 unfold nodeOf;rw[ah VX,nP,bA (aH _),eO];rfl
theorem lb{n:Nat}{s e:c4}{d:Nat}(h:d<s.length+2):root n (s++e) d=root n s d:=by
 unfold root;rw[nu h]
theorem WF.node{n:Nat}{s:c4}(w:WF n s){d:Nat}{m:Node}(h:nodeOf s d=some m):m.var<n/\m.lo<d/\m.hi<d/\m.lo≠m.hi/\m.var<root n s m.lo/\m.var<root n s m.hi:=by
 obtain⟨h1,h2,h3⟩:=qK h;obtain⟨a,b,c,e⟩:=w.nd _ m h3;exact⟨a,VX,VX,e⟩
theorem gd{s:c4}{as:List Bool}{d:Nat}(h:nodeOf s d=none):∀k,follow s as k d=(d==1)
 |0=>rfl
 |k+1=>by rw[follow,h]
theorem kI{n:Nat}{s:c4}(w:WF n s)(as:List Bool):∀(k j d:Nat),n-root n s d<=k->n-root n s d<=j->follow s as k d=follow s as j d
 |0,j,d,hk,hj=>by
  have h:nodeOf s d=none:=by
   cases h:nodeOf s d with
   |none=>rfl
   |some m=>
    have e:root n s d=m.var:=by unfold root;rw[h]
    have:=(w.node h).1;lia
  rw[gd h,gd h]
 |k+1,j,d,hk,hj=>by
  cases h:nodeOf s d with
  |none=>rw[gd h,gd h]
  |some m=>
   have e:root n s d=m.var:=by unfold root;rw[h]
   obtain⟨h1,h2,h3,h4,h5,h6⟩:=w.node h;obtain⟨j',rfl⟩:∃j',j=j'+1:=⟨j-1,VX⟩;rw[follow,follow,h];dsimp only;split
   ·exact kI w as k j' _ VX VX
   ·exact kI w as k j' _ VX VX
theorem jn{n:Nat}{s:c4}(w:WF n s)(hn:n<=12){d:Nat}{m:Node}(h:nodeOf s d=some m)(as:List Bool):says s d as=if as[m.var]?=some true then says s m.hi as else says s m.lo as:=by
 have e12:Vaprbg.VARS=12:=rfl;unfold says;rw[e12];show follow s as (12+1) d=_;rw[follow,h];dsimp only;obtain⟨h1,h2,h3,h4,h5,h6⟩:=w.node h;split
 ·exact kI w as _ _ _ VX VX
 ·exact kI w as _ _ _ VX VX
theorem qL{s:c4}{d:Nat}(h:d<2)(as:List Bool):says s d as=(d==1):=gd (by unfold nodeOf;rw[ao h]) _
theorem xB{n:Nat}{s:c4}(w:WF n s)(e:c4)(as:List Bool):∀(k d:Nat),d<s.length+2->follow (s++e) as k d=follow s as k d
 |0,d,_=>rfl
 |k+1,d,hd=>by
  rw[follow,follow,nu hd];cases h:nodeOf s d with
  |none=>rfl
  |some m=>
   obtain⟨h1,h2,h3,h4⟩:=w.node h;dsimp only;split
   ·exact xB w e as k _ VX
   ·exact xB w e as k _ VX
theorem qM{n:Nat}{s:c4}(w:WF n s)(e:c4){d:Nat}(hd:d<s.length+2)(as:List Bool):says (s++e) d as=says s d as:=xB w e as _ d hd
theorem WF.snoc{n:Nat}{s:c4}(w:WF n s){m:Node}(hv:m.var<n)(hl:m.lo<s.length+2)(hh:m.hi<s.length+2)(hne:m.lo≠m.hi)(rl:m.var<root n s m.lo)(rh:m.var<root n s m.hi)(hm:m∉s):WF n (s++[m]):=by
 refine⟨λi x h=>?_,?_⟩
 ·by_cases hi:i<s.length
  ·rw[bO hi]at h;obtain⟨a,b,c,d,e,f⟩:=w.nd i x h;rw[lb VX,lb VX];exact⟨a,b,c,d,e,f⟩
  ·have ei:i=s.length:=by
    have:=(List.getElem?_eq_some_iff.mp h).1;rw[aE]at this;simp at this;lia
   subst ei;rw[bA (aH _),eO]at h;cases h;rw[lb hl,lb hh];exact⟨hv,hl,hh,hne,rl,rh⟩
 ·rw[zi];refine⟨w.un,by simp,λa ha b hb=>?_⟩;rw[List.mem_singleton.mp hb];intro z;exact hm (z▸ha)
theorem Sm{n:Nat}{s:c4}(w:WF n s)(hn:n<=12){m:Node}(hv:m.var<n)(hl:m.lo<s.length+2)(hh:m.hi<s.length+2)(rl:m.var<root n s m.lo)(rh:m.var<root n s m.hi):
 WF n (put s m).1/\(put s m).2<(put s m).1.length+2/\m.var<=root n (put s m).1 (put s m).2/\∀as,says (put s m).1 (put s m).2 as=if as[m.var]?=some true then says s m.hi as else says s m.lo as:=by
 by_cases hne:m.lo=m.hi
 ·have e:put s m=(s,m.lo):=by unfold put;rw[ao hne]
  rw[e];refine⟨w,hl,ll rl,λas=>?_⟩;dsimp only;rw[hne];split<;>rfl
 ·cases hf:s.findIdx? λx=>x==m with
  |some i=>
   have e:put s m=(s,i+2):=by unfold put;rw[ah hne,hf]
   obtain⟨hi,hp,_⟩:=List.findIdx?_eq_some_iff_getElem.mp hf;have hm:nodeOf s (i+2)=some m:=by
    unfold nodeOf;rw[ah VX,nP,af hi];exact bJ some (beq_iff_eq.mp hp)
   rw[e];refine⟨w,by show i+2<s.length+2;lia,?_,λas=>jn w hn hm as⟩;show m.var<=root n s (i+2);unfold root;rw[hm];exact aH _
  |none=>
   have e:put s m=(s++[m],s.length+2):=by unfold put;rw[ah hne,hf]
   have hm:m∉s:=λz=>by
    have:=List.findIdx?_eq_none_iff.mp hf m z;simp at this
   have w':=w.snoc hv hl hh hne rl rh hm;rw[e];refine⟨w',by simp,?_,λas=>?_⟩
   ·show m.var<=root n (s++[m]) (s.length+2);unfold root;rw[nv];exact aH _
   ·show says (s++[m]) (s.length+2) as=_;rw[jn w' hn (nv s m),qM w _ hl,qM w _ hh]
theorem vf{n:Nat}(hn:n<=12)(f:Fn):∀(r:Nat)(as:List Bool)(s:c4),WF n s->as.length+r=n->
 WF n (build f r as s).1/\(build f r as s).2<(build f r as s).1.length+2/\as.length<=root n (build f r as s).1 (build f r as s).2/\∀cs:List Bool,cs.length=r->says (build f r as s).1 (build f r as s).2 (as++cs)=f (as++cs)
 |0,as,s,w,hl=>by
  rw[build];dsimp only;have h2:(if f as=true then 1 else 0)<2:=by split<;>lia
  refine⟨w,VX,?_,λcs hc=>?_⟩
  ·unfold root nodeOf;rw[ao h2];dsimp only;lia
  ·have:cs=[]:=List.length_eq_zero_iff.mp hc;subst this;rw[bD,qL h2];cases f as<;>rfl
 |r+1,as,s,w,hl=>by
  obtain⟨w1,l1,r1,s1⟩:=vf hn f r (as++[false]) s w (by simp;lia);obtain⟨w2,l2,r2,s2⟩:=vf hn f r (as++[true]) (build f r (as++[false]) s).1 w1 (by simp;lia);obtain⟨e,he,_⟩:=jm f r (as++[true]) (build f r (as++[false]) s).1;rw[build];have l1':(build f r (as++[false]) s).2<(build f r (as++[true]) (build f r (as++[false]) s).1).1.length+2:=by
   rw[he,aE];lia
  have r1':as.length<root n (build f r (as++[true]) (build f r (as++[false]) s).1).1 (build f r (as++[false]) s).2:=by
   rw[he,lb l1];simp at r1;lia
  have r2':as.length<root n (build f r (as++[true]) (build f r (as++[false]) s).1).1 (build f r (as++[true]) (build f r (as++[false]) s).1).2:=by
   simp at r2;lia
  obtain⟨w3,l3,r3,s3⟩:=Sm w2 hn (m:=⟨as.length,(build f r (as++[false]) s).2,(build f r (as++[true]) (build f r (as++[false]) s).1).2⟩) (by show as.length<n;lia) l1' l2 r1' r2';refine⟨w3,l3,r3,λcs hc=>?_⟩;cases cs with
  |nil=>cases hc
  |cons b cs=>
   have hc':cs.length=r:=by simpa using hc
   rw[s3];have hat:(as++b::cs)[as.length]?=some b:=by
    rw[bA (aH _),eO];rfl
   show(if(as++b::cs)[as.length]?=some true then _ else _)=_;rw[hat];cases b with
   |true=>
    rw[ao rfl];have:=s2 cs hc';rw[bK]at this;exact this
   |false=>
    rw[ah (λz=>nomatch z),he,qM w1 e l1];have:=s1 cs hc';rw[bK]at this;exact this
end TM
namespace TM
open VaprbBase (Frac frac)
open Vaprbg (Node nodeOf Var chance chanceOfDiagram)
noncomputable def lh(q:Rat):Frac:=⟨q.num,q.den⟩
noncomputable def nW(a:Frac):Rat:=mkRat a.num a.den
theorem nz(n:Int)(d:Nat):frac n d=lh (mkRat n d):=by
 unfold frac lh;rw[Rat.num_mkRat,Rat.den_mkRat];by_cases h:d=0
 ·rw[ao h,ao h,ao h]
 ·rw[ah h,ah h,ah h,Nat.gcd_comm]
theorem mf(q:Rat):nW (lh q)=q:=F8 q
theorem iA(q:Rat):(lh q).den≠0:=q.den_nz
theorem P4{p q:Rat}(h:lh p=lh q):p=q:=by rw[<-mf p,h,mf]
theorem NU{a b:Frac}(ha:a.den≠0)(hb:b.den≠0):a.add b=lh (nW a+nW b):=by
 unfold Frac.add nW;rw[nz,lX _ _ ha hb]
theorem NV(a b:Frac):a.mul b=lh (nW a*nW b):=by
 unfold Frac.mul nW;rw[nz,iD]
theorem Ua(a:Frac):nW a.neg= -nW a:=by
 unfold Frac.neg nW;rw[HW]
theorem QX{a b:Frac}(ha:a.den≠0)(hb:b.den≠0):a.sub b=lh (nW a-nW b):=by
 unfold Frac.sub;rw[NU ha (by exact hb),Ua,xH]
theorem QY:Frac.one=lh 1:=rfl
theorem Sn:Frac.zero=lh 0:=rfl
noncomputable def pR(us:List Var)(v:Nat):Rat:=((us[v]?).map λx=>nW x.chance).getD 0
noncomputable def Ga(us:List Var)(s:c4):Nat->Nat->Rat
 |0,d=>if d=1 then 1 else 0
 |n+1,d=>match nodeOf s d with
  |none=>if d=1 then 1 else 0
  |some m=>(1-pR us m.var)*Ga us s n m.lo+pR us m.var*Ga us s n m.hi
structure iF(us:List Var):Prop where
 ok:∀v∈us,v.chance=lh (nW v.chance)/\0<=v.chance.num/\v.chance.num<=v.chance.den
theorem Cv{us:List Var}(hu:iF us)(s:c4):∀(k d:Nat),chance us s k d=lh (Ga us s k d)
 |0,d=>by
  unfold chance Ga;split<;>rfl
 |k+1,d=>by
  rw[chance,Ga];cases nodeOf s d with
  |none=>
   dsimp only;split<;>rfl
  |some m=>
   dsimp only;rw[Cv hu s k,Cv hu s k];have hp:((us[m.var]?).map λv=>v.chance).getD Frac.zero=lh (pR us m.var):=by
    unfold pR;cases h:us[m.var]? with
    |none=>rfl
    |some v=>exact(hu.ok v (bE h)).1
   rw[hp,QY,QX (iA _) (iA _),NV,NV,NU (iA _) (iA _)];simp only[mf]
theorem qN{us:List Var}{s:c4}{d:Nat}(h:nodeOf s d=none):∀k,Ga us s k d=if d=1 then 1 else 0
 |0=>rfl
 |k+1=>by rw[Ga,h]
theorem sf{n:Nat}{us:List Var}{s:c4}(w:WF n s):∀(k j d:Nat),n-root n s d<=k->n-root n s d<=j->Ga us s k d=Ga us s j d
 |0,j,d,hk,hj=>by
  have h:nodeOf s d=none:=by
   cases h:nodeOf s d with
   |none=>rfl
   |some m=>
    have e:root n s d=m.var:=by unfold root;rw[h]
    have:=(w.node h).1;lia
  rw[qN h,qN h]
 |k+1,j,d,hk,hj=>by
  cases h:nodeOf s d with
  |none=>rw[qN h,qN h]
  |some m=>
   have e:root n s d=m.var:=by unfold root;rw[h]
   obtain⟨h1,h2,h3,h4,h5,h6⟩:=w.node h;obtain⟨j',rfl⟩:∃j',j=j'+1:=⟨j-1,VX⟩;rw[Ga,Ga,h];dsimp only;rw[sf w k j' _ VX VX,sf w k j' m.hi VX VX]
noncomputable def Gb(us:List Var)(s:c4)(d:Nat):Rat:=Ga us s 13 d
theorem jM{us:List Var}(hu:iF us)(s:c4)(d:Nat):chanceOfDiagram us s d=lh (Gb us s d):=Cv hu s 13 d
theorem Hc{n:Nat}{us:List Var}{s:c4}(w:WF n s)(hn:n<=12){d:Nat}{m:Node}(h:nodeOf s d=some m):Gb us s d=(1-pR us m.var)*Gb us s m.lo+pR us m.var*Gb us s m.hi:=by
 unfold Gb;show Ga us s (12+1) d=_;rw[Ga,h];dsimp only;obtain⟨h1,h2,h3,h4,h5,h6⟩:=w.node h;rw[sf w 12 13 _ VX VX,sf w 12 13 m.hi VX VX]
theorem Hd{us:List Var}{s:c4}{d:Nat}(h:d<2):Gb us s d=if d=1 then 1 else 0:=qN (by unfold nodeOf;rw[ao h]) _
theorem FT{n:Nat}{us:List Var}{s:c4}(w:WF n s)(e:c4):∀(k d:Nat),d<s.length+2->Ga us (s++e) k d=Ga us s k d
 |0,d,_=>rfl
 |k+1,d,hd=>by
  rw[Ga,Ga,nu hd];cases h:nodeOf s d with
  |none=>rfl
  |some m=>
   obtain⟨h1,h2,h3,h4⟩:=w.node h;dsimp only;rw[FT w e k _ VX,FT w e k m.hi VX]
theorem P5{n:Nat}{us:List Var}{s:c4}(w:WF n s)(e:c4){d:Nat}(hd:d<s.length+2):Gb us (s++e) d=Gb us s d:=FT w e _ d hd
noncomputable def pre(us:List Var):Nat->Nat
 |0=>1
 |i+1=>pre us i*((us[i]?).map λv=>v.chance.den).getD 1
structure zV(us:List Var)(s:c4)(d w:Nat):Prop where
 ch:mkRat w (pre us us.length)=Gb us s d
 dv:pre us (root us.length s d)∣w
theorem zV.ext{us:List Var}{s:c4}(w:WF us.length s)(e:c4){d x:Nat}(hd:d<s.length+2)(h:zV us s d x):zV us (s++e) d x:=⟨by rw[P5 w e hd];exact h.ch,by rw[lb hd];exact h.dv⟩
theorem oB{us:List Var}(hu:iF us):∀i,0<pre us i
 |0=>Nat.one_pos
 |i+1=>by
  rw[pre];refine zj (oB hu i) ?_;cases h:us[i]? with
  |none=>decide
  |some v=>
   show 0<v.chance.den;rw[(hu.ok v (bE h)).1];exact gu (iA _)
theorem Ko(us:List Var):∀{i j:Nat},i<=j->pre us i∣pre us j:=by
 intro i j h
 induction h with
 |refl=>exact Nat.dvd_refl _
 |step _ ih=>exact Nat.dvd_trans ih ⟨_,rfl⟩
theorem Kq{us:List Var}(s:c4):zV us s 0 0:=⟨by
 rw[Hd VW,ah VW];exact Rat.zero_mkRat _,⟨0,rfl⟩⟩
theorem NW{us:List Var}(hu:iF us)(s:c4):zV us s 1 (pre us us.length):=⟨by
 rw[Hd VW,ao rfl];have:=oB hu us.length;rw[show(1:Rat)=mkRat 1 1 from rfl,eC VX VW];lia,by
 unfold root nodeOf;rw[ao VW];exact Nat.dvd_refl _⟩
theorem Kr{us:List Var}{s:c4}(hu:iF us)(w:WF us.length s)(hn:us.length<=12){d:Nat}{m:Node}{v:Var}{a b:Nat}(h:nodeOf s d=some m)(hv:us[m.var]?=some v)(ha:zV us s m.lo a)(hb:zV us s m.hi b):
 zV us s d (((v.chance.den-v.chance.num.toNat)*a+v.chance.num.toNat*b)/v.chance.den):=by
 obtain⟨h1,h2,h3,h4,h5,h6⟩:=w.node h;obtain⟨q1,q2,q3⟩:=hu.ok v (bE hv);have hd0:0<v.chance.den:=by
  rw[q1];exact gu (iA _)
 have ep:pre us (m.var+1)=pre us m.var*v.chance.den:=by rw[pre,hv];rfl
 obtain⟨x,hx⟩:pre us (m.var+1)∣a:=Nat.dvd_trans (Ko us VX) ha.dv;obtain⟨y,hy⟩:pre us (m.var+1)∣b:=Nat.dvd_trans (Ko us VX) hb.dv;have er:root us.length s d=m.var:=by unfold root;rw[h]
 have hp:=oB hu us.length;generalize ek:v.chance.num.toNat=k;have ek':v.chance.num=(k:Int):=VX;have hk:k<=v.chance.den:=VX;have es:(v.chance.den-k)*a+k*b=v.chance.den*(pre us m.var*((v.chance.den-k)*x+k*y)):=by
  rw[hx,hy,ep];generalize v.chance.den-k=z
  grind
 rw[es,Nat.mul_div_cancel_left _ hd0];refine⟨?_,by rw[er];exact⟨_,rfl⟩⟩;rw[Hc w hn h,<-ha.ch,<-hb.ch];have epr:pR us m.var=mkRat k v.chance.den:=by
  unfold pR;rw[hv];show nW v.chance=_;unfold nW;rw[ek']
 have e1:(1:Rat)-mkRat k v.chance.den=mkRat ((v.chance.den-k:Nat):Int) v.chance.den:=by
  rw[xH,HW,show(1:Rat)=mkRat 1 1 from rfl,lX _ _ VW VX,eC VX VX];rw[fY]
  congr 1
  lia
 rw[epr,e1,iD,iD,lX _ _ (by exact eM (zj hd0 hp)) (by exact eM (zj hd0 hp)),eC VX (by exact eM (zj (zj hd0 hp) (zj hd0 hp)))];generalize hW:pre us us.length=W;have es':(((v.chance.den-k:Nat):Int))*(a:Int)+(k:Int)*(b:Int)=(v.chance.den:Int)*((pre us m.var*((v.chance.den-k)*x+k*y):Nat):Int):=by
  have:=bJ (λz:Nat=>(z:Int)) es;simpa using this
 generalize pre us m.var*((v.chance.den-k)*x+k*y)=R at es'⊢;generalize((v.chance.den-k:Nat):Int)=zz at es'⊢;simp only[mn];generalize(v.chance.den:Int)=D at es'⊢;generalize(W:Int)=W';have e3:(zz*(a:Int)*(D*W')+(k:Int)*(b:Int)*(D*W'))*W'=(zz*(a:Int)+(k:Int)*(b:Int))*(D*W'*W'):=by grind
 rw[e3,es']
 grind
end TM
namespace TM
open VaprbBase (Frac frac)
open Vaprbg (Node nodeOf Var says allTruths chanceOf truths)
theorem ig(n:Nat):allTruths (n+1)=(allTruths n).map (λl=>false::l)++(allTruths n).map (λl=>true::l):=by
 rw[allTruths];simp
theorem gG:∀{n:Nat}{as:List Bool},as∈allTruths n->as.length=n
 |0,as,h=>by
  rw[allTruths]at h;rw[List.mem_singleton.mp h];rfl
 |n+1,as,h=>by
  rw[ig]at h;rcases List.mem_append.mp h with h|h<;>obtain⟨bs,hb,rfl⟩:=List.mem_map.mp h<;>simp[gG hb]
theorem wW:∀n:Nat,(allTruths n).map idx=List.range (2^n)
 |0=>rfl
 |n+1=>by
  rw[ig,cb,cS,cS];have e:2^(n+1)=2^n+2^n:=by rw[dM];lia
  rw[e,List.range_add,<-wW n,cS]
  congr 1
  ·apply eQ;intro as h;show idx (false::as)=idx as;rw[idx,f9,vW,pN]
  ·apply eQ;intro as h;show idx (true::as)=2^n+idx as;rw[idx,gO,fY,gG h]
theorem Jk{as:List Bool}:bitsOf as.length (idx as)=as:=Bt (cJ _ _) (jf (ko as))
theorem vg(n:Nat):allTruths n=(List.range (2^n)).map (bitsOf n):=by
 rw[<-wW,cS];have:∀as∈allTruths n,(bitsOf n∘idx) as=as:=λas h=>by
  have hl:=gG h;subst hl;exact Jk
 rw[eQ this,List.map_id']
theorem Jl{n:Nat}{f:List Bool->Bool}{t:Nat}(h:cu n f t):(allTruths n).filter f=((List.range (2^n)).filter λp=>t.testBit p).map (bitsOf n):=by
 rw[vg,Dk]
 congr 1
 apply L9;intro p hp;have hp':=List.mem_range.mp hp;show f (bitsOf n p)=t.testBit p;rw[<-h.at_ _ (cJ n p),jf hp']
noncomputable def pH:List Rat->Rat
 |[]=>0
 |x::r=>x+pH r
theorem AQ:∀a b:List Rat,pH (a++b)=pH a+pH b
 |[],b=>by
  show pH b=0+pH b;rw[Rat.zero_add]
 |x::r,b=>by
  show x+pH (r++b)=x+pH r+pH b;rw[AQ,Rat.add_assoc]
theorem Cw(c:Rat):∀l:List Rat,pH (l.map λx=>c*x)=c*pH l
 |[]=>by
  show(0:Rat)=c*0;rw[Rat.mul_zero]
 |x::r=>by
  show c*x+pH (r.map λx=>c*x)=c*(x+pH r);rw[Cw,Rat.mul_add]
theorem Ks:∀(l:List Frac)(a:Rat),(∀x∈l,x.den≠0)->l.foldl Frac.add (lh a)=lh (a+pH (l.map nW))
 |[],a,_=>by
  show lh a=lh (a+0);rw[Rat.add_zero]
 |x::r,a,h=>by
  rw[vo,NU (iA a) (h x aV),mf,Ks r _ λy hy=>h y (aL _ hy)];show lh (a+nW x+pH (r.map nW))=lh (a+(nW x+pH (r.map nW)));rw[Rat.add_assoc]
theorem Ub{l:List Frac}(h:∀x∈l,x.den≠0):Frac.sum l=lh (pH (l.map nW)):=by
 unfold Frac.sum;rw[Sn,Ks l 0 h,Rat.zero_add]
noncomputable def Kt:List Var->List Bool->Rat
 |v::vs,a::as=>(if a=true then nW v.chance else 1-nW v.chance)*Kt vs as
 |_,_=>1
theorem sg:∀{us:List Var}(hu:iF us)(as:List Bool),chanceOf us as=lh (Kt us as)
 |[],_,as=>by
  cases as<;>rfl
 |v::vs,_,[]=>rfl
 |v::vs,hu,a::as=>by
  have hv:=(hu.ok v aV).1;have hd:v.chance.den≠0:=by
   rw[hv];exact iA _
  rw[chanceOf,Kt,sg (us:=vs) ⟨λx hx=>hu.ok x (aL _ hx)⟩ as,NV,mf];cases a with
  |true=>rfl
  |false=>
   show lh (nW (Frac.one.sub v.chance)*Kt vs as)=lh ((1-nW v.chance)*Kt vs as);rw[QY,QX (iA _) hd,mf,mf]
noncomputable def sumF:List Var->(List Bool->Bool)->Rat
 |[],f=>if f []=true then 1 else 0
 |v::vs,f=>(1-nW v.chance)*sumF vs (λas=>f (false::as))+nW v.chance*sumF vs (λas=>f (true::as))
theorem nE:∀{us:List Var}{f g:List Bool->Bool},(∀as:List Bool,as.length=us.length->f as=g as)->sumF us f=sumF us g
 |[],f,g,h=>by rw[sumF,sumF,h [] rfl]
 |v::vs,f,g,h=>by rw[sumF,sumF,nE λas ha=>h (false::as) (by simp[ha]),nE λas ha=>h (true::as) (by simp[ha])]
theorem yS:∀(us:List Var)(f:List Bool->Bool),pH (((allTruths us.length).filter f).map (Kt us))=sumF us f
 |[],f=>by
  show pH ((List.filter f [[]]).map (Kt []))=_;rw[sumF,iJ];by_cases h:f []=true
  ·rw[ao h,ao h];show(1:Rat)+0=1;rw[Rat.add_zero]
  ·rw[ah h,ah h];rfl
 |v::vs,f=>by
  rw[aT,ig,gw,cb,AQ,Dk,Dk,cS,cS];have e1:∀(b:Bool)(l:List (List Bool)),l.map (Kt (v::vs)∘λas=>b::as)=(l.map (Kt vs)).map λx=>(if b=true then nW v.chance else 1-nW v.chance)*x:=λb l=>by
   rw[cS];rfl
  rw[e1,e1,Cw,Cw];have i1:=yS vs (λas=>f (false::as));have i2:=yS vs (λas=>f (true::as));have c1:(f∘λl=>false::l)=λas=>f (false::as):=rfl;have c2:(f∘λl=>true::l)=λas=>f (true::as):=rfl;rw[c1,c2,i1,i2];rfl
theorem Jm{us:List Var}(hu:iF us)(f:List Bool->Bool):Frac.sum (((allTruths us.length).filter f).map (chanceOf us))=lh (sumF us f):=by
 rw[Ub (λx hx=>by
  obtain⟨as,_,rfl⟩:=List.mem_map.mp hx;rw[sg hu];exact iA _),cS,<-yS]
 congr 2
 apply eQ;intro as _;show nW (chanceOf us as)=Kt us as;rw[sg hu,mf]
theorem Ku{us:List Var}{s:c4}(w:WF us.length s)(hn:us.length<=12):∀(r:Nat)(ps:List Bool)(d:Nat),ps.length+r=us.length->ps.length<=root us.length s d->sumF (us.drop ps.length) (λcs=>says s d (ps++cs))=Gb us s d
 |0,ps,d,hl,hr=>by
  have e:us.drop ps.length=[]:=List.drop_eq_nil_of_le VX;have hd:nodeOf s d=none:=by
   cases h:nodeOf s d with
   |none=>rfl
   |some m=>
    have e:root us.length s d=m.var:=by unfold root;rw[h]
    have:=(w.node h).1;lia
  rw[e,sumF,bD];have hs:says s d ps=(d==1):=gd hd _;have hc:Gb us s d=if d=1 then 1 else 0:=qN hd _;rw[hs,hc];by_cases h1:d=1
  ·rw[ao h1,ao (by rw[h1];rfl)]
  ·rw[ah h1,ah (λz=>h1 (beq_iff_eq.mp z))]
 |r+1,ps,d,hl,hr=>by
  have hlt:ps.length<us.length:=VX;have e:us.drop ps.length=us[ps.length]::us.drop (ps.length+1):=eY hlt;rw[e,sumF];have ep:∀b:Bool,∀d',ps.length+1<=root us.length s d'->sumF (us.drop (ps.length+1)) (λcs=>says s d' (ps++b::cs))=Gb us s d':=λb d' hr'=>by
   have:=Ku w hn r (ps++[b]) d' (by simp;lia) (by simp;lia);rw[aE]at this;simpa using this
  by_cases hroot:ps.length+1<=root us.length s d
  ·rw[ep false d hroot,ep true d hroot];generalize nW us[ps.length].chance=p;generalize Gb us s d=c
   grind
  ·have er:root us.length s d=ps.length:=by lia
   cases h:nodeOf s d with
   |none=>
    exfalso;unfold root at er;rw[h]at er;dsimp only at er;lia
   |some m=>
    have em:m.var=ps.length:=by
     unfold root at er;rw[h]at er;exact er
    obtain⟨h1,h2,h3,h4,h5,h6⟩:=w.node h;have ef:∀(b:Bool)(cs:List Bool),says s d (ps++b::cs)=if b=true then says s m.hi (ps++b::cs)else says s m.lo (ps++b::cs):=λb cs=>by
     rw[jn w hn h,em];have:(ps++b::cs)[ps.length]?=some b:=by
      rw[bA (aH _),eO];rfl
     rw[this];cases b<;>rfl
    have g1:sumF (us.drop (ps.length+1)) (λcs=>says s d (ps++false::cs))=Gb us s m.lo:=by
     rw[<-ep false m.lo VX];exact nE λcs _=>by rw[ef];rfl
    have g2:sumF (us.drop (ps.length+1)) (λcs=>says s d (ps++true::cs))=Gb us s m.hi:=by
     rw[<-ep true m.hi VX];exact nE λcs _=>by rw[ef];rfl
    rw[g1,g2,Hc w hn h];have epr:pR us m.var=nW us[ps.length].chance:=by
     unfold pR;rw[em,af hlt];rfl
    rw[epr]
theorem He{us:List Var}{s:c4}(w:WF us.length s)(hn:us.length<=12)(d:Nat):Gb us s d=sumF us (says s d):=(Ku w hn us.length [] d (by simp) (br _)).symm
open Vaprbg(build)
noncomputable def half(n:Nat):List Var:=List.replicate n ⟨[],⟨1,2⟩⟩
theorem Cy(n:Nat):(half n).length=n:=jN
theorem Kv{n i:Nat}(h:i<n):(half n)[i]?=some ⟨[],⟨1,2⟩⟩:=by
 unfold half;rw[nU,ao h]
theorem Kw(n:Nat):iF (half n):=⟨λv hv=>by
 rw[List.eq_of_mem_replicate hv];exact⟨rfl,VW,VW⟩⟩
theorem Cz{n:Nat}:∀{i:Nat},i<=n->pre (half n) i=2^i
 |0,_=>rfl
 |i+1,h=>by
  rw[pre,Cz VX,Kv VX,dM];rfl
theorem Hf:∀(n:Nat)(as:List Bool),as.length=n->Kt (half n) as=mkRat 1 (2^n)
 |0,[],_=>rfl
 |n+1,[],h=>by cases h
 |0,_::_,h=>by cases h
 |n+1,a::as,h=>by
  have e:half (n+1)=⟨[],⟨1,2⟩⟩::half n:=rfl;rw[e,Kt,Hf n as (by simpa using h)];have e1:(if a=true then nW ⟨1,2⟩else 1-nW ⟨1,2⟩)=mkRat 1 2:=by
   cases a
   ·rw[ah VW];show(1:Rat)-mkRat 1 2=mkRat 1 2;rw[xH,HW,show(1:Rat)=mkRat 1 1 from rfl,lX _ _ VW VW,eC VW VW];rfl
   ·rfl
  show(if a=true then nW ⟨1,2⟩else 1-nW ⟨1,2⟩)*_=_;rw[e1,iD,dM,Dd];rfl
theorem EF{c:Rat}:∀{l:List Rat},(∀x∈l,x=c)->pH l=(l.length:Int)*c
 |[],_=>by
  show(0:Rat)=((0:Int):Rat)*c;rw[Rat.intCast_zero,Rat.zero_mul]
 |x::r,h=>by
  show x+pH r=(((r.length+1:Nat):Int):Rat)*c;rw[EF λy hy=>h y (aL _ hy),h x aV];have e:((r.length+1:Nat):Int)=(r.length:Int)+1:=rfl;rw[e,Rat.intCast_add,Rat.add_mul,Rat.intCast_one,Rat.one_mul,Rat.add_comm]
theorem mk_inj{a b:Int}{d:Nat}(hd:d≠0)(h:mkRat a d=mkRat b d):a=b:=by
 rw[eC hd hd]at h;exact Int.eq_of_mul_eq_mul_right VX h
theorem Kx{n:Nat}{s:c4}(w:WF n s)(hn:n<=12){d y:Nat}(h:zV (half n) s d y):y=((allTruths n).filter (says s d)).length:=by
 have hl:=Cy n;have h1:=h.ch;rw[He (by rw[hl];exact w) (by rw[hl];exact hn),<-yS,hl,Cz (aH n)]at h1;rw[EF (c:=mkRat 1 (2^n)) (λx hx=>by
  obtain⟨as,ha,rfl⟩:=List.mem_map.mp hx;exact Hf n as (gG (List.mem_filter.mp ha).1))]at h1
 rw[ay]at h1;have e:(((List.filter (says s d) (allTruths n)).length:Int):Rat)*mkRat 1 (2^n)=mkRat ((List.filter (says s d) (allTruths n)).length:Int) (2^n):=by
  rw[show(((List.filter (says s d) (allTruths n)).length:Int):Rat)=mkRat ((List.filter (says s d) (allTruths n)).length:Int) 1 from(Rat.mkRat_one _).symm,iD,Int.mul_one,fY]
 rw[e]at h1;have:=mk_inj (eM (eS VW)) h1;lia
theorem Uc{c p:Rat}{a b W:Nat}(hW:W≠0)(hb:b≠0)(ha:mkRat a W=c)(hp:mkRat b W=p):(lh c).div (lh p)=lh (mkRat a b):=by
 have p0:0<=p.num:=by
  rw[<-hp,Rat.num_mkRat,ah hW];exact Int.ediv_nonneg VX VX
 have hpn:p.num≠0:=λz=>by
  have e:p=0:=Rat.num_eq_zero.mp z;rw[e]at hp;rw[Rat.mkRat_eq_zero hW]at hp;lia
 have e1:(lh c).div (lh p)=frac (c.num*p.den) (c.den*p.num.natAbs):=by
  unfold Frac.div;show(if p.num<0 then _ else _)=_;rw[ah VX];rfl
 rw[e1,nz]
 congr 1
 have hcn:c.den*p.num.natAbs≠0:=Nat.mul_ne_zero c.den_nz VX;rw[eC hcn hb];have k1:(a:Int)*c.den=c.num*W:=by
  rw[<-F8 c,eC hW c.den_nz]at ha;exact ha
 have k2:(b:Int)*p.den=p.num*W:=by
  rw[<-F8 p,eC hW p.den_nz]at hp;exact hp
 obtain⟨q,hq⟩:∃q:Nat,p.num=(q:Int):=⟨p.num.toNat,VX⟩;rw[hq]at k2⊢;rw[ji];have hW':(W:Int)≠0:=VX;refine Int.eq_of_mul_eq_mul_right hW' ?_;rw[mn]
 calc c.num*p.den*b*W=(c.num*W)*(b*p.den):=by grind
  _=(a*c.den)*(q*W):=by rw[<-k1,k2]
  _=(a:Int)*(c.den*q)*W:=by grind
theorem P6{us:List Var}(hu:iF us){s:c4}(w:WF us.length s)(hn:us.length<=12){d e a b:Nat}(ha:mkRat a (pre us us.length)=sumF us (λas=>says s d as&&says s e as))(hb:mkRat b (pre us us.length)=Gb us s e):
 Vaprbg.givenAnswer ⟨us,s⟩ d e=if b=0 then Vaprbg.refused (-6)else Vaprbg.fracAnswer (lh (mkRat a b)):=by
 have hW:=eM (oB hu us.length);unfold Vaprbg.givenAnswer;dsimp only;have ef:(truths us s d).filter (says s e)=(allTruths us.length).filter (λas=>says s d as&&says s e as):=by
  unfold truths;rw[List.filter_filter]
  congr 1
  funext as
  rw[Bool.and_comm]
 rw[ef,Jm hu,jM hu,<-ha,<-hb];by_cases h0:b=0
 ·subst h0;rw[ao rfl,ao];show(mkRat ((0:Nat):Int) _).num=0;rw[show((0:Nat):Int)=0 from rfl,Rat.zero_mkRat];rfl
 ·rw[ah h0,ah,Uc hW h0 rfl rfl];intro z;have:=Rat.num_eq_zero.mp z;rw[Rat.mkRat_eq_zero hW]at this;lia
theorem Jn{us:List Var}(hu:iF us){s:c4}{d e:Nat}(hb:mkRat ((0:Nat):Int) (pre us us.length)=Gb us s e):Vaprbg.givenAnswer ⟨us,s⟩ d e=Vaprbg.refused (-6):=by
 unfold Vaprbg.givenAnswer;dsimp only;rw[jM hu,<-hb,ao];show(mkRat ((0:Nat):Int) _).num=0;rw[show((0:Nat):Int)=0 from rfl,Rat.zero_mkRat];rfl
theorem NX{us:List Var}(hu:iF us){s:c4}(w:WF us.length s)(hn:us.length<=12):∀(k d:Nat),d<=k->d<s.length+2->∃b,b<=pre us us.length/\zV us s d b
 |k,d,hk,hd=>by
  cases h:nodeOf s d with
  |none=>
   have h2:d<2:=by
    apply f7;intro z;unfold nodeOf at h;rw[ah VX,lp]at h;lia
   have:d=0\/d=1:=VX;rcases this with rfl|rfl
   ·exact⟨0,br _,Kq s⟩
   ·exact⟨_,aH _,NW hu s⟩
  |some m=>
   obtain⟨h1,h2,h3,h4,h5,h6⟩:=w.node h;cases k with
   |zero=>lia
   |succ k=>
    obtain⟨a,la,ha⟩:=NX hu w hn k m.lo VX VX;obtain⟨c,lc,hc⟩:=NX hu w hn k m.hi VX VX;obtain⟨v,hv⟩:∃v,us[m.var]?=some v:=⟨_,af h1⟩;refine⟨_,?_,Kr hu w hn h hv ha hc⟩;obtain⟨q1,q2,q3⟩:=hu.ok v (bE hv);have hd0:0<v.chance.den:=by
     rw[q1];exact gu (iA _)
    have e:(v.chance.den-v.chance.num.toNat)*pre us us.length+v.chance.num.toNat*pre us us.length=v.chance.den*pre us us.length:=by
     rw[<-Nat.add_mul]
     congr 1
     lia
    have l1:=Nat.mul_le_mul_left (v.chance.den-v.chance.num.toNat) la;have l2:=Nat.mul_le_mul_left v.chance.num.toNat lc;refine Nat.div_le_of_le_mul ?_;lia
theorem NY{us:List Var}(hu:iF us){s:c4}(w:WF us.length s)(hn:us.length<=12){d b:Nat}(hd:d<s.length+2)(h:zV us s d b):b<=pre us us.length:=by
 obtain⟨c,lc,hc⟩:=NX hu w hn d d (aH _) hd;have:=mk_inj (eM (oB hu us.length)) (h.ch.trans hc.ch.symm);lia
end TM
namespace TM
open Vaprbg (Node nodeOf Var put build metAll reach nodes)
noncomputable def jS(l:List Nat)(x:Nat):List Nat:=if l.contains x=true then l else l++[x]
theorem Jo(l:List Nat)(a b:Nat):metAll l [a,b]=jS (jS l a) b:=rfl
structure Ky(N:Nat)(l:List Nat):Prop where
 nd:l.Nodup
 lt:∀x∈l,x<N
theorem Ky.len{N:Nat}{l:List Nat}(h:Ky N l):l.length<=N:=by
 have h1:l.Perm ((List.range N).filter λx=>l.contains x):=by
  rw[xI h.nd (List.nodup_range.filter _)];intro x;rw[List.mem_filter,List.mem_range,DV];exact⟨λhx=>⟨h.lt x hx,hx⟩,λhx=>hx.2⟩
 rw[h1.length_eq];refine be (dj _ _) ?_;rw[cy];exact aH _
theorem Ky.met{N:Nat}{l:List Nat}(h:Ky N l){x:Nat}(hx:x<N):Ky N (jS l x):=by
 unfold jS;by_cases hc:l.contains x=true
 ·rw[ao hc];exact h
 ·rw[ah hc];have hm:x∉l:=λz=>hc (List.contains_iff_mem.mpr z);refine⟨?_,λy hy=>?_⟩
  ·rw[zi];refine⟨h.nd,by simp,λa ha b hb=>?_⟩;rw[List.mem_singleton.mp hb];exact λz=>hm (z▸ha)
  ·rcases List.mem_append.mp hy with z|z
   ·exact h.lt y z
   ·rw[List.mem_singleton.mp z];exact hx
theorem CA(l:List Nat)(x:Nat):∃e,jS l x=l++e:=by
 unfold jS;split
 ·exact⟨[],by simp⟩
 ·exact⟨[x],rfl⟩
theorem Hg(l:List Nat)(x:Nat):x∈jS l x:=by
 unfold jS;by_cases hc:l.contains x=true
 ·rw[ao hc];exact List.contains_iff_mem.mp hc
 ·rw[ah hc];simp
theorem NZ{l:List Nat}{x y:Nat}(h:y∈l):y∈jS l x:=by
 obtain⟨e,he⟩:=CA l x;rw[he];exact cY _ h
noncomputable def lj(s:c4)(l:List Nat)(d:Nat):List Nat:=match nodeOf s d with
 |none=>l
 |some m=>jS (jS l m.lo) m.hi
theorem CB{s:c4}{k i d:Nat}{l:List Nat}(h:l[i]?=some d):reach s (k+1) i l=reach s k (i+1) (lj s l d):=by
 rw[reach,h];dsimp only;unfold lj;cases nodeOf s d with
 |none=>rfl
 |some m=>rfl
theorem EG{s:c4}{k i:Nat}{l:List Nat}(h:l.length<=i):reach s k i l=l:=by
 cases k with
 |zero=>rfl
 |succ k=>rw[reach,b7 h]
theorem Hh{n:Nat}{s:c4}(w:WF n s){l:List Nat}(h:Ky (s.length+2) l)(d:Nat):Ky (s.length+2) (lj s l d):=by
 unfold lj;cases hd:nodeOf s d with
 |none=>exact h
 |some m=>
  obtain⟨h1,h2,h3,h4,h5,h6⟩:=w.node hd;have:=(qK hd).2.1;exact(h.met VX).met VX
theorem EH(s:c4)(l:List Nat)(d:Nat):∃e,lj s l d=l++e:=by
 unfold lj;cases nodeOf s d with
 |none=>exact⟨[],by simp⟩
 |some m=>
  obtain⟨a,ha⟩:=CA l m.lo;obtain⟨b,hb⟩:=CA (jS l m.lo) m.hi;exact⟨a++b,by show jS (jS l m.lo) m.hi=_;rw[hb,ha,bK]⟩
def Vy(s:c4)(l:List Nat)(i:Nat):Prop:=∀(j d:Nat)(m:Node),j<i->l[j]?=some d->nodeOf s d=some m->m.lo∈l/\m.hi∈l
theorem CC{n:Nat}{s:c4}(w:WF n s):∀(k i:Nat)(l:List Nat),Ky (s.length+2) l->Vy s l i->s.length+2<k+i->i<=l.length->
 Ky (s.length+2) (reach s k i l)/\(∀x∈l,x∈reach s k i l)/\(∀d m,d∈reach s k i l->nodeOf s d=some m->m.lo∈reach s k i l/\m.hi∈reach s k i l)
 |k,i,l,h,hc,hk,hi=>by
  by_cases hil:i<l.length
  ·cases k with
   |zero=>
    have:=h.len;lia
   |succ k=>
    have e:l[i]?=some l[i]:=af hil;rw[CB e];obtain⟨x,hx⟩:=EH s l l[i];have hc':Vy s (lj s l l[i]) (i+1):=λj d m hj hd hm=>by
     rw[hx,bO VX]at hd;by_cases hji:j=i
     ·subst hji;rw[e]at hd;cases hd;unfold lj;rw[hm];exact⟨NZ (Hg _ _),Hg _ _⟩
     ·obtain⟨a,b⟩:=hc j d m VX hd hm;rw[hx];exact⟨cY _ a,cY _ b⟩
    obtain⟨a,b,c⟩:=CC w k (i+1) (lj s l l[i]) (Hh w h _) hc' VX (by rw[hx,aE];lia);refine⟨a,λy hy=>b y ?_,c⟩;rw[hx];exact cY _ hy
  ·rw[EG VX];refine⟨h,λx hx=>hx,λd m hd hm=>?_⟩;obtain⟨j,hj,e⟩:=vJ hd;exact hc j d m VX (by rw[af hj,e]) hm
theorem FU{N d:Nat}(h:d<N):Ky N [d]:=⟨by simp,λx hx=>by rw[List.mem_singleton.mp hx];exact h⟩
inductive Under(s:c4)(d:Nat):Nat->Prop
 |refl:Under s d d
 |lo {x:Nat} {m:Node}:nodeOf s x=some m->Under s d x->Under s d m.lo
 |hi {x:Nat} {m:Node}:nodeOf s x=some m->Under s d x->Under s d m.hi
theorem Under.trans{s:c4}{a b c:Nat}(h:Under s a b)(k:Under s b c):Under s a c:=by
 induction k with
 |refl=>exact h
 |lo e _ ih=>exact .lo e ih
 |hi e _ ih=>exact .hi e ih
theorem Under.ext{s:c4}(e:c4){d x:Nat}(h:Under s d x):Under (s++e) d x:=by
 induction h with
 |refl=>exact .refl
 |lo q _ ih=>exact .lo (by rw[nu (qK q).2.1];exact q) ih
 |hi q _ ih=>exact .hi (by rw[nu (qK q).2.1];exact q) ih
theorem vh(f:Fn):∀(r:Nat)(as:List Bool)(s:c4)(x:Nat),s.length+2<=x->x<(build f r as s).1.length+2->Under (build f r as s).1 (build f r as s).2 x
 |0,as,s,x,h1,h2=>by
  rw[build]at h2;dsimp only at h2;lia
 |r+1,as,s,x,h1,h2=>by
  obtain⟨e1,g1,_⟩:=jm f r (as++[false]) s;obtain⟨e2,g2,_⟩:=jm f r (as++[true]) (build f r (as++[false]) s).1;have u1:=vh f r (as++[false]) s;have u2:=vh f r (as++[true]) (build f r (as++[false]) s).1;rw[build]at h2⊢
  try dsimp only at h2⊢
  generalize hb1:build f r (as++[false]) s=b1 at*
  generalize hb2:build f r (as++[true]) b1.1=b2 at*
  obtain⟨s1,lo⟩:=b1;obtain⟨s2,hi⟩:=b2
  try dsimp only at*
  have key:∀y,s.length+2<=y->y<s2.length+2->Under s2 lo y\/Under s2 hi y:=λy y1 y2=>by
   by_cases hy:y<s1.length+2
   ·left;rw[g2];exact(u1 y y1 hy).ext e2
   ·right;exact u2 y VX y2
  have fin:∀(S:c4)(e:c4)(d:Nat),S=s2++e->nodeOf S d=some ⟨as.length,lo,hi⟩->∀y,s.length+2<=y->y<s2.length+2->Under S d y:=λS e d hS hd y y1 y2=>by
   have a1:Under S d lo:= .lo (m:=⟨as.length,lo,hi⟩) hd .refl;have a2:Under S d hi:= .hi (m:=⟨as.length,lo,hi⟩) hd .refl;rcases key y y1 y2 with z|z
   ·have:=z.ext e;rw[<-hS]at this;exact a1.trans this
   ·have:=z.ext e;rw[<-hS]at this;exact a2.trans this
  by_cases hne:lo=hi
  ·have e:put s2 ⟨as.length,lo,hi⟩=(s2,lo):=by unfold put;rw[ao hne]
   rw[e]at h2⊢;rcases key x h1 h2 with z|z
   ·exact z
   ·show Under s2 lo x;rw[hne];exact z
  ·cases hf:s2.findIdx? λm=>m==(⟨as.length,lo,hi⟩:Node)with
   |some i=>
    have e:put s2 ⟨as.length,lo,hi⟩=(s2,i+2):=by unfold put;rw[ah hne,hf]
    rw[e]at h2⊢;obtain⟨hi',hp,_⟩:=List.findIdx?_eq_some_iff_getElem.mp hf;refine fin s2 [] (i+2) (by simp) ?_ x h1 h2;unfold nodeOf;rw[ah VX,nP,af hi'];exact bJ some (beq_iff_eq.mp hp)
   |none=>
    have e:put s2 ⟨as.length,lo,hi⟩=(s2++[⟨as.length,lo,hi⟩],s2.length+2):=by unfold put;rw[ah hne,hf]
    rw[e]at h2⊢;dsimp only at h2⊢;rw[aE,fc]at h2;by_cases hx:x<s2.length+2
    ·exact fin _ _ _ rfl (nv _ _) x h1 hx
    ·have ex:x=s2.length+2:=by lia
     subst ex;exact .refl
theorem N0{n:Nat}(hn:n<=12)(f:Fn):(nodes (build f n [] []).1 (build f n [] []).2).length=(build f n [] []).1.length:=by
 obtain⟨w,hl,_,_⟩:=vf hn f n [] [] (NT n) (by simp);have hu:=vh f n [] [];generalize build f n [] []=x at*
 obtain⟨s,d⟩:=x;dsimp only at*
 obtain⟨h1,h2,h3⟩:=CC w (s.length+3) 0 [d] (FU hl) (λj a m hj=>absurd hj VX) VX (by simp);unfold nodes;generalize reach s (s.length+3) 0 [d]=L at*
 have hall:∀y,Under s d y->y∈L:=λy hy=>by
  induction hy with
  |refl=>exact h2 d (by simp)
  |lo e _ ih=>exact(h3 _ _ ih e).1
  |hi e _ ih=>exact(h3 _ _ ih e).2
 have hp:(L.filter λy=>decide (2<=y)).Perm (List.range' 2 s.length):=by
  rw[xI (h1.nd.filter _) List.nodup_range'];intro y;rw[List.mem_filter,List.mem_range'_1];constructor
  ·rintro⟨a,b⟩;have:=h1.lt y a;exact⟨aD b,VX⟩
  ·rintro⟨a,b⟩;exact⟨hall y (hu y (by simpa using a) VX),au a⟩
 have:=hp.length_eq
 rwa [List.length_range']at this
end TM
namespace TM
open Vaprbg (Node nodeOf Var says allTruths chanceOf truths)
noncomputable def Lu(t:Nat):Nat:=t-(t&&&(t-1))
theorem N1:∀(n t:Nat),t<=n->0<t->∃p,t.testBit p=true/\(∀j,j<p->t.testBit j=false)/\Lu t=2^p
 |0,t,h,h0=>absurd h0 VX
 |n+1,t,h,h0=>by
  have d3:(t&&&(t-1))/2=t/2&&&(t-1)/2:=Nat.and_div_two;have e3:(t&&&(t-1))%2=(t%2)&&&((t-1)%2):=Nat.and_mod_two_pow (n:=1);by_cases ho:t%2=1
  ·refine⟨0,?_,λj hj=>absurd hj VX,?_⟩
   ·rw[Nat.testBit_zero];exact au ho
   ·rw[show(t-1)/2=t/2 by lia,Nat.and_self]at d3;rw[show(t-1)%2=0 by lia,Nat.and_zero]at e3;unfold Lu;show _=1;lia
  ·obtain⟨p,h1,h2,h3⟩:=N1 n (t/2) VX VX;refine⟨p+1,?_,λj hj=>?_,?_⟩
   ·rw[Nat.testBit_succ];exact h1
   ·cases j with
    |zero=>
     rw[Nat.testBit_zero];exact aQ ho
    |succ j=>
     rw[Nat.testBit_succ];exact h2 j VX
   ·rw[show(t-1)/2=t/2-1 by lia]at d3;rw[show t%2=0 by lia,Nat.zero_and]at e3;unfold Lu at h3⊢;rw[dM];have:(t/2&&&(t/2-1))<=t/2:=mq;lia
noncomputable def c7(N t:Nat):List Nat:=(List.range N).filter λp=>t.testBit p
theorem Hi(N:Nat):c7 N 0=[]:=by
 unfold c7;rw[pP];intro a _;simp
theorem Jp{N t p:Nat}(ht:t<2^N)(h1:t.testBit p=true)(h2:∀j,j<p->t.testBit j=false):c7 N t=p::c7 N (t^^^2^p):=by
 have hp:p<N:=by
  apply f7;intro hle;rw[rZ ht hle]at h1;cases h1
 have hx:∀j,j≠p->(t^^^2^p).testBit j=t.testBit j:=λj hj=>by
  rw[mo,Nat.testBit_two_pow_of_ne (bh hj),Bool.xor_false]
 have hxp:(t^^^2^p).testBit p=false:=by
  rw[mo,Nat.testBit_two_pow_self,h1];rfl
 ·obtain⟨k,rfl⟩:∃k,N=p+(k+1):=⟨N-p-1,VX⟩;unfold c7;rw[List.range_add,gw,gw];have e1:(List.range p).filter (λj=>t.testBit j)=[]:=by
   rw[pP];intro j hj;rw[h2 j (List.mem_range.mp hj)];simp
  have e2:(List.range p).filter (λj=>(t^^^2^p).testBit j)=[]:=by
   rw[pP];intro j hj;have hj':=List.mem_range.mp hj;rw[hx j VX,h2 j hj'];simp
  rw[e1,e2,Dl,Dl,List.range_succ_eq_map,bW,pM,iJ,iJ,h1,hxp];rw[ao rfl,ah VW]
  congr 1
  apply L9;intro j hj;obtain⟨a,ha,rfl⟩:=List.mem_map.mp hj;obtain⟨b,hb,rfl⟩:=List.mem_map.mp ha;rw[hx _ VX]
theorem CG:∀{n p v:Nat},v<n->(bitsOf n p)[v]?=some (p.testBit (n-1-v))
 |0,p,v,h=>absurd h VX
 |n+1,p,0,_=>by
  rw[bitsOf];rfl
 |n+1,p,v+1,h=>by
  rw[bitsOf,iH,CG VX,Nat.testBit_mod_two_pow];rw[show n+1-1-(v+1)=n-1-v by lia,au VX,js]
theorem P7(p k:Nat):(p>>>k)&&&1=(p.testBit k).toNat:=by
 rw[Nat.and_one_is_mod,zc,L7];have h:p/2^k%2<2:=JJ _ VW;generalize p/2^k%2=c at h;have:c=0\/c=1:=VX;rcases this with rfl|rfl<;>rfl
theorem Lv(n p:Nat):(List.range n).map (λv=>((((p>>>(n-1-v))&&&1:Nat)):Int))=Vaprbg.bits (bitsOf n p):=by
 apply fG;intro i;unfold Vaprbg.bits;rw[aR,aR];by_cases hi:i<n
 ·rw[CG hi,lW hi];show some (((p>>>(n-1-i))&&&1:Nat):Int)=some (if p.testBit (n-1-i)=true then 1 else 0);rw[P7];cases p.testBit (n-1-i)<;>rfl
 ·rw[b7 (l:=bitsOf n p) (by rw[cJ];lia),b7 (l:=List.range n) (by rw[cy];lia)];rfl
theorem vi{n:Nat}{f:List Bool->Bool}{t:Nat}(h:cu n f t):(allTruths n).filter f=(c7 (2^n) t).map (bitsOf n):=Jl h
open VaprbBase(Frac frac)
open Vaprbg(best)
noncomputable def wB(v:Var)(a:Bool):Nat:=if a=true then v.chance.num.toNat else v.chance.den-v.chance.num.toNat
noncomputable def tL:List Var->List Bool->Nat
 |v::vs,a::as=>wB v a*tL vs as
 |_,_=>1
theorem CI:∀(us:List Var)(as:List Bool)(v:Var)(b:Bool),as.length=us.length->tL (us++[v]) (as++[b])=tL us as*wB v b
 |[],[],v,b,_=>by
  show wB v b*1=1*wB v b;lia
 |u::us,[],v,b,h=>by cases h
 |[],_::_,v,b,h=>by cases h
 |u::us,a::as,v,b,h=>by
  show wB u a*tL (us++[v]) (as++[b])=wB u a*tL us as*wB v b;rw[CI us as v b (by simpa using h),Nat.mul_assoc]
theorem vj:∀n:Nat,allTruths (n+1)=(allTruths n).flatMap λas=>[as++[false],as++[true]]
 |0=>rfl
 |n+1=>by
  rw[ig (n+1)]
  conv=>rhs;rw[ig n]
  rw[List.flatMap_append,OK,OK,vj n,OL,OL];rfl
noncomputable def iN(ws:List Nat)(v:Var):List Nat:=ws.flatMap λw=>[w*wB v false,w*wB v true]
theorem QZ:∀(vs:List Var)(us:List Var),vs.foldl iN ((allTruths us.length).map (tL us))=(allTruths (us++vs).length).map (tL (us++vs))
 |[],us=>by rw[bD];rfl
 |v::vs,us=>by
  rw[vo];have e:iN ((allTruths us.length).map (tL us)) v=(allTruths (us++[v]).length).map (tL (us++[v])):=by
   unfold iN;rw[aE,fc,vj,OK,OL];rw[List.flatMap_def,List.flatMap_def]
   congr 1
   apply eQ;intro as ha;have hl:=gG ha;show[tL us as*wB v false,tL us as*wB v true]=[tL (us++[v]) (as++[false]),tL (us++[v]) (as++[true])];rw[CI _ _ _ _ hl,CI _ _ _ _ hl]
  rw[e,QZ vs (us++[v]),bK];rfl
theorem Hj(us:List Var):us.foldl iN [1]=(List.range (2^us.length)).map λp=>tL us (bitsOf us.length p):=by
 have:=QZ us [];rw[Dl]at this;rw[show[1]=(allTruths ([]:List Var).length).map (tL [])from rfl,this,vg,cS];rfl
noncomputable def CJ:List Var->Nat
 |[]=>1
 |v::vs=>v.chance.den*CJ vs
theorem EI:∀(us:List Var)(v:Var),CJ (us++[v])=CJ us*v.chance.den
 |[],v=>by
  show v.chance.den*1=1*v.chance.den;lia
 |u::us,v=>by
  show u.chance.den*CJ (us++[v])=u.chance.den*CJ us*v.chance.den;rw[EI,Nat.mul_assoc]
theorem pre_take(us:List Var):∀i,i<=us.length->pre us i=CJ (us.take i)
 |0,_=>rfl
 |i+1,h=>by
  have hi:i<us.length:=h;rw[pre,pre_take us i VX,List.take_succ,af hi];show CJ (us.take i)*us[i].chance.den=CJ (us.take i++[us[i]]);rw[EI]
theorem P8(us:List Var):pre us us.length=CJ us:=by rw[pre_take us _ (aH _),cO]
theorem Vh{v:Var}(h:v.chance=lh (nW v.chance)/\0<=v.chance.num/\v.chance.num<=v.chance.den)(a:Bool):mkRat (wB v a) v.chance.den=if a=true then nW v.chance else 1-nW v.chance:=by
 obtain⟨q1,q2,q3⟩:=h;have hd0:v.chance.den≠0:=by
  rw[q1];exact iA _
 unfold wB;cases a with
 |true=>
  rw[ao rfl,ao rfl];unfold nW;rw[Int.toNat_of_nonneg q2]
 |false=>
  rw[ah VW,ah VW];unfold nW;rw[xH,HW,show(1:Rat)=mkRat 1 1 from rfl,lX _ _ VW hd0,eC hd0 VX,fY]
  congr 1
  lia
theorem Q0:∀{us:List Var}(hu:iF us)(as:List Bool),as.length=us.length->mkRat (tL us as) (CJ us)=Kt us as
 |[],_,[],_=>rfl
 |[],_,_::_,h=>by cases h
 |_::_,_,[],h=>by cases h
 |v::vs,hu,a::as,h=>by
  show mkRat ((wB v a*tL vs as:Nat):Int) (v.chance.den*CJ vs)=(if a=true then nW v.chance else 1-nW v.chance)*Kt vs as;rw[<-Vh (hu.ok v aV),<-Q0 (us:=vs) ⟨λx hx=>hu.ok x (aL _ hx)⟩ as (by simpa using h),iD];rfl
theorem Vi{a b W:Nat}(hW:W≠0):(lh (mkRat a W)).lt (lh (mkRat b W))=decide (a<b):=by
 unfold Frac.lt;show decide ((mkRat a W).num*((mkRat b W).den:Int)<(mkRat b W).num*((mkRat a W).den:Int))=_;have k:∀x:Nat,(x:Int)*(mkRat x W).den=(mkRat x W).num*W:=λx=>by
  have h:=(eC (n₁:=(x:Int)) (n₂:=(mkRat x W).num) hW (mkRat x W).den_nz).mp (F8 _).symm;exact h
 have ka:=k a;have kb:=k b;have da:0<((mkRat a W).den:Int):=by have:=(mkRat a W).den_pos;lia
 have db:0<((mkRat b W).den:Int):=by have:=(mkRat b W).den_pos;lia
 generalize(mkRat a W).num=na at*
 generalize(mkRat b W).num=nb at*
 generalize((mkRat a W).den:Int)=pa at*
 generalize((mkRat b W).den:Int)=pb at*
 have hW':0<(W:Int):=VX;have hpp:0<pa*pb:=Int.mul_pos da db;have e1:na*pb*W=a*(pa*pb):=by
  calc na*pb*W=(na*W)*pb:=by grind
   _=(a*pa)*pb:=by rw[ka]
   _=a*(pa*pb):=by grind
 have e2:nb*pa*W=b*(pa*pb):=by
  calc nb*pa*W=(nb*W)*pa:=by grind
   _=(b*pb)*pa:=by rw[kb]
   _=b*(pa*pb):=by grind
 have e:(na*pb<nb*pa)↔a<b:=by
  constructor
  ·intro h;have h1:na*pb*W<nb*pa*W:=Q8 h hW';rw[e1,e2]at h1;have:=Int.lt_of_mul_lt_mul_right h1 (L6 hpp);lia
  ·intro h;have h0:(a:Int)<b:=VX;have h1:(a:Int)*(pa*pb)<b*(pa*pb):=Q8 h0 hpp;rw[<-e1,<-e2]at h1;exact Int.lt_of_mul_lt_mul_right h1 (L6 hW')
 exact decide_eq_decide.mpr e
theorem zW{α:Type}(g:α->Nat){W:Nat}(hW:W≠0)(c:α->Frac)(hc:∀x,c x=lh (mkRat (g x) W)):∀(r:List α)(b:Nat),∃m:Nat,r.foldl (λ(x:Frac) t=>if x.lt (c t)=true then c t else x) (lh (mkRat b W))=lh (mkRat m W)/\(m=b\/∃y∈r,m=g y)/\b<=m/\∀y∈r,g y<=m
 |[],b=>⟨b,rfl,.inl rfl,aH _,λy hy=>absurd hy (by simp)⟩
 |x::r,b=>by
  rw[vo,hc x,Vi hW];by_cases h:b<g x
  ·rw[ao (au h)];obtain⟨m,h1,h2,h3,h4⟩:=zW g hW c hc r (g x);refine⟨m,h1,?_,VX,λy hy=>?_⟩
   ·rcases h2 with z|⟨y,hy,z⟩
    ·exact .inr ⟨x,by simp,z⟩
    ·exact .inr ⟨y,by simp[hy],z⟩
   ·rcases List.mem_cons.mp hy with rfl|hy
    ·exact h3
    ·exact h4 y hy
  ·rw[ah (by simpa using h)];obtain⟨m,h1,h2,h3,h4⟩:=zW g hW c hc r b;refine⟨m,h1,?_,h3,λy hy=>?_⟩
   ·rcases h2 with z|⟨y,hy,z⟩
    ·exact .inl z
    ·exact .inr ⟨y,by simp[hy],z⟩
   ·rcases List.mem_cons.mp hy with rfl|hy
    ·lia
    ·exact h4 y hy
theorem P9{us:List Var}(hu:iF us){s:c4}{d t:Nat}(ht:cu us.length (says s d) t){m:Nat}(hm:∃p∈c7 (2^us.length) t,m=tL us (bitsOf us.length p))(hg:∀p∈c7 (2^us.length) t,tL us (bitsOf us.length p)<=m):
 ∃p r,(c7 (2^us.length) t).filter (λp=>decide (tL us (bitsOf us.length p)=m))=p::r/\best us s d=some (lh (mkRat m (pre us us.length)),(p::r).length,bitsOf us.length p):=by
 have hW:=eM (oB hu us.length);have hc:∀p,chanceOf us (bitsOf us.length p)=lh (mkRat (tL us (bitsOf us.length p)) (pre us us.length)):=λp=>by
  rw[sg hu,P8,Q0 hu _ (cJ _ _)]
 unfold best;dsimp only;have et:truths us s d=(c7 (2^us.length) t).map (bitsOf us.length):=vi ht;rw[et];generalize hL:c7 (2^us.length) t=L at*
 obtain⟨p0,hp0,hm0⟩:=hm;cases L with
 |nil=>simp at hp0
 |cons a r=>
  rw[bW];dsimp only;rw[hc a,List.foldl_map];obtain⟨k,h1,h2,h3,h4⟩:=zW (λp=>tL us (bitsOf us.length p)) hW (λp=>chanceOf us (bitsOf us.length p)) hc r (tL us (bitsOf us.length a));have ek:k=m:=by
   apply Nat.le_antisymm
   ·rcases h2 with z|⟨y,hy,z⟩
    ·rw[z];exact hg a (by simp)
    ·rw[z];exact hg y (by simp[hy])
   ·rw[hm0];rcases List.mem_cons.mp hp0 with rfl|hy
    ·exact h3
    ·exact h4 p0 hy
  subst ek;rw[h1];have ef:∀l:List Nat,(l.map (bitsOf us.length)).filter (λt=>chanceOf us t==lh (mkRat k (pre us us.length)))=(l.filter (λp=>decide (tL us (bitsOf us.length p)=k))).map (bitsOf us.length):=λl=>by
   rw[Dk]
   congr 1
   apply L9;intro p _;show(chanceOf us (bitsOf us.length p)==lh (mkRat k (pre us us.length)))=_;rw[hc p];by_cases z:tL us (bitsOf us.length p)=k
   ·rw[z,au rfl];exact Be _
   ·rw[aQ z];apply beq_eq_false_iff_ne.mpr;intro e;have:=mk_inj hW (P4 e);lia
  rw[<-bW,ef];cases hf:(a::r).filter (λp=>decide (tL us (bitsOf us.length p)=k))with
  |nil=>
   have:=List.filter_eq_nil_iff.mp hf p0 hp0;rw[<-hm0]at this;simp at this
  |cons p q=>
   refine⟨p,q,rfl,?_⟩;rw[bW,List.head?_cons,aT,ay];rfl
end TM
namespace TM
open Vaprbg (Node nodeOf Var says allTruths build)
theorem yT{n:Nat}{s:c4}(w:WF n s)(hn:n<=12)(v:Nat)(b:Bool)(as:List Bool):∀(k d:Nat),d<=k->v<root n s d->says s d (as.set v b)=says s d as
 |k,d,hk,hr=>by
  cases h:nodeOf s d with
  |none=>
   have e:∀as,says s d as=(d==1):=λas=>gd h _;rw[e,e]
  |some m=>
   obtain⟨h1,h2,h3,h4,h5,h6⟩:=w.node h;have er:root n s d=m.var:=by unfold root;rw[h]
   cases k with
   |zero=>lia
   |succ k=>
    rw[jn w hn h,jn w hn h,yT w hn v b as k m.hi VX VX,yT w hn v b as k m.lo VX VX,gQ VX]
theorem EJ{n:Nat}{s:c4}(w:WF n s)(hn:n<=12):∀(k d:Nat),d<=k->d<s.length+2->d≠0->∃as:List Bool,as.length=n/\says s d as=true
 |k,d,hk,hd,h0=>by
  cases h:nodeOf s d with
  |none=>
   have e:∀as,says s d as=(d==1):=λas=>gd h _;have h1:d=1:=by
    unfold nodeOf at h;by_cases h2:d<2
    ·lia
    ·rw[ah h2,lp]at h;lia
   exact⟨List.replicate n false,by simp,by rw[e,h1];rfl⟩
  |some m=>
   obtain⟨h1,h2,h3,h4,h5,h6⟩:=w.node h;have key:∀(c:Nat)(b:Bool),c<d->c≠0->m.var<root n s c->(if b=true then m.hi else m.lo)=c->∃as:List Bool,as.length=n/\says s d as=true:=λc b hc hc0 hr hb=>by
    cases k with
    |zero=>lia
    |succ k=>
     obtain⟨as,ha,hs⟩:=EJ w hn k c VX VX hc0;refine⟨as.set m.var b,by simp[ha],?_⟩;rw[jn w hn h,fX VX];cases b with
     |true=>
      rw[ao rfl]at hb⊢;rw[hb,yT w hn _ _ _ c c (aH _) hr,hs]
     |false=>
      rw[ah VW]at hb;rw[ah VW,hb,yT w hn _ _ _ c c (aH _) hr,hs]
   by_cases hl:m.lo=0
   ·exact key m.hi true h3 VX h6 rfl
   ·exact key m.lo false h2 hl h5 rfl
theorem Qa{n:Nat}{s:c4}(w:WF n s)(hn:n<=12){d t:Nat}(hd:d<s.length+2)(h0:d≠0)(ht:cu n (says s d) t):c7 (2^n) t≠[]:=by
 obtain⟨as,ha,hs⟩:=EJ w hn d d (aH _) hd h0;intro z;have:idx as∈c7 (2^n) t:=List.mem_filter.mpr ⟨List.mem_range.mpr (by rw[<-ha];exact ko as),by rw[ht.at_ as ha];exact hs⟩;rw[z]at this;simp at this
theorem Lw{us:List Var}(s:c4):Vaprbg.best us s 0=none:=by
 unfold Vaprbg.best Vaprbg.truths;have e:(allTruths us.length).filter (says s 0)=[]:=by
  rw[pP];intro as _;rw[qL VW];decide
 rw[e]
noncomputable def zX(i j:Nat)(as:List Bool):List Bool:=(as.set i (as[j]?.getD false)).set j (as[i]?.getD false)
theorem oE(i j:Nat)(as:List Bool):(zX i j as).length=as.length:=by
 unfold zX;rw[ck,ck]
theorem oF{i j:Nat}{as:List Bool}(hi:i<as.length)(hj:j<as.length)(k:Nat):(zX i j as)[k]?=if k=i then as[j]? else if k=j then as[i]? else as[k]?:=by
 unfold zX;rw[af hi,af hj];show((as.set i as[j]).set j as[i])[k]?=_;rw[zk,zk,ck];by_cases h1:j=k
 ·rw[ao h1,ao hj];by_cases h2:k=i
  ·have:j=i:=by lia
   subst this;rw[ao h2]
  ·rw[ah h2,ao h1.symm]
 ·rw[ah h1];by_cases h2:i=k
  ·rw[ao h2,ao hi,ao h2.symm]
  ·rw[ah h2,ah (bh h2),ah (bh h1)]
theorem Qb{i j:Nat}{as:List Bool}(hi:i<as.length)(hj:j<as.length):zX i j (zX i j as)=as:=by
 apply fG;intro k;rw[oF (by rw[oE];exact hi) (by rw[oE];exact hj),oF hi hj,oF hi hj,oF hi hj];by_cases h1:k=i
 ·rw[ao h1];by_cases h3:j=i
  ·rw[ao h3];subst h3;rw[h1]
  ·rw[ah h3,ao rfl,h1]
 ·rw[ah h1];by_cases h2:k=j
  ·rw[ao h2,ao rfl,h2]
  ·rw[ah h2,ah h1,ah h2]
theorem N2{i j:Nat}{as:List Bool}(hi:i<as.length)(hj:j<as.length)(h:as[i]?.getD false=as[j]?.getD false):zX i j as=as:=by
 apply fG;intro k;rw[af hi,af hj]at h;have h':as[i]=as[j]:=h;rw[oF hi hj];by_cases h1:k=i
 ·rw[ao h1,h1,af hi,af hj,h']
 ·rw[ah h1];by_cases h2:k=j
  ·rw[ao h2,h2,af hi,af hj,h']
  ·rw[ah h2]
theorem Qc{i j:Nat}{as:List Bool}(hij:i<j)(hj:j<as.length)(h1:as[i]?.getD false=false)(h2:as[j]?.getD false=true):idx (zX i j as)=idx as+(2^(as.length-1-i)-2^(as.length-1-j)):=by
 unfold zX;rw[h1,h2];have e1:=yN (as:=as) (i:=i) true VX;have e2:=yN (as:=as.set i true) (i:=j) false (by rw[ck];exact hj);rw[ck,gQ VX,h2]at e2;rw[h1]at e1;simp only[gO,f9,fY,vW,pM]at e1 e2;have:2^(as.length-1-j)<=2^(as.length-1-i):=cZ VW VX;lia
theorem cu.Qe{n i j:Nat}{f:List Bool->Bool}{t o u:Nat}(h:cu n f t)(ho:tm n i o)(hu:tm n j u)(hij:i<=j)(hj:j<n):
 cu n (λas=>f (zX i j as)) (((t^^^(t&&&(o^^^u)))|||(((t&&&(o^^^u))&&&o)>>>(2^(n-1-i)-2^(n-1-j))))|||(((t&&&(o^^^u))&&&u)<<<(2^(n-1-i)-2^(n-1-j)))):=by
 generalize hG:2^(n-1-i)-2^(n-1-j)=G;have ho':=ho.tab VX;have hu':=hu.tab hj;have hx:∀as:List Bool,as.length=n->(t&&&(o^^^u)).testBit (idx as)=(f as&&(as[i]?.getD false^^as[j]?.getD false)):=λas ha=>by
  rw[dE,mo,h.at_ as ha,ho'.at_ as ha,hu'.at_ as ha]
 have lx:t&&&(o^^^u)<2^2^n:=cK mq h.lt;have X:∀q,((t&&&(o^^^u))&&&o).testBit q=true↔∃bs:List Bool,bs.length=n/\idx bs=q/\bs[i]?.getD false=true/\bs[j]?.getD false=false/\f bs=true:=λq=>by
  constructor
  ·intro hq;have hqn:q<2^n:=by
    apply f7;intro hle;rw[dE,rZ lx hle]at hq;cases hq
   refine⟨bitsOf n q,cJ _ _,jf hqn,?_⟩;have e:=jf hqn;rw[<-e,dE,hx _ (cJ _ _),ho'.at_ _ (cJ _ _)]at hq;generalize(bitsOf n q)[i]?.getD false=a at*
   generalize(bitsOf n q)[j]?.getD false=b at*
   generalize f (bitsOf n q)=c at*
   revert hq;cases a<;>cases b<;>cases c<;>simp
  ·rintro⟨bs,hl,rfl,h1,h2,h3⟩;rw[dE,hx _ hl,ho'.at_ _ hl,h1,h2,h3];rfl
 have Y:∀q,((t&&&(o^^^u))&&&u).testBit q=true↔∃bs:List Bool,bs.length=n/\idx bs=q/\bs[i]?.getD false=false/\bs[j]?.getD false=true/\f bs=true:=λq=>by
  constructor
  ·intro hq;have hqn:q<2^n:=by
    apply f7;intro hle;rw[dE,rZ lx hle]at hq;cases hq
   refine⟨bitsOf n q,cJ _ _,jf hqn,?_⟩;have e:=jf hqn;rw[<-e,dE,hx _ (cJ _ _),hu'.at_ _ (cJ _ _)]at hq;generalize(bitsOf n q)[i]?.getD false=a at*
   generalize(bitsOf n q)[j]?.getD false=b at*
   generalize f (bitsOf n q)=c at*
   revert hq;cases a<;>cases b<;>cases c<;>simp
  ·rintro⟨bs,hl,rfl,h1,h2,h3⟩;rw[dE,hx _ hl,hu'.at_ _ hl,h1,h2,h3];rfl
 have gi:∀{bs:List Bool},bs.length=n->(zX i j bs)[i]?.getD false=bs[j]?.getD false:=λ{bs} hl=>by
  rw[oF VX VX,ao rfl]
 have gj:∀{bs:List Bool},bs.length=n->(zX i j bs)[j]?.getD false=bs[i]?.getD false:=λ{bs} hl=>by
  rw[oF VX VX];by_cases z:j=i
  ·rw[ao z,z]
  ·rw[ah z,ao rfl]
 have ss:∀{bs:List Bool},bs.length=n->zX i j (zX i j bs)=bs:=λ{bs} hl=>Qb VX VX;have up:∀{bs:List Bool},bs.length=n->bs[i]?.getD false=false->bs[j]?.getD false=true->idx (zX i j bs)=idx bs+G:=λ{bs} hl h1 h2=>by
  have hne:i≠j:=λz=>by
   rw[z,h2]at h1;cases h1
  rw[Qc VX VX h1 h2,hl,hG]
 have dn:∀{bs:List Bool},bs.length=n->bs[i]?.getD false=true->bs[j]?.getD false=false->idx bs=idx (zX i j bs)+G:=λ{bs} hl h1 h2=>by
  have:=up (bs:=zX i j bs) (by rw[oE];exact hl) (by rw[gi hl];exact h2) (by rw[gj hl];exact h1);rw[ss hl]at this;exact this
 refine⟨?_,λas ha=>?_⟩
 ·refine jR (jR (nO h.lt lx) ?_) (Nat.lt_pow_two_of_testBit _ λp hp=>?_)
  ·exact cK (Nat.shiftRight_le _ _) (cK mq lx)
  ·rw[gx];by_cases hg:G<=p
   ·rw[au hg,js];cases hy:((t&&&(o^^^u))&&&u).testBit (p-G)with
    |false=>rfl
    |true=>
     obtain⟨bs,hl,hq,h1,h2,h3⟩:=(Y _).mp hy;have:=up hl h1 h2;have hlt:=ko (zX i j bs);rw[oE,hl]at hlt;lia
   ·rw[aQ hg,gr]
 ·rw[pO,pO,mo,Df,gx,h.at_ as ha,hx as ha];have x1:((t&&&(o^^^u))&&&o).testBit (G+idx as)=(!as[i]?.getD false&&as[j]?.getD false&&f (zX i j as)):=by
   apply Bool.eq_iff_iff.mpr;rw[X];constructor
   ·rintro⟨bs,hl,hq,h1,h2,h3⟩;have e:=dn hl h1 h2;have:zX i j bs=as:=Bt (by rw[oE,hl,ha]) VX;rw[<-this,gi hl,gj hl,ss hl,h1,h2,h3];rfl
   ·intro hz;simp only[bP,LY]at hz;refine⟨zX i j as,by rw[oE,ha],?_,by rw[gi ha];exact hz.1.2,by rw[gj ha];exact hz.1.1,hz.2⟩;rw[up ha hz.1.1 hz.1.2];lia
  have y1:(decide (G<=idx as)&&((t&&&(o^^^u))&&&u).testBit (idx as-G))=(as[i]?.getD false&&!as[j]?.getD false&&f (zX i j as)):=by
   apply Bool.eq_iff_iff.mpr;rw[bP,Y,nI];constructor
   ·rintro⟨hg,bs,hl,hq,h1,h2,h3⟩;have e:=up hl h1 h2;have:zX i j bs=as:=Bt (by rw[oE,hl,ha]) VX;rw[<-this,gi hl,gj hl,ss hl,h1,h2,h3];rfl
   ·intro hz;simp only[bP,LY]at hz;have e:=dn ha hz.1.1 hz.1.2;refine⟨VX,zX i j as,by rw[oE,ha],VX,by rw[gi ha];exact hz.1.2,by rw[gj ha];exact hz.1.1,hz.2⟩
  rw[x1,y1];by_cases hs:as[i]?.getD false=as[j]?.getD false
  ·rw[N2 VX VX hs,hs];generalize as[j]?.getD false=a;cases a<;>cases f as<;>rfl
  ·generalize as[i]?.getD false=a at*
   generalize as[j]?.getD false=b at*
   generalize f (zX i j as)=c;revert hs;cases a<;>cases b<;>cases c<;>cases f as<;>simp
open Vaprbg(index isOrder)
theorem vm:∀(l p:List Nat),l.Nodup->(∀x∈l,x∈p)->p.length<=l.length->p.Perm l
 |[],p,_,_,hl=>by
  have:p=[]:=List.length_eq_zero_iff.mp (by simpa using hl);rw[this]
 |x::l,p,hn,hs,hl=>by
  obtain⟨h1,h2⟩:=List.nodup_cons.mp hn;have hx:=hs x aV;have e:=List.perm_cons_erase hx;have:=vm l (p.erase x) h2 (λy hy=>(List.mem_erase_of_ne (λz:y=x=>h1 (z▸hy))).mpr (hs y (aL _ hy))) (by
   have:=e.length_eq;simp at this hl;lia)
  exact e.trans (this.cons x)
theorem zY:∀(a b:List Int),a.Perm b->a.Pairwise (·<=·)->b.Pairwise (·<=·)->a=b
 |[],b,h,_,_=>(List.nil_perm.mp h).symm
 |x::a,[],h,_,_=>absurd (List.perm_nil.mp h) (by simp)
 |x::a,y::b,h,ha,hb=>by
  obtain⟨a1,a2⟩:=List.pairwise_cons.mp ha;obtain⟨b1,b2⟩:=List.pairwise_cons.mp hb;have hxy:x=y:=by
   have hx:x∈y::b:=h.subset aV;have hy:y∈x::a:=h.symm.subset aV;have l1:y<=x:=by
    rcases List.mem_cons.mp hx with z|z
    ·lia
    ·exact b1 x z
   have l2:x<=y:=by
    rcases List.mem_cons.mp hy with z|z
    ·lia
    ·exact a1 y z
   lia
  subst hxy;rw[zY a b (List.Perm.cons_inv h) a2 b2]
theorem FV(n:Nat):((List.range n).map λx:Nat=>(x:Int)).Pairwise (·<=·):=by
 rw[zh];exact List.pairwise_le_range.imp λ{a b} h=>VX
structure Ord(n:Nat)(st:List Nat):Prop where
 len:st.length=n
 nd:st.Nodup
 lt:∀x∈st,x<n
theorem Ord.perm{n:Nat}{st:List Nat}(h:Ord n st):st.Perm (List.range n):=
 (vm st (List.range n) h.nd (λx hx=>List.mem_range.mpr (h.lt x hx)) (by rw[cy,h.len];exact aH _)).symm
theorem Ord.mem{n:Nat}{st:List Nat}(h:Ord n st){v:Nat}(hv:v<n):v∈st:=h.perm.symm.subset (List.mem_range.mpr hv)
theorem EK(n:Nat):Ord n (List.range n):=⟨cy,Bg,λx hx=>List.mem_range.mp hx⟩
noncomputable def arr(st:List Nat)(as:List Bool):List Bool:=(List.range st.length).map λv=>((st.findIdx? λx=>x==v).bind λi=>as[i]?).getD false
theorem DI(p:List Nat)(f:Fn):Vaprbg.reordered p f=λas=>f (arr p as):=rfl
theorem Kz{st:List Nat}(h:st.Nodup){i j v:Nat}(hi:st[i]?=some v)(hj:st[j]?=some v):i=j:=by
 obtain⟨a,ea⟩:=List.getElem?_eq_some_iff.mp hi;obtain⟨b,eb⟩:=List.getElem?_eq_some_iff.mp hj;have k:=List.pairwise_iff_getElem.mp h;rcases Nat.lt_trichotomy i j with z|z|z
 ·exact absurd (ea.trans eb.symm) (k i j a b z)
 ·exact z
 ·exact absurd (eb.trans ea.symm) (k j i b a z)
theorem Qg{st:List Nat}(h:st.Nodup){i v:Nat}(hi:st[i]?=some v):st.findIdx? (λx=>x==v)=some i:=by
 obtain⟨a,ea⟩:=List.getElem?_eq_some_iff.mp hi;rw[List.findIdx?_eq_some_iff_getElem];refine⟨a,by simp[ea],λj hj=>?_⟩;have hj':j<st.length:=VX;simp only[jg];intro z;have:=Kz h (i:=j) (j:=i) (v:=v) (by rw[af hj',z]) hi;lia
theorem Jq{n:Nat}{st:List Nat}(h:Ord n st){i v:Nat}(hi:st[i]?=some v)(as:List Bool):(arr st as)[v]?=some (as[i]?.getD false):=by
 have hv:=h.lt v (bE hi);unfold arr;rw[aR,lW (by rw[h.len];exact hv)];show some (((st.findIdx? λx=>x==v).bind λi=>as[i]?).getD false)=_;rw[Qg h.nd hi];rfl
theorem FW(st:List Nat)(as:List Bool):(arr st as).length=st.length:=by
 unfold arr;rw[ay,cy]
theorem Lx{as:List Bool}:arr (List.range as.length) as=as:=by
 apply fG;intro v;by_cases hv:v<as.length
 ·rw[Jq (EK as.length) (i:=v) (v:=v) (lW hv),af hv];rfl
 ·rw[b7 (l:=as) VX,b7 (by rw[FW,cy];lia)]
noncomputable def CK(st:List Nat)(k m:Nat)(a o:Nat):List Nat:=(st.set m a).set k o
theorem yU{n:Nat}{st:List Nat}(h:Ord n st){k m a o:Nat}(hk:st[k]?=some a)(hm:st[m]?=some o)(i:Nat):(CK st k m a o)[i]?=st[if i=k then m else if i=m then k else i]?:=by
 have lk:=(List.getElem?_eq_some_iff.mp hk).1;have lm:=(List.getElem?_eq_some_iff.mp hm).1;unfold CK;rw[zk,zk,ck];by_cases h1:k=i
 ·rw[ao h1,ao h1.symm,ao lk,hm]
 ·rw[ah h1,ah (bh h1)];by_cases h2:m=i
  ·rw[ao h2,ao lm,ao h2.symm,hk]
  ·rw[ah h2,ah (bh h2)]
theorem Hk{n:Nat}{st:List Nat}(h:Ord n st){k m a o:Nat}(hk:st[k]?=some a)(hm:st[m]?=some o):Ord n (CK st k m a o):=by
 have lk:=(List.getElem?_eq_some_iff.mp hk).1;have lm:=(List.getElem?_eq_some_iff.mp hm).1;have hmem:∀x∈CK st k m a o,x∈st:=λx hx=>by
  obtain⟨i,hi⟩:=tQ hx;rw[yU h hk hm]at hi;exact bE hi
 refine⟨by unfold CK;rw[ck,ck,h.len],?_,λx hx=>h.lt x (hmem x hx)⟩;have hl:(CK st k m a o).length=st.length:=by unfold CK;rw[ck,ck]
 refine List.pairwise_iff_getElem.mpr λi j hi hj hij z=>?_;have z:(CK st k m a o)[i]?=(CK st k m a o)[j]?:=by rw[af hi,af hj,z]
 rw[yU h hk hm,yU h hk hm]at z;have hi':(if i=k then m else if i=m then k else i)<st.length:=by split;exact lm;split;exact lk;lia
 rw[af hi']at z;have e:=Kz h.nd (af hi') z.symm;revert e;split<;>split<;>(try split)<;>(try split)<;>lia
theorem N3{n:Nat}{st:List Nat}(h:Ord n st){k m a o:Nat}(hk:st[k]?=some a)(hm:st[m]?=some o){as:List Bool}(ha:as.length=n):arr (CK st k m a o) as=arr st (zX k m as):=by
 have lk:=(List.getElem?_eq_some_iff.mp hk).1;have lm:=(List.getElem?_eq_some_iff.mp hm).1;have ho:=Hk h hk hm;have hn:=h.len;apply fG;intro v;by_cases hv:v<n
 ·obtain⟨i,hi⟩:=tQ (ho.mem hv);rw[Jq ho hi];have hi2:=hi;rw[yU h hk hm]at hi2;rw[Jq h hi2,oF VX VX]
  congr 1
  by_cases h1:i=k
  ·rw[ao h1];by_cases h2:m=k
   ·rw[ao h2,h1,h2]
   ·rw[ah h2,ao rfl,h1]
  ·rw[ah h1];by_cases h2:i=m
   ·rw[ao h2,ao rfl,h2]
   ·rw[ah h2,ah h1,ah h2]
 ·rw[b7 (by rw[FW,ho.len];lia),b7 (by rw[FW,h.len];lia)]
theorem sh{n:Nat}:∀{l:List Int}{p:List Nat},l.mapM (λv=>index v n)=some p↔(l=p.map (λx:Nat=>(x:Int))/\∀x∈p,x<n)
 |[],p=>by
  rw[List.mapM_nil];constructor
  ·intro h;cases h;exact⟨rfl,λx hx=>absurd hx (by simp)⟩
  ·rintro⟨h,_⟩;cases p with
   |nil=>rfl
   |cons _ _=>cases h
 |v::l,p=>by
  rw[List.mapM_cons];constructor
  ·intro h;cases hv:index v n with
   |none=>
    rw[hv]at h;cases h
   |some x=>
    cases hl:l.mapM (λv=>index v n)with
    |none=>
     rw[hv,hl]at h;cases h
    |some q=>
     rw[hv,hl]at h;cases h;obtain⟨e,hq⟩:=sh.mp hl;have hx:v=(x:Int)/\x<n:=by
      unfold index at hv;by_cases hi:0<=v/\v<(n:Int)
      ·rw[ao hi]at hv;cases hv;lia
      ·rw[ah hi]at hv;cases hv
     refine⟨by rw[bW,<-e,hx.1],λy hy=>?_⟩;rcases List.mem_cons.mp hy with rfl|hy
     ·exact hx.2
     ·exact hq y hy
  ·rintro⟨h,hp⟩;cases p with
   |nil=>cases h
   |cons x q=>
    rw[bW]at h;injection h with h1 h2
    have hv:index v n=some x:=by
     have:=hp x aV;unfold index;rw[ao VX,h1];rfl
    rw[hv,sh.mpr ⟨h2,λy hy=>hp y (aL _ hy)⟩];rfl
theorem KA{n:Nat}{p:List Nat}(hp:∀x∈p,x<n):isOrder n p=true↔Ord n p:=by
 unfold isOrder;rw[bP,nI,List.all_eq_true];constructor
 ·rintro⟨h1,h2⟩;have hq:=vm (List.range n) p Bg (λx hx=>List.contains_iff_mem.mp (h2 x hx)) (by rw[cy,h1];exact aH _);exact⟨h1,hq.nodup_iff.mpr Bg,hp⟩
 ·intro h;exact⟨h.len,λx hx=>List.contains_iff_mem.mpr (h.mem (List.mem_range.mp hx))⟩
theorem yV{n:Nat}{l ns:List Int}(hp:ns.Perm l)(hs:ns.Pairwise (·<=·)):ns=(List.range n).map (λx:Nat=>(x:Int))↔∃p,l=p.map (λx:Nat=>(x:Int))/\Ord n p:=by
 constructor
 ·intro h;subst h;have hm:∀y∈l,∃x:Nat,x<n/\(x:Int)=y:=λy hy=>by
   obtain⟨x,hx,e⟩:=List.mem_map.mp (hp.symm.subset hy);exact⟨x,List.mem_range.mp hx,e⟩
  refine⟨l.map Int.toNat,?_,?_⟩
  ·rw[cS]
   conv=>lhs;rw[<-List.map_id l]
   apply eQ;intro y hy;obtain⟨x,_,e⟩:=hm y hy;rw[<-e];rfl
  ·have hq:=hp.map Int.toNat;rw[cS]at hq;have e:(Int.toNat∘λx:Nat=>(x:Int))=id:=by
    funext x
    rfl
   rw[e,List.map_id]at hq;refine⟨by rw[<-hq.length_eq,cy],hq.nodup_iff.mp Bg,λx hx=>List.mem_range.mp (hq.symm.subset hx)⟩
 ·rintro⟨p,rfl,ho⟩;exact zY _ _ (hp.trans (ho.perm.map _)) hs (FV n)
theorem Ly{us:List Var}{s:c4}(hn:us.length<=12){d:Nat}{p:List Nat}(h:Ord us.length p):Vaprbg.sizeByAnswer ⟨us,s⟩ d (p.map λx:Nat=>(x:Int))=Vaprbg.count (build (λas=>says s d (arr p as)) us.length [] []).1.length:=by
 unfold Vaprbg.sizeByAnswer;dsimp only;rw[sh.mpr ⟨rfl,h.lt⟩];dsimp only;rw[(KA h.lt).mpr h,ah VW,DI,N0 hn]
theorem Lz{us:List Var}{s:c4}{d:Nat}{l:List Int}(h:¬∃p,l=p.map (λx:Nat=>(x:Int))/\Ord us.length p):Vaprbg.sizeByAnswer ⟨us,s⟩ d l=Vaprbg.refused (-5):=by
 unfold Vaprbg.sizeByAnswer;dsimp only;cases hm:l.mapM (λv=>index v us.length)with
 |none=>rfl
 |some p=>
  obtain⟨e,hp⟩:=sh.mp hm;dsimp only;rw[ao];cases ho:isOrder us.length p with
  |false=>rfl
  |true=>exact absurd ⟨p,e,(KA hp).mp ho⟩ h
theorem N4{us:List Var}{s:c4}{d:Nat}{ns:List Int}{l:List Nat}(hl:l=(Vaprbg.nodes s d).filterMap (λx=>(nodeOf s x).map λm=>m.var))(hlt:∀x∈l,x<us.length)(hnd:ns.Nodup)(hs:ns.Pairwise (·<=·))(hm:∀y,y∈ns↔∃x∈l,(x:Int)=y):
 ns=(Vaprbg.hangs us s d).map λx:Nat=>(x:Int):=by
 have e:Vaprbg.hangs us s d=(List.range us.length).filter λv=>l.contains v:=by
  unfold Vaprbg.hangs;rw[<-hl]
 rw[e];have h2:(((List.range us.length).filter λv=>l.contains v).map λx:Nat=>(x:Int)).Pairwise (·<=·):=by
  rw[zh];exact(List.pairwise_le_range.imp λ{a b} h=>VX).sublist List.filter_sublist
 have h3:(((List.range us.length).filter λv=>l.contains v).map λx:Nat=>(x:Int)).Nodup:=by
  unfold List.Nodup;rw[zh];have:((List.range us.length).filter λv=>l.contains v).Nodup:=List.nodup_range.filter _;exact this.imp λ{a b} h=>VX
 refine zY _ _ ?_ hs h2;rw[xI hnd h3];intro y;rw[hm,List.mem_map];constructor
 ·rintro⟨x,hx,rfl⟩;exact⟨x,List.mem_filter.mpr ⟨List.mem_range.mpr (hlt x hx),List.contains_iff_mem.mpr hx⟩,rfl⟩
 ·rintro⟨x,hx,rfl⟩;exact⟨x,List.contains_iff_mem.mp (List.mem_filter.mp hx).2,rfl⟩
end TM
namespace TM
open Vaprbg
def zZ(s:State)(r:State×Answer):Prop:=r.2.value<0->r.1=s/\r.2.rest=[]/\(r.2.value= -1\/r.2.value= -2\/r.2.value= -3\/r.2.value= -5\/r.2.value= -6)
theorem iB{s:State}{r:State×Answer}(h:0<=r.2.value):zZ s r:=λz=>absurd z VX
theorem fk{s:State}{n:Int}(h:n= -1\/n= -2\/n= -3\/n= -5\/n= -6):zZ s (s,refused n):=λ_=>⟨rfl,rfl,h⟩
theorem jo(s:State)(f:Fn):zZ s (made s f):=by
 unfold made;dsimp only;split
 ·exact fk (by simp)
 ·exact iB (by show(0:Int)<=((build f s.vars.length [] s.store).2:Int);lia)
theorem eE{s:State}{i:Int}{f:Nat->State×Answer}(h:∀d,zZ s (f d)):zZ s (withOne s i f):=by
 unfold withOne;cases diagram s i with
 |none=>exact fk (by simp)
 |some d=>exact h d
theorem yW{s:State}{v:Int}{f:Nat->State×Answer}(h:∀d,zZ s (f d)):zZ s (withVar s v f):=by
 unfold withVar;cases index v s.vars.length with
 |none=>exact fk (by simp)
 |some d=>exact h d
theorem EL(s:State)(f:VaprbBase.Frac):zZ s (s,fracAnswer f):=iB (by show(0:Int)<=1;decide)
theorem CL(s:State)(n:Nat):zZ s (s,count n):=iB (by show(0:Int)<=(n:Int);lia)
theorem AR(s:State)(l:List Nat):zZ s (s,listed l):=iB (by show(0:Int)<=(l.length:Int);lia)
theorem Hl(s:State)(d:Nat)(c:Call):zZ s (s,looked s d c):=by
 unfold looked;split
 ·exact EL _ _
 ·exact CL _ _
 ·split
  ·exact fk (by simp)
  ·rename_i m _;exact iB (by show(0:Int)<=(m.var:Int);lia)
 ·exact AR _ _
 ·exact AR _ _
 ·split
  ·exact fk (by simp)
  ·rename_i x _;exact iB (by show(0:Int)<=(x.2.1:Int);lia)
 ·exact fk (by simp)
theorem Hm(s:State)(c:Call):zZ s (making s c):=by
 unfold making;split
 ·refine eE λd=>eE λe=>?_;split
  ·exact fk (by simp)
  ·exact jo _ _
 ·exact eE λd=>jo _ _
 ·exact eE λc=>eE λd=>eE λe=>jo _ _
 ·refine eE λd=>yW λv=>?_;split
  ·exact jo _ _
  ·exact fk (by simp)
 ·exact eE λd=>yW λv=>jo _ _
 ·exact eE λd=>yW λv=>jo _ _
 ·exact eE λd=>yW λv=>eE λe=>jo _ _
 ·exact fk (by simp)
theorem LA(s:State)(c:Call):zZ s (step s c):=by
 unfold step;split
 ·split
  ·exact iB (by show(0:Int)<=1;decide)
  ·exact iB (Int.le_refl _)
 ·split
  ·exact fk (by simp)
  ·split
   ·exact Hm _ _
   ·split
    ·split
     ·exact iB (Int.le_refl _)
     ·dsimp only;split
      ·exact jo _ _
      ·exact iB (by show(0:Int)<=1;decide)
    ·refine eE λd=>eE λe=>?_;unfold givenAnswer;dsimp only;split
     ·exact fk (by simp)
     ·exact EL _ _
    ·refine eE λd=>?_;split
     ·exact fk (by simp)
     ·exact iB (by dsimp only;split<;>decide)
    ·refine eE λd=>?_;unfold listAnswer;split
     ·exact fk (by simp)
     ·exact iB (by dsimp only;lia)
    ·refine eE λd=>?_;unfold sizeByAnswer;split
     ·exact fk (by simp)
     ·split
      ·exact fk (by simp)
      ·exact CL _ _
    ·exact iB (by dsimp only;lia)
    ·exact eE λd=>Hl _ _ _
def Jr(r:State×Answer):Prop:=r.2.rest.length<=10000
theorem gB{s:State}{n:Int}:Jr (s,refused n):=br _
theorem jq(s:State)(f:Fn):Jr (made s f):=by
 unfold made;dsimp only;split<;>exact br _
theorem eF{s:State}{i:Int}{f:Nat->State×Answer}(h:∀d,Jr (f d)):Jr (withOne s i f):=by
 unfold withOne;cases diagram s i with
 |none=>exact br _
 |some d=>exact h d
theorem yX{s:State}{v:Int}{f:Nat->State×Answer}(h:∀d,Jr (f d)):Jr (withVar s v f):=by
 unfold withVar;cases index v s.vars.length with
 |none=>exact br _
 |some d=>exact h d
theorem KC(l:List Nat)(x:Nat):(jS l x).length<=l.length+1:=by
 unfold jS;split
 ·lia
 ·simp
theorem CM(s:c4):∀(k i:Nat)(l:List Nat),(reach s k i l).length<=l.length+2*k
 |0,i,l=>by
  show l.length<=_;lia
 |k+1,i,l=>by
  rw[reach];split
  ·lia
  ·split
   ·have:=CM s k (i+1) l;lia
   ·rename_i m _;have h1:=CM s k (i+1) (metAll l [m.lo,m.hi]);have h2:=KC (jS l m.lo) m.hi;have h3:=KC l m.lo;rw[Jo]at h1⊢;lia
theorem Hn{s:c4}(h:s.length<=3000)(d:Nat):(nodes s d).length<=7000:=by
 unfold nodes;have h1:=dj (λx=>decide (2<=x)) (reach s (s.length+3) 0 [d]);have h2:=CM s (s.length+3) 0 [d];simp only[fc]at h2;lia
theorem Ho(vs:List Var)(s:c4)(d:Nat):(hangs vs s d).length<=vs.length:=by
 unfold hangs;dsimp only;refine be (dj _ _) ?_;rw[cy];exact aH _
theorem CN{vs:List Var}{s:c4}{d:Nat}{t:List Bool}(h:t∈truths vs s d):t.length=vs.length:=gG (List.mem_filter.mp h).1
theorem Qi{vs:List Var}{s:c4}{d:Nat}{x:VaprbBase.Frac×Nat×List Bool}(h:best vs s d=some x):x.2.2.length=vs.length:=by
 unfold best at h;dsimp only at h;cases ht:truths vs s d with
 |nil=>
  rw[ht]at h;cases h
 |cons a r=>
  rw[ht]at h;dsimp only at h;rw[<-ht]at h;obtain⟨t,h1,h2⟩:=Option.map_eq_some_iff.mp h;rw[<-h2];exact CN (List.mem_filter.mp (List.mem_of_mem_head? h1)).1
theorem FX:∀(l:List (List Bool))(n:Nat),(∀t∈l,t.length=n)->(l.flatMap bits).length=l.length*n
 |[],n,_=>by simp
 |t::l,n,h=>by
  rw[Ma,aE,FX l n λx hx=>h x (aL _ hx)];unfold bits;rw[ay,h t aV,aT,Nat.succ_mul];lia
theorem LB(s:State)(c:Call)(hs:s.store.length<=3000)(hv:s.vars.length<=12):(step s c).2.rest.length<=10000:=by
 show Jr _;unfold step;split
 ·split
  ·exact br _
  ·show 2<=10000;decide
 ·split
  ·exact gB
  ·split
   ·unfold making;split
    ·refine eF λd=>eF λe=>?_;split
     ·exact gB
     ·exact jq _ _
    ·exact eF λd=>jq _ _
    ·exact eF λc=>eF λd=>eF λe=>jq _ _
    ·refine eF λd=>yX λv=>?_;split
     ·exact jq _ _
     ·exact gB
    ·exact eF λd=>yX λv=>jq _ _
    ·exact eF λd=>yX λv=>jq _ _
    ·exact eF λd=>yX λv=>eF λe=>jq _ _
    ·exact gB
   ·split
    ·split
     ·show 2<=10000;decide
     ·dsimp only;split
      ·exact jq _ _
      ·show 1<=10000;decide
    ·refine eF λd=>eF λe=>?_;unfold givenAnswer;dsimp only;split
     ·exact gB
     ·show 2<=10000;decide
    ·refine eF λd=>?_;split
     ·exact gB
     ·exact br _
    ·rename_i i n _ _;refine eF λd=>?_;unfold listAnswer;split
     ·exact gB
     ·rename_i hn;show(((truths s.vars s.store d).take n.toNat).flatMap bits).length<=10000;rw[FX _ s.vars.length λt ht=>CN (List.mem_of_mem_take ht)];have h1:((truths s.vars s.store d).take n.toNat).length<=200:=by
       have:=List.length_take_le n.toNat (truths s.vars s.store d);lia
      exact be (Nat.mul_le_mul h1 hv) VW
    ·refine eF λd=>?_;unfold sizeByAnswer;split
     ·exact gB
     ·split
      ·exact gB
      ·exact br _
    ·show 1<=10000;decide
    ·refine eF λd=>?_;unfold looked;split
     ·show 2<=10000;decide
     ·exact br _
     ·split
      ·exact gB
      ·show 2<=10000;decide
     ·show((nodes s.store d).map _).length<=10000;rw[ay];have:=Hn hs d;lia
     ·show((hangs s.vars s.store d).map _).length<=10000;rw[ay];have:=Ho s.vars s.store d;lia
     ·split
      ·exact gB
      ·rename_i x hx;have:=Qi hx;show(VaprbBase.fracRow x.1++bits x.2.2).length<=10000;unfold bits VaprbBase.fracRow;rw[aE,ay,this];show 2+s.vars.length<=10000;lia
     ·exact gB
def AS(s:State)(r:State×Answer):Prop:=r.1.vars=s.vars/\(s.store.length<=3000->r.1.store.length<=3000)
theorem dU(s:State)(a:Answer):AS s (s,a):=⟨rfl,λh=>h⟩
theorem gq(s:State)(f:Fn):AS s (made s f):=by
 unfold made;dsimp only;split
 ·exact dU _ _
 ·rename_i h;exact⟨rfl,λ_=>by
   have:STORE=3000:=rfl;show(build f s.vars.length [] s.store).1.length<=3000;lia⟩
theorem dF{s:State}{i:Int}{f:Nat->State×Answer}(h:∀d,AS s (f d)):AS s (withOne s i f):=by
 unfold withOne;cases diagram s i with
 |none=>exact dU _ _
 |some d=>exact h d
theorem vF{s:State}{v:Int}{f:Nat->State×Answer}(h:∀d,AS s (f d)):AS s (withVar s v f):=by
 unfold withVar;cases index v s.vars.length with
 |none=>exact dU _ _
 |some d=>exact h d
theorem FY(s:State)(c:Call):AS s (making s c):=by
 unfold making;split
 ·refine dF λd=>dF λe=>?_;split
  ·exact dU _ _
  ·exact gq _ _
 ·exact dF λd=>gq _ _
 ·exact dF λc=>dF λd=>dF λe=>gq _ _
 ·refine dF λd=>vF λv=>?_;split
  ·exact gq _ _
  ·exact dU _ _
 ·exact dF λd=>vF λv=>gq _ _
 ·exact dF λd=>vF λv=>gq _ _
 ·exact dF λd=>vF λv=>dF λe=>gq _ _
 ·exact dU _ _
theorem Js(s:State)(c:Call)(hc:∀b,c≠ .vars b):AS s (step s c):=by
 unfold step;split
 ·exact absurd rfl (hc _)
 ·split
  ·exact dU _ _
  ·split
   ·exact FY _ _
   ·split
    ·split
     ·exact dU _ _
     ·dsimp only;split
      ·exact gq _ _
      ·exact gq _ _
    ·exact dF λd=>dF λe=>dU _ _
    ·refine dF λd=>?_;split<;>exact dU _ _
    ·exact dF λd=>dU _ _
    ·exact dF λd=>dU _ _
    ·exact dU _ _
    ·exact dF λd=>dU _ _
end TM
namespace L2
open PySem PySem.Spec PyProof.Rows
theorem CO{X:Cx}{k:Nat}{f C:Addr}{ps:List Str}{sp:Sp}{E:XK}{x m:Str}{p pos apos:Pos}{e:Expr}{es:List Expr}{t:TA}{pl:Sem Bool}
 (O:dQ X.prog X.w X.K X.mg X.base k f ps sp) (hM:Pj X.K C m f) (hm:X.mg x=some (.ref C)) (hr:fK k X.A) (hx:gf (Ar X.prog X.w) X E) (ha:PA X (e::es) t) (hg:Gl X x:=by rfl)
 (hdb:(x==("__debug__":Str))=false:=by decide) (hst:starEach (e::es) X.env=(false,eval e X.env)::starEach es X.env:=by rfl) (hpl:(backTo pos (starEach es X.env)).any (·.1)=false:=by rfl)
 (ht:eval (.Call (.Attribute (.Name x p) m apos) (e::es) [] pos) X.env=(do
  let ov<-eval (.Name x p) X.env
  standAt apos.atName
  let(f,first)<-holding [ov] (getMethod ov m pl)
  callWith pos f first (backTo pos (starEach (e::es) X.env)) (backToKw pos (keywordEach [] X.env))):=by rfl):
 PE X (.Call (.Attribute (.Name x p) m apos) (e::es) [] pos) (Uw sp E t):=by
 obtain⟨fd,G,b⟩:=O.ex;exact(Pk hM G hr hg hm b .nil hx ha hdb hst hpl ht).to (by unfold Uw JQ;funext σ H Q;simp only[bD])
end L2
namespace TS
open PySem PySem.Spec PyProof.Rows L2 TM
def LC(K:PySem.W.Frag):Sp:=λvs H Q _=>∃(a C:Addr)(v:V),vs=[.ref a,v]/\vM K C/\j2 K C=true/\df K C "number"/\H a=some (XO a C none)/\
 ∀(d:Addr)(H':Hp),H d=none->d≠a->H' a=some (XO a C (some d))->H' d=some (XD d [("number",v)])->(∀b o,H b=some o->b≠a->H' b=some o)->Q .gb H'
noncomputable def yY(n:Int):List V->List (Str×V):=λ_=>[("number",.int n)]
section
include T
theorem gC:dQ P w K mg base 1 t.md ["self","number"] (LC K):=by
 refine T.uK.ok AW (λvs H Q E h=>?_) (λcdv A outer s H vs Q E hr h=>?_)
 ·obtain⟨a,C,v,rfl,_⟩:=h;rfl
 ·obtain⟨a,C,v,rfl,h1,h2,h3,ha,q⟩:=h;refine⟨_,(az (Fg (Wo 0) (Wo 1) rfl)),?_⟩;refine⟨a,C,rfl,h1,h2,h3,.inl ⟨ha,λd nd ne=>?_⟩⟩;exact q d _ nd ne aC (by rw[bt ne,aC]) λb o e n=>by rw[bt n,bt (aq e nd)];exact e
theorem vT:dQ P w K mg base 2 t.kg ["self"] (mO t.me 0 (yY (-1))):=by
 refine T.mY.ok vO (λvs H Q E h=>?_) (λcdv A outer s H vs Q E hr h=>?_)
 ·obtain⟨a,us,rfl,hl,_⟩:=h;exact bJ Nat.succ hl
 ·obtain⟨a,us,rfl,hl,ha,q⟩:=h;obtain rfl:=WS hl;refine⟨_,(az (bw (CO (gC T) T.mj T.jl.ma (hr.mono VW) bF (aa (Wo 0) (aa (An tV aK) ai))))),?_⟩;exact⟨_,rfl,WZ a _ _ ⟨rfl,T.eB.cl,T.eB.ov,T.eB.no _ VW,ha,q⟩⟩
theorem yZ:dQ P w K mg base 2 t.mS ["self"] (mO t.mR 0 (yY (-2))):=by
 refine T.qk.ok x9 (λvs H Q E h=>?_) (λcdv A outer s H vs Q E hr h=>?_)
 ·obtain⟨a,us,rfl,hl,_⟩:=h;exact bJ Nat.succ hl
 ·obtain⟨a,us,rfl,hl,ha,q⟩:=h;obtain rfl:=WS hl;refine⟨_,(az (bw (CO (gC T) T.mj T.jl.ma (hr.mono VW) bF (aa (Wo 0) (aa (An tV aK) ai))))),?_⟩;exact⟨_,rfl,WZ a _ _ ⟨rfl,T.fD.cl,T.fD.ov,T.fD.no _ VW,ha,q⟩⟩
theorem y0:dQ P w K mg base 2 t.mT ["self"] (mO t.kh 0 (yY (-3))):=by
 refine T.ql.ok yb (λvs H Q E h=>?_) (λcdv A outer s H vs Q E hr h=>?_)
 ·obtain⟨a,us,rfl,hl,_⟩:=h;exact bJ Nat.succ hl
 ·obtain⟨a,us,rfl,hl,ha,q⟩:=h;obtain rfl:=WS hl;refine⟨_,(az (bw (CO (gC T) T.mj T.jl.ma (hr.mono VW) bF (aa (Wo 0) (aa (An tV aK) ai))))),?_⟩;exact⟨_,rfl,WZ a _ _ ⟨rfl,T.fE.cl,T.fE.ov,T.fE.no _ VW,ha,q⟩⟩
theorem dw:dQ P w K mg base 2 t.i8 ["self"] (mO t.g9 0 (yY (-5))):=by
 refine T.kP.ok tH (λvs H Q E h=>?_) (λcdv A outer s H vs Q E hr h=>?_)
 ·obtain⟨a,us,rfl,hl,_⟩:=h;exact bJ Nat.succ hl
 ·obtain⟨a,us,rfl,hl,ha,q⟩:=h;obtain rfl:=WS hl;refine⟨_,(az (bw (CO (gC T) T.mj T.jl.ma (hr.mono VW) bF (aa (Wo 0) (aa (An tV aK) ai))))),?_⟩;exact⟨_,rfl,WZ a _ _ ⟨rfl,T.bV.cl,T.bV.ov,T.bV.no _ VW,ha,q⟩⟩
theorem gK:dQ P w K mg base 2 t.i9 ["self"] (mO t.jC 0 (yY (-6))):=by
 refine T.kQ.ok tI (λvs H Q E h=>?_) (λcdv A outer s H vs Q E hr h=>?_)
 ·obtain⟨a,us,rfl,hl,_⟩:=h;exact bJ Nat.succ hl
 ·obtain⟨a,us,rfl,hl,ha,q⟩:=h;obtain rfl:=WS hl;refine⟨_,(az (bw (CO (gC T) T.mj T.jl.ma (hr.mono VW) bF (aa (Wo 0) (aa (An tV aK) ai))))),?_⟩;exact⟨_,rfl,WZ a _ _ ⟨rfl,T.cF.cl,T.cF.ov,T.cF.no _ VW,ha,q⟩⟩
end
open Vaprbg(Node Var build nodeOf put says)
def Hq(CD:Addr):Sp:=λvs H Q _=>∃(x dx sd:Addr)(n:Nat)(s0:c4),vs=[.ref x,.ref sd,.int n]/\H x=some (.ins CD dx [])/\H sd=some (.dT (kvsOf 0 s0))/\
 ∀(fd kd:Addr)(H':Hp),H fd=none->H kd=none->Cu CD H' x sd fd kd n s0 [] []->Kp x H H'->Q .gb H'
def A2(H:Hp)(cl:Addr)(us:List Var):Prop:=∃ps:List Addr,H cl=some (.lst (ps.map V.ref))/\ps.length=us.length/\∀(i:Nat)(p:Addr)(v:Var),ps[i]?=some p->us[i]?=some v->H p=some (.tup [.int v.chance.num,.int v.chance.den])
structure xC(n:Nat)(s:c4)(tbs:List Nat):Prop where
 len:tbs.length=s.length+2
 ok:∀d tb:Nat,tbs[d]?=some tb->cu n (says s d) tb
structure nF(us:List Var)(s:c4)(ws:List Nat):Prop where
 len:ws.length=s.length+2
 ok:∀d w:Nat,ws[d]?=some w->zV us s d w
structure wX(us:List Var):Prop where
 ok:iF us
 le:us.length<=12
 den:∀v∈us,v.chance.den<=1000000000
structure SA where
 cl:Addr
 sp:Addr
 vl:Addr
 no:Addr
 nd:Addr
 tl:Addr
 wl:Addr
 yl:Addr
noncomputable def SA.mu(L:SA):List Addr:=[L.no,L.nd,L.tl,L.wl,L.yl]
structure SL where
 tb:List Nat
 ws:List Nat
 ys:List Nat
noncomputable def Qj(L:SA)(us:List Var):List (Str×V):=[("chances",.ref L.cl),("space",.ref L.sp),("whole",.int (pre us us.length:Nat)),("nodes",.ref L.no),("numbers",.ref L.nd),("tables",.ref L.tl),("weights",.ref L.wl),("ways",.ref L.yl)]
noncomputable def bx(l:List Nat):List V:=l.map λv=>V.int (v:Nat)
theorem dA{l:List Nat}{i v:Nat}(h:l[i]?=some v):(bx l)[i]?=some (.int (v:Nat)):=by
 unfold bx;rw[aR,h];rfl
theorem fJ(l:List Nat)(v:Nat):bx l++[.int (v:Nat)]=bx (l++[v]):=by
 unfold bx;rw[cb];rfl
theorem cA(l:List Nat):(bx l).length=l.length:=ay _
def Vj(H:Hp)(no:Addr)(s:c4):Prop:=∃ps:List Addr,H no=some (.lst (ps.map V.ref))/\ps.length=s.length/\∀(i:Nat)(p:Addr)(m:Node),ps[i]?=some p->s[i]?=some m->H p=some (.tup (qJ m))
structure fZ(t:Ad)(H:Hp)(x:Addr)(L:SA)(us:List Var)(s:c4)(D:SL):Prop where
 ex:∃dx,H x=some (.ins t.a6 dx (Qj L us))
 ch:A2 H L.cl us
 vx:∃dx,H L.sp=some (.ins t.b8 dx (Lo us.length L.vl))
 vt:∃vts,PM us.length H L.vl vts
 N5:Vj H L.no s
 Jt:H L.nd=some (.dT (kvsOf 0 s))
 xK:H L.tl=some (.lst (bx D.tb))
 HQ:H L.wl=some (.lst (bx D.ws))
 KD:H L.yl=some (.lst (bx D.ys))
 ne:([L.cl,L.vl,L.no,L.tl,L.wl,L.yl]:List Addr).Nodup
 ta:xC us.length s D.tb
 wa:nF us s D.ws
 ya:nF (half us.length) s D.ys
 wf:WF us.length s
 vb:wX us
theorem fZ.sc{t:Ad}{H:Hp}{x:Addr}{L:SA}{us:List Var}{s:c4}{D:SL}(h:fZ t H x L us s D):nj t.b8 H L.sp us.length:=by
 obtain⟨dx,e⟩:=h.vx;obtain⟨vts,hV⟩:=h.vt;exact⟨(WZ dx L.vl vts ⟨e,hV⟩),h.vb.le⟩
structure So(t:Ad)(H:Hp)(x:Addr)(L:SA)(us:List Var):Prop where
 ex:∃dx,H x=some (.ins t.a6 dx (Qj L us))
 ch:A2 H L.cl us
 vx:∃dx,H L.sp=some (.ins t.b8 dx (Lo us.length L.vl))
 vt:∃vts,PM us.length H L.vl vts
 le:us.length<=12
theorem So.sc{t:Ad}{H:Hp}{x:Addr}{L:SA}{us:List Var}(h:So t H x L us):nj t.b8 H L.sp us.length:=by
 obtain⟨dx,e⟩:=h.vx;obtain⟨vts,hV⟩:=h.vt;exact⟨(WZ dx L.vl vts ⟨e,hV⟩),h.le⟩
theorem fZ.tE{t:Ad}{H H':Hp}{x:Addr}{L:SA}{us:List Var}{s:c4}{D:SL}(h:fZ t H x L us s D)(k:gc L.mu H H'){b:Addr}{o:HO}(e:H b=some o)(h1:∀kvs,o≠ .dT kvs)(h2:∀xs,o≠ .lst xs):H' b=some o:=by
 obtain⟨ps,e0,_⟩:=h.N5;refine k b o e ?_;simp[SA.mu];exact⟨cn e e0 (h2 _),cn e h.Jt (h1 _),cn e h.xK (h2 _),cn e h.HQ (h2 _),cn e h.KD (h2 _)⟩
theorem fZ.keep{t:Ad}{H H':Hp}{x:Addr}{L:SA}{us:List Var}{s:c4}{D:SL}(h:fZ t H x L us s D)(k:gc L.mu H H'):So t H' x L us:=by
 obtain⟨dx,ex⟩:=h.ex;obtain⟨ps,ec,hpl,hpa⟩:=h.ch;obtain⟨dxs,es⟩:=h.vx;obtain⟨vts,hV⟩:=h.vt;have hn:=h.ne;simp at hn;refine⟨⟨dx,h.tE k ex (λ_ z=>nomatch z) (λ_ z=>nomatch z)⟩,⟨ps,k _ _ ec ?_,hpl,λi p v h1 h2=>h.tE k (hpa i p v h1 h2) (λ_ z=>nomatch z) (λ_ z=>nomatch z)⟩,⟨dxs,h.tE k es (λ_ z=>nomatch z) (λ_ z=>nomatch z)⟩,⟨vts,k _ _ hV.at_ ?_,hV.len,hV.ok⟩,h.vb.le⟩
 ·simp[SA.mu];exact⟨hn.1.2.1,cn ec h.Jt (λz=>nomatch z),hn.1.2.2⟩
 ·simp[SA.mu];exact⟨hn.2.1.1,cn hV.at_ h.Jt (λz=>nomatch z),hn.2.1.2⟩
section
include T
theorem pI:dQ P w K mg base 1 t.xp ["self","stored","count"] (Hq t.cT):=by
 refine T.yA.ok DD (λvs H Q E h=>?_) (λcdv A outer s H vs Q E hr h=>?_)
 ·obtain⟨x,dx,sd,n,s0,rfl,_⟩:=h;rfl
 ·obtain⟨x,dx,sd,n,s0,rfl,hx,hs,q⟩:=h;have nsx:sd≠x:=cn hs hx λz=>nomatch z;refine⟨_,(ag (dz (Wo 0) (Wo 1) rfl) (ag (dz (Wo 0) (Wo 2) rfl) (ag (dz (Wo 0) xW rfl) (az (dz (Wo 0) xW rfl))))),?_⟩;refine WY x t.cT dx _ ⟨rfl,hx,T.bT.cl,T.bT.no _ VW,(by show 0<1000;decide),?_⟩;refine WY x t.cT dx _ ⟨rfl,aC,T.bT.cl,T.bT.no _ VW,(by show 1<1000;decide),λfd nf=>?_⟩;have nfx:fd≠x:=λz=>by
   rw[z,aC]at nf;cases nf
  rw[bt nfx,bt nfx]at nf;refine WY x t.cT dx _ ⟨rfl,(by rw[bt (bh nfx)];exact aC),T.bT.cl,T.bT.no _ VW,(by show 2<1000;decide),λkd nk'=>?_⟩;have nkx:kd≠x:=λz=>by
   rw[z,aC]at nk';cases nk'
  rw[bt nkx]at nk';have nkf:kd≠fd:=λz=>by
   rw[z,aC]at nk';cases nk'
  rw[bt nkf,bt nkx,bt nkx]at nk';refine WY x t.cT dx _ ⟨rfl,(by rw[bt (bh nkx)];exact aC),T.bT.cl,T.bT.no _ VW,(by show 3<1000;decide),?_⟩;have nsf:sd≠fd:=aq hs nf;have nsk:sd≠kd:=aq hs nk';refine q fd kd _ nf nk' ⟨⟨dx,aC⟩,?_,?_,?_,bh nsf,bh nsk,nkf⟩ ?_
  ·rw[bt nsx,bt nsk,bt nsx,bt nsf,bt nsx,bt nsx];exact hs
  ·rw[bt nfx,bt (bh nkf),bt nfx,aC];rfl
  ·rw[bt nkx,aC];rfl
  ·intro b o e nb;rw[bt nb,bt (aq e nk'),bt nb,bt (aq e nf),bt nb,bt nb];exact e
end
def Qk(CT:Addr):Sp:=λvs H Q _=>∃(x b dx wl:Addr)(L:SA)(us:List Var)(m:Node)(v:Var)(ws:List Nat)(a c:Nat),vs=[.ref x,.ref b,.ref wl]/\H x=some (.ins CT dx (Qj L us))/\H b=some (.tup (qJ m))/\A2 H L.cl us/\H wl=some (.lst (bx ws))/\wX us/\us[m.var]?=some v/\ws[m.lo]?=some a/\ws[m.hi]?=some c/\
 Q (.int ((((v.chance.den-v.chance.num.toNat)*a+v.chance.num.toNat*c)/v.chance.den:Nat):Int)) H
theorem wX.num{us:List Var}(h:wX us){v:Var}(hv:v∈us):∃k:Nat,v.chance.num=(k:Int)/\k<=v.chance.den/\0<v.chance.den/\v.chance.den<=1000000000:=by
 obtain⟨q1,q2,q3⟩:=h.ok.ok v hv;refine⟨v.chance.num.toNat,VX,VX,?_,h.den v hv⟩;rw[q1];exact gu (iA _)
structure xD(n:Nat)(s:c4)(m:Node):Prop where
 v:m.var<n
 l:m.lo<s.length+2
 h:m.hi<s.length+2
 ne:m.lo≠m.hi
 rl:m.var<root n s m.lo
 rh:m.var<root n s m.hi
 no:m∉s
theorem xD.wf{n:Nat}{s:c4}{m:Node}(p:xD n s m)(w:WF n s):WF n (s++[m]):=w.snoc p.v p.l p.h p.ne p.rl p.rh p.no
theorem FZ{α:Type}{l:List α}{x y:α}{i:Nat}(h:(l++[x])[i]?=some y):(i<l.length/\l[i]?=some y)\/(i=l.length/\y=x):=by
 by_cases hi:i<l.length
 ·rw[bO hi]at h;exact .inl ⟨hi,h⟩
 ·have e:i=l.length:=by
   have:=(List.getElem?_eq_some_iff.mp h).1;rw[aE]at this;simp at this;lia
  subst e;rw[bA (aH _),eO]at h;cases h;exact .inr ⟨rfl,rfl⟩
theorem xC.put{n:Nat}{s:c4}{tbs:List Nat}{m:Node}(h:xC n s tbs)(w:WF n s)(hn:n<=12)(p:xD n s m){vt a b:Nat}(hv:tm n m.var vt)(ha:tbs[m.hi]?=some a)(hb:tbs[m.lo]?=some b):
 xC n (s++[m]) (tbs++[(vt&&&a)|||((vc n^^^vt)&&&b)]):=by
 refine⟨by rw[aE,aE,h.len];rfl,λd tb hd=>?_⟩;rcases FZ hd with⟨h1,h2⟩|⟨h1,h2⟩
 ·exact(h.ok d tb h2).congr λas _=>(qM w [m] (by rw[<-h.len];exact h1) as).symm
 ·subst h1 h2;rw[h.len];refine((hv.tab p.v).FK (h.ok _ _ ha) (h.ok _ _ hb)).congr λas ha'=>?_;rw[jn (p.wf w) hn (nv s m),qM w _ p.h,qM w _ p.l];cases as[m.var]? with
  |none=>rfl
  |some c=>cases c<;>rfl
theorem nF.put{us:List Var}{s:c4}{ws:List Nat}{m:Node}{v:Var}{a c:Nat}(h:nF us s ws)(w:WF us.length s)(hB:wX us)(p:xD us.length s m)(hv:us[m.var]?=some v)(ha:ws[m.lo]?=some a)(hc:ws[m.hi]?=some c):
 nF us (s++[m]) (ws++[((v.chance.den-v.chance.num.toNat)*a+v.chance.num.toNat*c)/v.chance.den]):=by
 refine⟨by rw[aE,aE,h.len];rfl,λd x hd=>?_⟩;rcases FZ hd with⟨h1,h2⟩|⟨h1,h2⟩
 ·exact(h.ok d x h2).ext w [m] (by rw[<-h.len];exact h1)
 ·subst h1 h2;rw[h.len];exact Kr hB.ok (p.wf w) hB.le (nv s m) hv ((h.ok _ _ ha).ext w [m] p.l) ((h.ok _ _ hc).ext w [m] p.h)
def LD(t:Ad):Sp:=λvs H Q _=>∃(x b:Addr)(L:SA)(us:List Var)(s:c4)(D:SL)(m:Node),vs=[.ref x,.ref b]/\H b=some (.tup (qJ m))/\fZ t H x L us s D/\xD us.length s m/\s.length<20000/\
 ∀(D':SL)(H':Hp),fZ t H' x L us (s++[m]) D'->gc L.mu H H'->Q .gb H'
theorem nF.Vk{n:Nat}{s:c4}{ys:List Nat}{m:Node}{a c:Nat}(h:nF (half n) s ys)(w:WF n s)(hn:n<=12)(p:xD n s m)(ha:ys[m.lo]?=some a)(hc:ys[m.hi]?=some c):nF (half n) (s++[m]) (ys++[(a+c)/2]):=by
 have hl:=Cy n;have hB:wX (half n):=⟨Kw n,by rw[hl];exact hn,λv hv=>by rw[List.eq_of_mem_replicate hv];decide⟩;have:=h.put (m:=m) (v:=⟨[],⟨1,2⟩⟩) (a:=a) (c:=c) (by rw[hl];exact w) hB (by rw[hl];exact p) (Kv p.v) ha hc;have e:((2-(1:Int).toNat)*a+(1:Int).toNat*c)/2=(a+c)/2:=by
  rw[show(1:Int).toNat=1 from rfl,fY,fY]
 rw[<-e];exact this
section
include T
theorem jY:dQ P w K mg base 1 t.ja ["self","node","weights"] (Qk t.a6):=by
 refine T.kR.ok gJ (λvs H Q E h=>?_) (λcdv A outer s H vs Q E hr h=>?_)
 ·revert h;refine W7 λx b dx wl=>W7 λL us m v=>Xc λws a c=>W9 λe0_ _=>?_;subst e0_;rfl
 ·revert h;refine W7 λx b dx wl=>W7 λL us m v=>Xc λws a c=>Xb λe0_ ex hb hC hW=>Xe λhB hv ha hc q=>?_;subst e0_;revert hC;refine Xa λps=>W8 λec hpl hpa=>?_;obtain⟨p,hp⟩:∃p,ps[m.var]?=some p:=⟨_,af (by rw[hpl];exact(List.getElem?_eq_some_iff.mp hv).1)⟩;have ep:=hpa m.var p v hp hv;refine Xa (λk=>Xd λek hk hd0 hd9=>?_) (hB.num (bE hv));rw[ek]at ep;have i0:Dr (qJ m) 0=some (.int m.var):=rfl;have i1:Dr (qJ m) 1=some (.int m.lo):=rfl;have i2:Dr (qJ m) 2=some (.int m.hi):=rfl;refine⟨_,(ag (a9 (i:=3) gJ.nd rfl (Or.inl rfl) (bp (Wr K) (Wp K (Wo 0) rfl) (bp (Ww K) (Wo 1) aK (λ_ _=>rfl)) (λ_ _=>rfl))) (ag (a9 (i:=4) gJ.nd rfl (Or.inl rfl) (bI fH.j (bI tU (bI fO.j (bp (Ww K) (Wo 3) aK (λ_ _=>rfl)) (bp (Ww K) (Wo 3) aK (λ_ _=>rfl))) (bp (Wr K) (Wo 2) (bp (Ww K) (Wo 1) aK (λ_ _=>rfl)) (λ_ _=>rfl))) (bI tU (bp (Ww K) (Wo 3) aK (λ_ _=>rfl)) (bp (Wr K) (Wo 2) (bp (Ww K) (Wo 1) aK (λ_ _=>rfl)) (λ_ _=>rfl))))) (az (aX (bI yK (Wo 4) (bp (Ww K) (Wo 3) aK (λ_ _=>rfl))))))),?_⟩;refine⟨_,Wq ex T.aw.cl (T.aw.no _ VW) rfl,_,Wt (iK.of hb) i0,.ref p,Wt (cN.of ec) (cx (by rw[aR,hp];rfl)),?_⟩;have k64: -(2^64)<(v.chance.den:Int)-(k:Int)/\(v.chance.den:Int)-(k:Int)<2^64:=VX;have k65: -(2^64)<(k:Int)/\(k:Int)<2^64:=VX;refine⟨.int v.chance.den,Wt (iK.of ep) rfl,.int k,Wt (iK.of ep) rfl,_,Wt (iK.of hb) i1,_,Wt (cN.of hW) (cx (dA ha)),_,_,rfl,rfl,.inl k64,.int k,Wt (iK.of ep) rfl,_,Wt (iK.of hb) i2,_,Wt (cN.of hW) (cx (dA hc)),_,_,rfl,rfl,.inl k65,?_⟩;refine⟨.int v.chance.den,Wt (iK.of ep) rfl,_,_,rfl,rfl,⟨VX,?_⟩,?_⟩
  ·rw[ji];exact log2_lt VW (cK hd9 (aZ (show 1000000000<2^30 by decide) (cZ VW VW)))
  ·have e:(((v.chance.den:Int)-(k:Int))*(a:Int)+(k:Int)*(c:Int))/(v.chance.den:Int)=((((v.chance.den-v.chance.num.toNat)*a+v.chance.num.toNat*c)/v.chance.den:Nat):Int):=by
    rw[ek,bc];have e1:(v.chance.den:Int)-(k:Int)=((v.chance.den-k:Nat):Int):=VX;rw[e1];simp
   show Q (.int ((((v.chance.den:Int)-(k:Int))*(a:Int)+(k:Int)*(c:Int))/(v.chance.den:Int))) H;rw[e];exact q
theorem y3:dQ P w K mg base 3 t.jG ["self","node"] (LD t):=by
 refine T.qv.ok oo (λvs H Q E h=>?_) (λcdv A outer s H vs Q E hr h=>?_)
 ·obtain⟨x,b,L,us,s0,D,m,rfl,_⟩:=h;rfl
 ·obtain⟨x,b,L,us,s0,D,m,rfl,hb,hX,hp,hz,q⟩:=h;have hu:(tY (Ar P w) P w K mg base ["self","node","asked"] "Store.put_node" (aI iq) t.jG cdv A outer s H E).A.units+1<cLine:=by
   have:=hr.units;show(A.deeper _).units+1<cLine;lia
  obtain⟨dx,ex⟩:=hX.ex;obtain⟨dxs,es⟩:=hX.vx;obtain⟨vts,hV⟩:=hX.vt;obtain⟨ps,e0,hpl,hpa⟩:=hX.N5;have i0:Dr (qJ m) 0=some (.int m.var):=rfl;have i1:Dr (qJ m) 1=some (.int m.lo):=rfl;have i2:Dr (qJ m) 2=some (.int m.hi):=rfl;obtain⟨vt,hvt⟩:∃vt,vts[m.var]?=some vt:=⟨_,af (by rw[hV.len];exact hp.v)⟩;obtain⟨v,hv⟩:∃v,us[m.var]?=some v:=⟨_,af hp.v⟩;obtain⟨th,hth⟩:∃a,D.tb[m.hi]?=some a:=⟨_,af (by rw[hX.ta.len];exact hp.h)⟩;obtain⟨tlo,htl⟩:∃a,D.tb[m.lo]?=some a:=⟨_,af (by rw[hX.ta.len];exact hp.l)⟩;obtain⟨wh,hwh⟩:∃a,D.ws[m.hi]?=some a:=⟨_,af (by rw[hX.wa.len];exact hp.h)⟩;obtain⟨wlo,hwl⟩:∃a,D.ws[m.lo]?=some a:=⟨_,af (by rw[hX.wa.len];exact hp.l)⟩;obtain⟨yh,hyh⟩:∃a,D.ys[m.hi]?=some a:=⟨_,af (by rw[hX.ya.len];exact hp.h)⟩;obtain⟨ylo,hyl⟩:∃a,D.ys[m.lo]?=some a:=⟨_,af (by rw[hX.ya.len];exact hp.l)⟩;have hn:=hX.ne;simp at hn;obtain⟨⟨n1,n2,n3,n4,n5⟩,⟨n6,n7,n8,n9⟩,⟨n10,n11,n12⟩,⟨n13,n14⟩,n15⟩:=hn;refine⟨_,(ag (a9 (i:=2) oo.nd rfl (Or.inl rfl) (bp (Wr K) (Wp K (Wp K (Wo 0) rfl) rfl) (bp (Ww K) (Wo 1) aK (λ_ _=>rfl)) (λ_ _=>rfl))) (ag (Bk hu (Wp K (Wo 0) rfl) (Wo 1) (b6 cD rfl T.gP bf (aa (Wp K (Wo 0) rfl) ai)) rfl) (ag (bw (jj bj bL bM dY (Wp K (Wo 0) rfl) (aa (Wo 1) ai))) (ag (bw (jj bj bL bM dY (Wp K (Wo 0) rfl) (aa (bR (iV T) T.bg.cl T.hZ (hr.mono VW) bF (Wp K (Wo 0) rfl) (aa (Wo 2) (aa (bp (Wr K) (Wp K (Wo 0) rfl) (bp (Ww K) (Wo 1) aK (λ_ _=>rfl)) (λ_ _=>rfl)) (aa (bp (Wr K) (Wp K (Wo 0) rfl) (bp (Ww K) (Wo 1) aK (λ_ _=>rfl)) (λ_ _=>rfl)) ai)))) ai))) (ag (bw (jj bj bL bM dY (Wp K (Wo 0) rfl) (aa (bR (jY T) T.aw.cl T.ia (hr.mono VW) bF (Wo 0) (aa (Wo 1) (aa (Wp K (Wo 0) rfl) ai))) ai))) (az (bw (jj bj bL bM dY (Wp K (Wo 0) rfl) (aa (bI yK (bI fH.j (bp (Wr K) (Wp K (Wo 0) rfl) (bp (Ww K) (Wo 1) aK (λ_ _=>rfl)) (λ_ _=>rfl)) (bp (Wr K) (Wp K (Wo 0) rfl) (bp (Ww K) (Wo 1) aK (λ_ _=>rfl)) (λ_ _=>rfl))) aK) ai))))))))),?_⟩;refine⟨_,Wq ex T.aw.cl (T.aw.no _ VW) rfl,_,Wq es T.bg.cl (T.bg.no _ VW) rfl,_,Wt (iK.of hb) i0,.int (vt:Nat),Wt (cN.of hV.at_) (cx (by rw[aR,hvt];rfl)),?_⟩;have hb':H b=some (.tup ((nk m).map kV)):=hb;have en:fv (kvsOf 0 s0) (nk m)=none:=by
   rw[kq];have:(s0.findIdx? λy=>y==m)=none:=List.findIdx?_eq_none_iff.mpr λy hy=>by
    simp;rintro rfl;exact hp.no hy
   rw[this];rfl
  refine⟨_,Wq ex T.aw.cl (T.aw.no _ VW) rfl,_,_,rfl,.inl ⟨_,cN.of hX.xK,rfl⟩,_,Wq ex T.aw.cl (T.aw.no _ VW) rfl,L.nd,_,rfl,Dt.t hX.Jt hb' ?_,?_⟩
  ·rw[fC,aM];lia
  have e1:putK (kvsOf 0 s0) (nk m) (.int ((bx D.tb).length:Nat))=kvsOf 0 (s0++[m]):=by
   rw[xV _ en,xA,cA,hX.ta.len,pN]
  rw[e1];have nn:∀{c:Addr}{xs:List V},H c=some (.lst xs)->c≠L.nd:=λe=>cn e hX.Jt λz=>nomatch z;have nb:∀{c:Addr}{xs:List V},H c=some (.lst xs)->b≠c:=λe=>cn hb e λz=>nomatch z;have bnd:b≠L.nd:=cn hb hX.Jt λz=>nomatch z;have k1:gc L.mu H (upd H L.nd (.dT (kvsOf 0 (s0++[m])))):=λc o e nc=>ak e (by simp[SA.mu]at nc;exact nc.2.1);have no1:=ak (o:= .dT (kvsOf 0 (s0++[m]))) e0 (nn e0);have tl1:=ak (o:= .dT (kvsOf 0 (s0++[m]))) hX.xK (nn hX.xK);have wl1:=ak (o:= .dT (kvsOf 0 (s0++[m]))) hX.HQ (nn hX.HQ);have yl1:=ak (o:= .dT (kvsOf 0 (s0++[m]))) hX.KD (nn hX.KD);have b1:=ak (o:= .dT (kvsOf 0 (s0++[m]))) hb bnd;have nd1:upd H L.nd (.dT (kvsOf 0 (s0++[m]))) L.nd=some (.dT (kvsOf 0 (s0++[m]))):=aC;revert k1 no1 tl1 wl1 yl1 nd1 b1;generalize upd H L.nd (.dT (kvsOf 0 (s0++[m])))=H1;intro k1 no1 tl1 wl1 yl1 b1 nd1;obtain⟨⟨dx1,ex1⟩,_,_,_,_⟩:=hX.keep k1;refine⟨_,Wq ex1 T.aw.cl (T.aw.no _ VW) rfl,.inl ⟨rfl,_,cN.of no1⟩,WZ L.no _ _ ⟨rfl,rfl,no1,?_,?_⟩⟩
  ·rw[ay,hpl,aM];lia
  have ea:ps.map V.ref++[V.ref b]=(ps++[b]).map V.ref:=by rw[cb];rfl
  rw[ea];have k2:gc L.mu H (upd H1 L.no (.lst ((ps++[b]).map V.ref))):=λc o e nc=>ak (k1 c o e nc) (by simp[SA.mu]at nc;exact nc.1);have no2:upd H1 L.no (.lst ((ps++[b]).map V.ref)) L.no=some (.lst ((ps++[b]).map V.ref)):=aC;have tl2:=ak (o:= .lst ((ps++[b]).map V.ref)) tl1 (bh n10);have wl2:=ak (o:= .lst ((ps++[b]).map V.ref)) wl1 (bh n11);have yl2:=ak (o:= .lst ((ps++[b]).map V.ref)) yl1 (bh n12);have nd2:=ak (o:= .lst ((ps++[b]).map V.ref)) nd1 (bh (nn e0));have b2:=ak (o:= .lst ((ps++[b]).map V.ref)) b1 (nb e0);revert k2 no2 tl2 wl2 yl2 nd2 b2;generalize upd H1 L.no (.lst ((ps++[b]).map V.ref))=H2;intro k2 no2 tl2 wl2 yl2 nd2 b2;have hK2:=hX.keep k2;obtain⟨dx2,ex2⟩:=hK2.ex;obtain⟨dxs2,es2⟩:=hK2.vx;refine⟨_,Wq ex2 T.aw.cl (T.aw.no _ VW) rfl,.inl ⟨rfl,_,cN.of tl2⟩,_,Wq ex2 T.aw.cl (T.aw.no _ VW) rfl,Ws es2 rfl,_,Wq ex2 T.aw.cl (T.aw.no _ VW) rfl,_,Wt (iK.of b2) i2,_,Wt (cN.of tl2) (cx (dA hth)),_,Wq ex2 T.aw.cl (T.aw.no _ VW) rfl,_,Wt (iK.of b2) i1,_,Wt (cN.of tl2) (cx (dA htl)),W1 L.sp us.length vt th tlo ⟨rfl,hK2.sc,WZ L.tl _ _ ⟨rfl,rfl,tl2,?_,?_⟩⟩⟩
  ·rw[cA,hX.ta.len,aM];lia
  rw[fJ];have hT2:=hX.ta.put hX.wf hX.vb.le hp (hV.ok _ _ hvt) hth htl;revert hT2;generalize D.tb++[(vt&&&th)|||((vc us.length^^^vt)&&&tlo)]=tbs2;intro hT2;have k3:gc L.mu H (upd H2 L.tl (.lst (bx tbs2))):=λc o e nc=>ak (k2 c o e nc) (by simp[SA.mu]at nc;exact nc.2.2.1);have tl3:upd H2 L.tl (.lst (bx tbs2)) L.tl=some (.lst (bx tbs2)):=aC;have no3:=ak (o:= .lst (bx tbs2)) no2 n10;have wl3:=ak (o:= .lst (bx tbs2)) wl2 (bh n13);have yl3:=ak (o:= .lst (bx tbs2)) yl2 (bh n14);have nd3:=ak (o:= .lst (bx tbs2)) nd2 (bh (nn hX.xK));have b3:=ak (o:= .lst (bx tbs2)) b2 (nb hX.xK);revert k3 tl3 no3 wl3 yl3 nd3 b3;generalize upd H2 L.tl (.lst (bx tbs2))=H3;intro k3 tl3 no3 wl3 yl3 nd3 b3;have hK3:=hX.keep k3;obtain⟨dx3,ex3⟩:=hK3.ex;refine⟨_,Wq ex3 T.aw.cl (T.aw.no _ VW) rfl,.inl ⟨rfl,_,cN.of wl3⟩,Ws ex3 rfl,_,Wq ex3 T.aw.cl (T.aw.no _ VW) rfl,W4 x b dx3 L.wl L us m v D.ws wlo wh ⟨rfl,ex3,b3,hK3.ch,wl3,hX.vb,hv,hwl,hwh,WZ L.wl _ _ ⟨rfl,rfl,wl3,?_,?_⟩⟩⟩
  ·rw[cA,hX.wa.len,aM];lia
  rw[fJ];have hW3:=hX.wa.put hX.wf hX.vb hp hv hwl hwh;revert hW3;generalize D.ws++[((v.chance.den-v.chance.num.toNat)*wlo+v.chance.num.toNat*wh)/v.chance.den]=ws2;intro hW3;have k4:gc L.mu H (upd H3 L.wl (.lst (bx ws2))):=λc o e nc=>ak (k3 c o e nc) (by simp[SA.mu]at nc;exact nc.2.2.2.1);have wl4:upd H3 L.wl (.lst (bx ws2)) L.wl=some (.lst (bx ws2)):=aC;have no4:=ak (o:= .lst (bx ws2)) no3 n11;have tl4:=ak (o:= .lst (bx ws2)) tl3 n13;have yl4:=ak (o:= .lst (bx ws2)) yl3 (bh n15);have nd4:=ak (o:= .lst (bx ws2)) nd3 (bh (nn hX.HQ));have b4:=ak (o:= .lst (bx ws2)) b3 (nb hX.HQ);revert k4 wl4 no4 tl4 yl4 nd4 b4;generalize upd H3 L.wl (.lst (bx ws2))=H4;intro k4 wl4 no4 tl4 yl4 nd4 b4;obtain⟨dx4,ex4⟩:=(hX.keep k4).ex;refine⟨_,Wq ex4 T.aw.cl (T.aw.no _ VW) rfl,.inl ⟨rfl,_,cN.of yl4⟩,_,Wq ex4 T.aw.cl (T.aw.no _ VW) rfl,_,Wt (iK.of b4) i1,_,Wt (cN.of yl4) (cx (dA hyl)),_,Wq ex4 T.aw.cl (T.aw.no _ VW) rfl,_,Wt (iK.of b4) i2,_,Wt (cN.of yl4) (cx (dA hyh)),_,_,rfl,rfl,⟨VW,VW⟩,WZ L.yl _ _ ⟨rfl,rfl,yl4,?_,?_⟩⟩
  ·rw[cA,hX.ya.len,aM];lia
  have ey:V.int (((ylo:Int)+(yh:Int))/2)=V.int (((ylo+yh)/2:Nat):Int):=by congr 1
  show Q V.gb (upd H4 L.yl (.lst (bx D.ys++[V.int (((ylo:Int)+(yh:Int))/2)])));rw[ey,fJ];have hY3:=hX.ya.Vk hX.wf hX.vb.le hp hyl hyh;have k5:gc L.mu H (upd H4 L.yl (.lst (bx (D.ys++[(ylo+yh)/2])))):=λc o e nc=>ak (k4 c o e nc) (by simp[SA.mu]at nc;exact nc.2.2.2.2);have hK5:=hX.keep k5;refine q ⟨tbs2,ws2,D.ys++[(ylo+yh)/2]⟩ _ ⟨hK5.ex,hK5.ch,hK5.vx,hK5.vt,⟨ps++[b],ak no4 n12,by rw[aE,aE,hpl];rfl,λi p m' h1 h2=>?_⟩,ak nd4 (bh (nn hX.KD)),ak tl4 n14,ak wl4 n15,aC,hX.ne,hT2,hW3,hY3,hp.wf hX.wf,hX.vb⟩ k5;rcases FZ h1 with⟨a1,a2⟩|⟨a1,a2⟩
  ·rw[bO VX]at h2;exact hX.tE k5 (hpa i p m' a2 h2) (λ_ z=>nomatch z) (λ_ z=>nomatch z)
  ·subst a1 a2;rw[hpl,bA (aH _),eO]at h2;cases h2;exact ak b4 (nb hX.KD)
end
theorem fZ.of{t:Ad}{H H':Hp}{x fd:Addr}{L:SA}{us:List Var}{s:c4}{D:SL}(h:fZ t H x L us s D)(k:Kp fd H H')(n1:L.nd≠fd)(ni:∀C dx fs,H fd≠some (.ins C dx fs))(nl:∀xs,H fd≠some (.lst xs))(nt:∀xs,H fd≠some (.tup xs)):fZ t H' x L us s D:=by
 obtain⟨dx,ex⟩:=h.ex;obtain⟨ps,ec,hpl,hpa⟩:=h.ch;obtain⟨dxs,es⟩:=h.vx;obtain⟨vts,hV⟩:=h.vt;obtain⟨qs,e0,hql,hqa⟩:=h.N5;have ne:∀b o,H b=some o->H fd≠some o->H' b=some o:=λb o e n=>k b o e λz=>n (z▸e);exact⟨⟨dx,ne _ _ ex (ni _ _ _)⟩,⟨ps,ne _ _ ec (nl _),hpl,λi p v h1 h2=>ne _ _ (hpa i p v h1 h2) (nt _)⟩,⟨dxs,ne _ _ es (ni _ _ _)⟩,⟨vts,ne _ _ hV.at_ (nl _),hV.len,hV.ok⟩,⟨qs,ne _ _ e0 (nl _),hql,λi p m h1 h2=>ne _ _ (hqa i p m h1 h2) (nt _)⟩,k _ _ h.Jt n1,ne _ _ h.xK (nl _),ne _ _ h.HQ (nl _),ne _ _ h.KD (nl _),h.ne,h.ta,h.wa,h.ya,h.wf,h.vb⟩
theorem fZ.same{t:Ad}{H H':Hp}{x:Addr}{L:SA}{us:List Var}{s:c4}{D:SL}(h:fZ t H x L us s D)(k:bq H H'):fZ t H' x L us s D:=by
 obtain⟨dx,ex⟩:=h.ex;obtain⟨ps,ec,hpl,hpa⟩:=h.ch;obtain⟨dxs,es⟩:=h.vx;obtain⟨vts,hV⟩:=h.vt;obtain⟨qs,e0,hql,hqa⟩:=h.N5;exact⟨⟨dx,k _ _ ex⟩,⟨ps,k _ _ ec,hpl,λi p v h1 h2=>k _ _ (hpa i p v h1 h2)⟩,⟨dxs,k _ _ es⟩,⟨vts,k _ _ hV.at_,hV.len,hV.ok⟩,⟨qs,k _ _ e0,hql,λi p m h1 h2=>k _ _ (hqa i p m h1 h2)⟩,k _ _ h.Jt,k _ _ h.xK,k _ _ h.HQ,k _ _ h.KD,h.ne,h.ta,h.wa,h.ya,h.wf,h.vb⟩
theorem CP:∀{o:Nat}{s:c4}{i:Nat}{k:List Key}{v:V},(kvsOf o s)[i]?=some (k,v)->∃m,s[i]?=some m/\k=nk m
 |o,[],i,k,v,h=>nomatch h
 |o,m::r,0,k,v,h=>by
  cases h;exact⟨m,rfl,rfl⟩
 |o,m::r,i+1,k,v,h=>CP (o:=o+1) (s:=r) h
theorem Hr{n:Nat}{s nw:c4}(w:WF n (s++nw)){i:Nat}{m:Node}(h:nw[i]?=some m):xD n (s++nw.take i) m:=by
 have hi:=(List.getElem?_eq_some_iff.mp h).1;have e:s++nw=(s++nw.take i)++nw.drop i:=by rw[bK,jO]
 have hl:(s++nw.take i).length=s.length+i:=by
  rw[aE,cz];lia
 have hm:(s++nw)[s.length+i]?=some m:=by
  rw[bA VX,Nat.add_sub_cancel_left];exact h
 refine Xb (λa b c d r1 r2=>?_) (w.nd _ m hm);rw[e]at r1 r2;rw[lb (by rw[hl];lia)]at r1 r2;refine⟨a,by rw[hl];lia,by rw[hl];lia,d,r1,r2,λz=>?_⟩;have un:=w.un;rw[e,zi]at un;have hd:m∈nw.drop i:=by
  rw[eY hi];have:nw[i]=m:=by
   rw[af hi]at h;exact bX h
  rw[this];exact aV
 exact un.2.2 m z m hd rfl
def Sq(t:Ad):Sp:=λvs H Q E=>∃(x:Addr)(L:SA)(us:List Var)(s:c4)(D:SL)(tb:Nat)(f:Fn),vs=[.ref x,.int tb]/\fZ t H x L us s D/\s.length<=3000/\cu us.length f tb/\
 if 3000<(build f us.length [] s).1.length then ez t.kh H (yY (-3) []) E else∀(D':SL)(H':Hp),fZ t H' x L us (build f us.length [] s).1 D'->gc L.mu H H'->Q (.int (build f us.length [] s).2) H'
section
include T
theorem dB:dQ P w K mg base 17 t.xt ["self","table"] (Sq t):=by
 refine T.yC.ok kG (λvs H Q E h=>?_) (λcdv A outer s H vs Q E hr h=>?_)
 ·obtain⟨x,L,us,s0,D,tb,f,rfl,_⟩:=h;rfl
 ·obtain⟨x,L,us,s0,D,tb,f,rfl,hX,hz,hf,q⟩:=h;have hn:=hX.vb.le;obtain⟨dx,ex⟩:=hX.ex;obtain⟨dxs,es⟩:=hX.vx;have hb:=vf hn f us.length [] s0 hX.wf (by simp);refine⟨_,(ag (a9 (i:=2) kG.nd rfl (Or.inl rfl) (oj (pI T) T.bT.lM T.bT.ma (hr.mono VW) bF (aa (Wp K (Wo 0) rfl) (aa (Wp K (Wp K (Wo 0) rfl) rfl) ai)))) (ag (a9 (i:=3) kG.nd rfl (Or.inl rfl) (bR (iz T us.length) T.bT.cl T.fA (hr.mono VX) bF (Wo 2) (aa aK (aa (Wo 1) ai)))) (ag (cj (Wv tW.j (bI fH.j (b6 pY rfl T.gP bf (aa (Wp K (Wo 0) rfl) ai)) (b6 pY rfl T.gP bf (aa (Wp K (Wo 2) rfl) ai))) (cv T.Az) (bu _)) (az (ly (y0 T) T.fE.lM T.fE.ma (hr.mono VW) aS)) bo) (ag (d5 (J0 (mr bN rfl (J1 (Wp K (Wo 2) rfl)) (fu (i:=4) kG.nd rfl (Or.inl rfl)) (az (bw (bR (y3 T) T.aw.cl T.qw (hr.mono VW) bF (Wo 0) (aa (Wo 4) ai))))))) (az (aX (Wo 3))))))),?_⟩;refine⟨_,Wq ex T.aw.cl (T.aw.no _ VW) rfl,_,Wq ex T.aw.cl (T.aw.no _ VW) rfl,_,Wq es T.bg.cl (T.bg.no _ VW) rfl,λdr ddx ndr nddx nne=>?_⟩;have s1:bq H (upd (upd H ddx (.own dr)) dr (.ins t.cT ddx [])):=bq.made ndr nddx λb o e _=>e;refine W1 dr ddx L.nd us.length s0 ⟨rfl,aC,s1 _ _ hX.Jt,λfd kd H2 nfd nkd hD2 kp2=>?_⟩;have s2:bq H H2:=bq.made ndr nddx kp2;obtain⟨ddx2,ed2⟩:=hD2.ex;have p12:2^us.length<=4096:=qH hn;refine⟨rfl,Ws ed2 rfl,dr,L.nd,fd,kd,us.length,0,tb,s0,[],[],f,[],rfl,VX,hn,rfl,hf,hD2,(λa p d h=>nomatch h),by simp;lia,by simp;lia,λd nw kn H3 hbd hD3 hK3 g1 g2 g3 k3=>?_⟩;rw[bD]at hbd;rw[hbd]at q hb;dsimp only at q hb;have fnone:∀b,upd (upd H ddx (.own dr)) dr (.ins t.cT ddx []) b=none->H b=none:=λb hb=>by
   cases e:H b with
   |none=>rfl
   |some o=>
    rw[s1 _ _ e]at hb;cases hb
  have nfd:=fnone fd nfd;have nkd:=fnone kd nkd;have s3:bq H H3:=k3.same s2 λb hb=>by
   simp at hb;rcases hb with rfl|rfl
   ·exact nfd
   ·exact nkd
  have hX3:=hX.same s3;obtain⟨dx3,ex3⟩:=hX3.ex;obtain⟨ddx3,ed3⟩:=hD3.ex;refine⟨_,Wq ex3 T.aw.cl (T.aw.no _ VW) rfl,L.nd,_,rfl,hX3.Jt,_,Wq ed3 T.bT.cl (T.bT.no _ VW) rfl,fd,_,rfl,hD3.fr,?_⟩;rw[fC,fC];rw[aE]at q;refine c6 (λh1=>?_) λh1=>?_
  ·have h1':3000<s0.length+nw.length:=by
    have z:=aD h1;lia
   rw[ao h1']at q;exact cM (us:=[]) rfl (by show 0<=1000;decide) (ez.same q s3)
  ·have h1':¬3000<s0.length+nw.length:=λz=>h1 (au VX);rw[ah h1']at q;refine⟨λσ H'=>∃(D':SL)(v4:Option V),σ=[some (.ref x),some (.int tb),some (.ref dr),some (.int d),v4]/\fZ t H' x L us (s0++nw) D'/\gc L.mu H H',⟨fd,_,hD3.fr,trivial,λod=>?_⟩,?_⟩
   ·have kf:Kp fd H3 (upd H3 fd (.j0 od (.dT (kvsOf s0.length nw)))):=Kp.upd;have hf4:upd H3 fd (.j0 od (.dT (kvsOf s0.length nw))) fd=some (.j0 od (.dT (kvsOf s0.length nw))):=aC;have ed4:upd H3 fd (.j0 od (.dT (kvsOf s0.length nw))) dr=some (.ins t.cT ddx3 (Sl L.nd us.length fd kd)):=kf _ _ ed3 (cn ed3 hD3.fr λz=>nomatch z);have hX4:=hX3.of kf (bh hD3.n1) (λ_ _ _ z=>by rw[hD3.fr]at z;cases z) (λ_ z=>by rw[hD3.fr]at z;cases z) (λ_ z=>by rw[hD3.fr]at z;cases z);have k4:gc L.mu H (upd H3 fd (.j0 od (.dT (kvsOf s0.length nw)))):=λb o e _=>kf _ _ (s3 _ _ e) (aq e nfd);revert kf hf4 ed4 hX4 k4;generalize upd H3 fd (.j0 od (.dT (kvsOf s0.length nw)))=H4;intro kf hf4 ed4 hX4 k4;refine⟨_,Wq ed4 T.bT.cl (T.bT.no _ VW) rfl,fd,od,rfl,.inr ⟨_,hf4,λi m σ H'=>m=nw.length-i/\i<=nw.length/\∃(D':SL)(v4:Option V),σ=[some (.ref x),some (.int tb),some (.ref dr),some (.int d),v4]/\fZ t H' x L us (s0++nw.take i) D'/\gc L.mu H H'/\H' fd=some (.j0 od (.dT (kvsOf s0.length nw))),⟨_,rfl,br _,D,none,rfl,by rw[List.take_zero,bD];exact hX4,k4,hf4⟩,?_⟩⟩;rintro i m σ H' ⟨rfl,hi,D',v4,rfl,hX',k',hf'⟩;by_cases hin:i=nw.length
    ·subst hin;rw[cO]at hX';refine .inl ⟨⟨hf',by rw[fC];exact aH _⟩,hf',D',v4,rfl,?_,?_⟩
     ·exact hX'.of Kp.upd (bh hD3.n1) (λ_ _ _ z=>by rw[hf']at z;cases z) (λ_ z=>by rw[hf']at z;cases z) (λ_ z=>by rw[hf']at z;cases z)
     ·exact λb o e nb=>ak (k' b o e nb) (aq e nfd)
    ·refine .inr ⟨⟨hf',by rw[fC];lia⟩,λσ' H''=>∃(D':SL)(v4:Option V),σ'=[some (.ref x),some (.int tb),some (.ref dr),some (.int d),v4]/\fZ t H'' x L us (s0++nw.take (i+1)) D'/\gc L.mu H H''/\H'' fd=some (.j0 od (.dT (kvsOf s0.length nw))),?_,?_⟩
     ·rintro σ' H'' ⟨D',v4,z⟩;exact⟨nw.length-(i+1),VX,rfl,VX,D',v4,z⟩
     ·rintro y H'' ⟨rfl,k,v,qa,hkv,rfl,hqa⟩;obtain⟨m,hm,rfl⟩:=CP hkv;rw[Ji]at hqa;obtain⟨dx',ex'⟩:=hX'.ex;have et:nw.take (i+1)=nw.take i++[m]:=by
       obtain⟨hlt,hd'⟩:=List.getElem?_eq_some_iff.mp hm;rw[bB hlt,hd']
      refine⟨Ws ex' rfl,WY x qa L us ⟨s0++nw.take i,D',m,rfl,hqa,hX',Hr hb.1 hm,?_,λD'' H3' hX'' k''=>⟨D'',some (.ref qa),rfl,?_,k'.trans k'',?_⟩⟩⟩
      ·rw[aE,cz];lia
      ·rw[et,<-bK];exact hX''
      ·refine k'' _ _ hf' ?_;obtain⟨qs,e0,_⟩:=hX'.N5;simp[SA.mu];exact⟨cn hf' e0 (λz=>nomatch z),hD3.n1,cn hf' hX'.xK (λz=>nomatch z),cn hf' hX'.HQ (λz=>nomatch z),cn hf' hX'.KD (λz=>nomatch z)⟩
   ·rintro σ H' ⟨D',v4,rfl,hX',k'⟩;exact q D' H' hX' k'
end
theorem A2.kp{CT:Addr}{H H':Hp}{x cl dx:Addr}{us:List Var}{fs:List (Str×V)}(h:A2 H cl us)(hx:H x=some (.ins CT dx fs))(k:Kp x H H'):A2 H' cl us:=by
 obtain⟨ps,ec,hpl,hpa⟩:=h;exact⟨ps,k _ _ ec (cn ec hx λz=>nomatch z),hpl,λi p v h1 h2=>k _ _ (hpa i p v h1 h2) (cn (hpa i p v h1 h2) hx λz=>nomatch z)⟩
theorem A2.same{H H':Hp}{cl:Addr}{us:List Var}(h:A2 H cl us)(k:bq H H'):A2 H' cl us:=by
 obtain⟨ps,ec,hpl,hpa⟩:=h;exact⟨ps,k _ _ ec,hpl,λi p v h1 h2=>k _ _ (hpa i p v h1 h2)⟩
theorem fV.Vl{H:Hp}{nl cl:Addr}{us:List Var}(h:fV H nl cl us):A2 H cl us:=h.ch
theorem LF(n:Nat):xC n [] [0,vc n]:=by
 refine⟨rfl,λd tb h=>?_⟩
 match d,h with
 |0,h=>
  cases h;exact(Cp n).congr λas _=>(qL (s:=[]) (d:=0) VW as).symm
 |1,h=>
  cases h;exact(xy n).congr λas _=>(qL (s:=[]) (d:=1) VW as).symm
 |d+2,h=>cases h
theorem Hs{us:List Var}(hu:iF us):nF us [] [0,pre us us.length]:=by
 refine⟨rfl,λd w h=>?_⟩
 match d,h with
 |0,h=>
  cases h;exact Kq []
 |1,h=>
  cases h;exact NW hu []
 |d+2,h=>cases h
def Ht(t:Ad):Sp:=λvs H Q _=>∃(x dx cl:Addr)(us:List Var),vs=[.ref x,.ref cl]/\H x=some (.ins t.a6 dx [])/\A2 H cl us/\wX us/\
 ∀(L:SA)(D:SL)(H':Hp),L.cl=cl->(∀b∈[L.vl,L.no,L.nd,L.tl,L.wl,L.yl],H b=none)->fZ t H' x L us [] D->Kp x H H'->Q .gb H'
theorem LG{n:Nat}:nF (half n) [] [0,2^n]:=by
 have:=Hs (Kw n);rw[Cy,Cz (aH n)]at this;exact this
theorem y4{H:Hp}{x y C dx:Addr}{f:Str}{fs:List (Str×V)}{o:HO}(ex:H x=some (.ins C dx fs))(ny:H y=none):x≠y/\Kp x H (upd (upd H y o) x (.ins C dx (eG f (.ref y) fs)))/\upd (upd H y o) x (.ins C dx (eG f (.ref y) fs)) x=some (.ins C dx (eG f (.ref y) fs))/\upd (upd H y o) x (.ins C dx (eG f (.ref y) fs)) y=some o:=by
 have n:=aq ex ny;exact⟨n,λb o e nb=>ak (ak e (aq e ny)) nb,aC,ak aC (bh n)⟩
section
include T
theorem DJ:dQ P w K mg base 5 t.xq ["self","chances"] (Ht t):=by
 refine T.yB.ok v8 (λvs H Q E h=>?_) (λcdv A outer s H vs Q E hr h=>?_)
 ·revert h;refine W7 λx dx cl us=>W9 λe0_ _=>?_;subst e0_;rfl
 ·revert h;refine W7 λx dx cl us=>Xe λe0_ hx hC hB q=>?_;subst e0_;refine⟨_,(ag (dz (Wo 0) (Wo 1) rfl) (ag (dz (Wo 0) (oj (DE T) T.bg.lM T.bg.ma (hr.mono VW) bF (aa (b6 cD rfl T.gP bf (aa (Wo 1) ai)) ai)) rfl) (ag (dz (Wo 0) aK rfl) (ag (d5 (mr bN rfl (jt (Wo 1)) (fu (i:=2) v8.nd rfl (Or.inl rfl)) (az (dz (Wo 0) (bI tU (Wp K (Wo 0) rfl) (bp (Ww K) (Wo 2) aK (λ_ _=>rfl))) rfl)))) (ag (dz (Wo 0) (cI ai) rfl) (ag (dz (Wo 0) xW rfl) (ag (dz (Wo 0) (cI (aa aK (aa (Wp K (Wp K (Wo 0) rfl) rfl) ai))) rfl) (ag (dz (Wo 0) (cI (aa aK (aa (Wp K (Wo 0) rfl) ai))) rfl) (az (dz (Wo 0) (cI (aa aK (aa (bI iw aK (Wp K (Wp K (Wo 0) rfl) rfl)) ai))) rfl)))))))))),?_⟩;refine WY x t.a6 dx _ ⟨rfl,hx,T.aw.cl,T.aw.no _ VW,(by show 0<1000;decide),?_⟩;have k1:Kp x H (upd H x (.ins t.a6 dx (eG "chances" (.ref cl) []))):=Kp.upd;have e1:upd H x (.ins t.a6 dx (eG "chances" (.ref cl) [])) x=some (.ins t.a6 dx [("chances",.ref cl)]):=aC;have hC1:=hC.kp hx k1;revert k1 e1 hC1;generalize upd H x (.ins t.a6 dx (eG "chances" (.ref cl) []))=H1;intro k1 e1;refine Xa λps=>W8 λec1 hpl hpa1=>?_;refine⟨_,_,rfl,.inl ⟨_,cN.of ec1,rfl⟩,λsp sdx nsp nsdx nne=>WZ sp sdx us.length ⟨by rw[ay,hpl],aC,hB.le,λvl H2 nvl hS2 hV2 kp2=>?_⟩⟩;have s2:bq H1 H2:=bq.made nsp nsdx kp2;have nsx:sp≠x:=λz=>by
   rw[z,e1]at nsp;cases nsp
  refine⟨rfl,WY x t.a6 dx _ ⟨rfl,s2 _ _ e1,T.aw.cl,T.aw.no _ VW,(by show 1<1000;decide),?_⟩⟩;refine WY x t.a6 dx _ ⟨rfl,aC,T.aw.cl,T.aw.no _ VW,(by show 2<1000;decide),?_⟩;have k3:Kp x H2 (upd (upd H2 x (.ins t.a6 dx (eG "space" (.ref sp) [("chances",.ref cl)]))) x (.ins t.a6 dx (eG "whole" (.int 1) (eG "space" (.ref sp) [("chances",.ref cl)])))):=λb o e nb=>ak (ak e nb) nb;have e3:upd (upd H2 x (.ins t.a6 dx (eG "space" (.ref sp) [("chances",.ref cl)]))) x (.ins t.a6 dx (eG "whole" (.int 1) (eG "space" (.ref sp) [("chances",.ref cl)]))) x=some (.ins t.a6 dx [("chances",.ref cl),("space",.ref sp),("whole",.int (pre us 0:Nat))]):=aC;revert k3 e3;generalize upd (upd H2 x (.ins t.a6 dx (eG "space" (.ref sp) [("chances",.ref cl)]))) x (.ins t.a6 dx (eG "whole" (.int 1) (eG "space" (.ref sp) [("chances",.ref cl)])))=H3;intro k3 e3;have ec3:=k3 _ _ (s2 _ _ ec1) (cn ec1 e1 λz=>nomatch z);have hpa3:∀(i:Nat)(p:Addr)(v:Var),ps[i]?=some p->us[i]?=some v->H3 p=some (.tup [.int v.chance.num,.int v.chance.den]):=λi p v h1 h2=>k3 _ _ (s2 _ _ (hpa1 i p v h1 h2)) (cn (hpa1 i p v h1 h2) e1 λz=>nomatch z);obtain⟨dxs,es2⟩:=hS2;obtain⟨vts,hV2⟩:=hV2;have es3:=k3 _ _ es2 nsx;have hV3:=k3 _ _ hV2.at_ (cn hV2.at_ (s2 _ _ e1) λz=>nomatch z);have nvl1:H1 vl=none:=(bq.made nsp nsdx λb o e _=>e:bq H1 _).no nvl;have nvx:vl≠x:=λz=>by
   rw[z,e1]at nvl1;cases nvl1
  have nvl0:H vl=none:=k1.no nvl1 nvx;have ncv:cl≠vl:=aq ec1 nvl1;have kx3:Kp x H H3:=k1.trans (bq.kp s2 k3);refine⟨λσ H'=>(∃v,σ=[some (.ref x),some (.ref cl),v])/\H' x=some (.ins t.a6 dx [("chances",.ref cl),("space",.ref sp),("whole",.int (pre us us.length:Nat))])/\Kp x H3 H',?_,?_⟩
  ·refine⟨cl,rfl,⟨_,cN.of ec3⟩,λi m σ H'=>m=us.length-i/\i<=us.length/\(∃v,σ=[some (.ref x),some (.ref cl),v])/\H' x=some (.ins t.a6 dx [("chances",.ref cl),("space",.ref sp),("whole",.int (pre us i:Nat))])/\Kp x H3 H',⟨_,rfl,br _,⟨none,rfl⟩,e3,λb o e _=>e⟩,?_⟩;rintro i m σ H' ⟨rfl,hi,⟨v0,rfl⟩,ex',k'⟩;have ec':=k' _ _ ec3 (cn ec3 e3 λz=>nomatch z);by_cases hin:i=us.length
   ·subst hin;refine .inl ⟨⟨_,cN.of ec',by rw[ay,hpl];exact aH _⟩,⟨v0,rfl⟩,ex',k'⟩
   ·obtain⟨p,hp⟩:∃p,ps[i]?=some p:=⟨_,af VX⟩;obtain⟨v,hv⟩:∃v,us[i]?=some v:=⟨_,af VX⟩;have hpi:(ps.map V.ref)[i]?=some (.ref p):=by rw[aR,hp];rfl
    refine .inr ⟨⟨_,_,cN.of ec',hpi⟩,λσ' H''=>(∃v,σ'=[some (.ref x),some (.ref cl),v])/\H'' x=some (.ins t.a6 dx [("chances",.ref cl),("space",.ref sp),("whole",.int (pre us (i+1):Nat))])/\Kp x H3 H'',?_,?_⟩
    ·rintro σ' H'' z;exact⟨us.length-(i+1),VX,rfl,VX,z⟩
    ·rintro y H'' ⟨rfl,hy⟩;have hy':=hy _ (cN.of ec');rw[hpi]at hy';cases hy';have ep':=k' _ _ (hpa3 i p v hp hv) (cn (hpa3 i p v hp hv) e3 λz=>nomatch z);refine Xa (λkk'=>Xd λek hk hd0 hd9=>?_) (hB.num (bE hv));refine⟨_,Wq ex' T.aw.cl (T.aw.no _ VW) rfl,.int v.chance.den,Wt (iK.of ep') rfl,_,_,rfl,rfl,.inr VX,WY x t.a6 dx _ ⟨rfl,ex',T.aw.cl,T.aw.no _ VW,(by show 3<1000;decide),⟨_,rfl⟩,?_,λb o e nb=>ak (k' b o e nb) nb⟩⟩;have ew:((pre us i:Nat):Int)*(v.chance.den:Int)=((pre us (i+1):Nat):Int):=by
      rw[pre,hv];simp
     rw[<-ew];exact aC
  ·rintro σ H4 ⟨⟨v0,rfl⟩,e4,k4⟩;have kx4:Kp x H H4:=kx3.trans k4;refine⟨(by show 0<=sizeLine;lia),λno nno=>?_⟩;refine Xd (λnxo k5 e5 o5=>?_) (y4 (f:="nodes") (o:= .lst []) e4 nno);refine WY x t.a6 dx _ ⟨rfl,(by rw[bt nxo];exact e4),T.aw.cl,T.aw.no _ VW,(by show 3<1000;decide),?_⟩;revert k5 e5 o5;generalize upd (upd H4 no (.lst [])) x _=H5;intro k5 e5 o5 nd nnd;refine Xd (λnxd k6 e6 d6=>?_) (y4 (f:="numbers") (o:= .dT []) e5 nnd);refine WY x t.a6 dx _ ⟨rfl,(by rw[bt nxd];exact e5),T.aw.cl,T.aw.no _ VW,(by show 4<1000;decide),?_⟩;revert k6 e6 d6;generalize upd (upd H5 nd (.dT [])) x _=H6;intro k6 e6 d6;have k36:Kp x H3 H6:=k4.trans (k5.trans k6);have es6:=k36 _ _ es3 nsx;refine⟨_,Wq e6 T.aw.cl (T.aw.no _ VW) rfl,_,Wq es6 T.bg.cl (T.bg.no _ VW) rfl,(by show 2<=sizeLine;rw[aM];decide),λtl ntl=>?_⟩;refine Xd (λnxt k7 e7 t7=>?_) (y4 (f:="tables") (o:= .lst [.int 0,.int (vc us.length:Nat)]) e6 ntl);refine WY x t.a6 dx _ ⟨rfl,(by rw[bt nxt];exact e6),T.aw.cl,T.aw.no _ VW,(by show 5<1000;decide),?_⟩;revert k7 e7 t7;generalize upd (upd H6 tl (.lst [.int 0,.int (vc us.length:Nat)])) x _=H7;intro k7 e7 t7;refine⟨_,Wq e7 T.aw.cl (T.aw.no _ VW) rfl,(by show 2<=sizeLine;rw[aM];decide),λwl nwl=>?_⟩;refine Xd (λnxw k8 e8 w8=>?_) (y4 (f:="weights") (o:= .lst [.int 0,.int (pre us us.length:Nat)]) e7 nwl);refine WY x t.a6 dx _ ⟨rfl,(by rw[bt nxw];exact e7),T.aw.cl,T.aw.no _ VW,(by show 6<1000;decide),?_⟩;revert k8 e8 w8;generalize upd (upd H7 wl (.lst [.int 0,.int (pre us us.length:Nat)])) x _=H8;intro k8 e8 w8;have k38:Kp x H3 H8:=k36.trans (k7.trans k8);have es8:=k38 _ _ es3 nsx;refine⟨_,Wq e8 T.aw.cl (T.aw.no _ VW) rfl,_,Wq es8 T.bg.cl (T.bg.no _ VW) rfl,1,us.length,rfl,rfl,r9,by have:=hB.le;lia,(by show 2<=sizeLine;rw[aM];decide),λyl nyl=>?_⟩;rw[eP];refine Xd (λnxy k9 e9 y9=>?_) (y4 (f:="ways") (o:= .lst [.int 0,.int (2^us.length:Nat)]) e8 nyl);refine WY x t.a6 dx _ ⟨rfl,(by rw[bt nxy];exact e8),T.aw.cl,T.aw.no _ VW,(by show 7<1000;decide),?_⟩;revert k9 e9 y9;generalize upd (upd H8 yl (.lst [.int 0,.int (2^us.length:Nat)])) x _=H9;intro k9 e9 y9;have k39:Kp x H3 H9:=k38.trans k9;have kx5:=kx4.trans k5;have kx6:=kx5.trans k6;have kx7:=kx6.trans k7;have kx8:=kx7.trans k8;have ec8:=k38 _ _ ec3 (cn ec3 e3 λz=>nomatch z);have hv8:=k38 _ _ hV3 (cn hV3 e3 λz=>nomatch z);have fr:∀{G:Hp}{y c:Addr}{o:HO},Kp x H3 G->H3 c=some o->c≠x->G y=none->c≠y:=λkk e nc n=>aq (kk _ _ e nc) n;have ncx:cl≠x:=cn ec3 e3 λz=>nomatch z;refine q ⟨cl,sp,vl,no,nd,tl,wl,yl⟩ ⟨[0,vc us.length],[0,pre us us.length],[0,2^us.length]⟩ H9 rfl ?_ ⟨⟨dx,e9⟩,⟨ps,k39 _ _ ec3 ncx,hpl,λi p v h1 h2=>k39 _ _ (hpa3 i p v h1 h2) (cn (hpa3 i p v h1 h2) e3 λz=>nomatch z)⟩,⟨dxs,k39 _ _ es3 nsx⟩,⟨vts,k39 _ _ hV3 nvx,hV2.len,hV2.ok⟩,⟨[],?_,rfl,λi p m h1 _=>nomatch h1⟩,?_,?_,?_,y9,?_,LF _,Hs hB.ok,LG,NT _,hB⟩ (kx8.trans k9)
   ·intro b hb;simp at hb;rcases hb with rfl|rfl|rfl|rfl|rfl|rfl
    ·exact nvl0
    ·exact kx4.no nno (bh nxo)
    ·exact kx5.no nnd (bh nxd)
    ·exact kx6.no ntl (bh nxt)
    ·exact kx7.no nwl (bh nxw)
    ·exact kx8.no nyl (bh nxy)
   ·exact(k6.trans (k7.trans (k8.trans k9))) _ _ o5 (bh nxo)
   ·exact(k7.trans (k8.trans k9)) _ _ d6 (bh nxd)
   ·exact(k8.trans k9) _ _ t7 (bh nxt)
   ·exact k9 _ _ w8 (bh nxw)
   ·have o6:=k6 _ _ o5 (bh nxo);have o7:=k7 _ _ o6 (bh nxo);have o8:=k8 _ _ o7 (bh nxo);have t8:=k8 _ _ t7 (bh nxt);simp;exact⟨⟨ncv,fr k4 ec3 ncx nno,fr k36 ec3 ncx ntl,fr (k36.trans k7) ec3 ncx nwl,fr k38 ec3 ncx nyl⟩,⟨fr k4 hV3 nvx nno,fr k36 hV3 nvx ntl,fr (k36.trans k7) hV3 nvx nwl,fr k38 hV3 nvx nyl⟩,⟨aq o6 ntl,aq o7 nwl,aq o8 nyl⟩,⟨aq t7 nwl,aq t8 nyl⟩,aq w8 nyl⟩
end
open Vaprbg(Answer State index made making)
theorem fZ.no{t:Ad}{H H':Hp}{x p:Addr}{L:SA}{us:List Var}{s:c4}{D:SL}(h:fZ t H' x L us s D)(k:gc L.mu H H')(n:H' p=none):H p=none:=by
 obtain⟨qs,e0,_⟩:=h.N5;have key:∀{c:Addr}{o:HO},H' c=some o->p≠c:=λe=>bh (aq e n);exact k.none n (by simp[SA.mu];exact⟨key e0,key h.Jt,key h.xK,key h.HQ,key h.KD⟩)
structure Ju(t:Ad)(H:Hp)(n:Int)(E:XK):Prop where
 r1:n= -1->ez t.me H (yY (-1) []) E
 r2:n= -2->ez t.mR H (yY (-2) []) E
 r3:n= -3->ez t.kh H (yY (-3) []) E
 r5:n= -5->ez t.g9 H (yY (-5) []) E
 r6:n= -6->ez t.jC H (yY (-6) []) E
theorem Ju.same{t:Ad}{H H':Hp}{n:Int}{E:XK}(h:Ju t H n E)(s:bq H H'):Ju t H' n E:=⟨λe=>(h.r1 e).same s,λe=>(h.r2 e).same s,λe=>(h.r3 e).same s,λe=>(h.r5 e).same s,λe=>(h.r6 e).same s⟩
def Due(t:Ad)(H:Hp)(x:Addr)(L:SA)(us:List Var)(r:State×Answer)(Q:VK)(E:XK):Prop:=
 if r.2.value<0 then Ju t H r.2.value E else∀(al:Addr)(D':SL)(H':Hp),H al=none->fZ t H' x L us r.1.store D'->H' al=some (.lst ((r.2.value::r.2.rest).map V.int))->gc L.mu H H'->Q (.ref al) H'
theorem cC{t:Ad}{H:Hp}{x:Addr}{L:SA}{us:List Var}{st:State}{n:Int}{Q:VK}{E:XK}(h:Due t H x L us (st,Vaprbg.refused n) Q E)(hn:n<0):Ju t H n E:=by
 unfold Due at h;have hn':(Vaprbg.refused n).value<0:=hn;rw[ao hn']at h;exact h
theorem iO{t:Ad}{H:Hp}{x:Addr}{L:SA}{us:List Var}{s:c4}{f:Fn}{Q:VK}{E:XK}(h:Due t H x L us (made ⟨us,s⟩ f) Q E):
 if 3000<(build f us.length [] s).1.length then ez t.kh H (yY (-3) []) E else∀(D':SL)(H':Hp),fZ t H' x L us (build f us.length [] s).1 D'->gc L.mu H H'->[V.int (build f us.length [] s).2].length<=sizeLine/\∀p,H' p=none->Q (.ref p) (upd H' p (.lst [V.int (build f us.length [] s).2])):=by
 unfold made at h;dsimp only at h;have e3:Vaprbg.STORE=3000:=rfl;rw[e3]at h;by_cases h3:3000<(build f us.length [] s).1.length
 ·rw[ao h3]at h⊢;exact(cC h VW).r3 rfl
 ·rw[ah h3]at h⊢;intro D' H' hX k;refine⟨by show 1<=sizeLine;rw[aM];decide,λp np=>?_⟩;unfold Due at h;have hv:¬(Vaprbg.count (build f us.length [] s).2).value<0:=by
   show¬(((build f us.length [] s).2:Nat):Int)<0;lia
  rw[ah hv]at h;have s1:bq H' (upd H' p (.lst [V.int (build f us.length [] s).2])):=λb o e=>ak e (aq e np);exact h p D' _ (hX.no k np) (hX.same s1) aC (k.trans (.of s1))
theorem cw{i:Int}{n d:Nat}(h:index i n=some d):i=(d:Int)/\d<n:=by
 unfold index at h;by_cases hi:0<=i/\i<(n:Int)
 ·rw[ao hi]at h;cases h;lia
 ·rw[ah hi]at h;cases h
theorem N6{us:List Var}(hB:wX us):∀i,pre us i<=2^(30*i)
 |0=>aH _
 |i+1=>by
  rw[pre,Nat.mul_succ,OO];refine Nat.mul_le_mul (N6 hB i) ?_;cases h:us[i]? with
  |none=>exact Nat.one_le_two_pow
  |some v=>exact be (hB.den v (bE h)) (by show 1000000000<=2^30;decide)
def N7(t:Ad):Sp:=λvs H Q E=>∃(x:Addr)(L:SA)(us:List Var)(s:c4)(D:SL)(i:Int),vs=[.ref x,.int i]/\fZ t H x L us s D/\match index i (s.length+2)with
 |some _=>Q .gb H
 |none=>ez t.mR H (yY (-2) []) E
def N8(t:Ad):Sp:=λvs H Q E=>∃(x:Addr)(L:SA)(us:List Var)(s:c4)(D:SL)(i:Int),vs=[.ref x,.int i]/\fZ t H x L us s D/\match index i us.length with
 |some _=>Q .gb H
 |none=>ez t.g9 H (yY (-5) []) E
section
include T
theorem a5:dQ P w K mg base 4 t.iE ["self","diagram"] (N7 t):=by
 refine T.jV.ok rF (λvs H Q E h=>?_) (λcdv A outer s H vs Q E hr h=>?_)
 ·obtain⟨x,L,us,s0,D,i,rfl,_⟩:=h;rfl
 ·obtain⟨x,L,us,s0,D,i,rfl,hX,q⟩:=h;obtain⟨dx,ex⟩:=hX.ex;refine⟨_,(az (cj (PW.pt (Am (Wv kK.j (Wo 1) aK (bu _)) (tR (Wv QC.j (Wo 1) (b6 cD rfl T.gP bf (aa (Wp K (Wo 0) rfl) ai)) (bu _))))) (az (ly (yZ T) T.fD.lM T.fD.ma (hr.mono VW) aS)) bo)),?_⟩;refine c6 (λh1=>d4 ?_) λh1=>⟨_,Wq ex T.aw.cl (T.aw.no _ VW) rfl,_,_,rfl,.inl ⟨_,cN.of hX.xK,rfl⟩,c6 (λh2=>?_) λh2=>?_⟩
  ·have h1':=aD h1;have e:index i (s0.length+2)=none:=by unfold index;rw[ah VX]
   rw[e]at q;exact cM (us:=[]) rfl (by show 0<=1000;decide) q
  ·rw[cA,hX.ta.len]at h2;have h2':=aD h2;have e:index i (s0.length+2)=none:=by unfold index;rw[ah VX]
   rw[e]at q;exact cM (us:=[]) rfl (by show 0<=1000;decide) q
  ·rw[cA,hX.ta.len]at h2;have h1':¬i<0:=λz=>h1 (au z);have h2':¬((s0.length+2:Nat):Int)<=i:=λz=>h2 (au z);have e:index i (s0.length+2)=some i.toNat:=by unfold index;rw[ao VX]
   rw[e]at q;exact q
theorem eL:dQ P w K mg base 4 t.hJ ["self","variable"] (N8 t):=by
 refine T.jL.ok p7 (λvs H Q E h=>?_) (λcdv A outer s H vs Q E hr h=>?_)
 ·obtain⟨x,L,us,s0,D,i,rfl,_⟩:=h;rfl
 ·obtain⟨x,L,us,s0,D,i,rfl,hX,q⟩:=h;obtain⟨dx,ex⟩:=hX.ex;obtain⟨ps,ec,hpl,hpa⟩:=hX.ch;refine⟨_,(az (cj (PW.pt (Am (Wv kK.j (Wo 1) aK (bu _)) (tR (Wv QC.j (Wo 1) (b6 cD rfl T.gP bf (aa (Wp K (Wo 0) rfl) ai)) (bu _))))) (az (ly (dw T) T.bV.lM T.bV.ma (hr.mono VW) aS)) bo)),?_⟩;refine c6 (λh1=>d4 ?_) λh1=>⟨_,Wq ex T.aw.cl (T.aw.no _ VW) rfl,_,_,rfl,.inl ⟨_,cN.of ec,rfl⟩,c6 (λh2=>?_) λh2=>?_⟩
  ·have h1':=aD h1;have e:index i us.length=none:=by unfold index;rw[ah VX]
   rw[e]at q;exact cM (us:=[]) rfl (by show 0<=1000;decide) q
  ·rw[ay,hpl]at h2;have h2':=aD h2;have e:index i us.length=none:=by unfold index;rw[ah VX]
   rw[e]at q;exact cM (us:=[]) rfl (by show 0<=1000;decide) q
  ·rw[ay,hpl]at h2;have h1':¬i<0:=λz=>h1 (au z);have h2':¬((us.length:Nat):Int)<=i:=λz=>h2 (au z);have e:index i us.length=some i.toNat:=by unfold index;rw[ao VX]
   rw[e]at q;exact q
end
end TS
namespace L2
open PySem PySem.Spec PyProof.Rows
theorem Ql{X:Cx}:qT X (binaryOp .BitAnd) (λx y H Q=>∃a:Nat,x= .int a/\y= .int (-(a:Int))/\0<a/\Q (.int (TM.Lu a:Nat)) H):=by
 intro pins s σ H x y v u Q I rx ry h;obtain⟨a,rfl,rfl,ha,q⟩:=h;refine Mp pins s σ H _ _ v u Q I rx ry ⟨_,_,rfl,rfl,?_⟩;have e:Builtin.bitAnd (a:Int) (-(a:Int))=((TM.Lu a:Nat):Int):=by
  unfold Builtin.bitAnd;rw[au (show(0:Int)<=a by lia),aQ (show¬(0:Int)<=-(a:Int) by lia)];dsimp only;have e1:(Builtin.bitNot (-(a:Int))).toNat=a-1:=by
   unfold Builtin.bitNot;lia
  rw[e1,bc];unfold TM.Lu;have:a&&&(a-1)<=a:=mq;lia
 show Q (.int (Builtin.bitAnd (a:Int) (-(a:Int)))) H;rw[e];exact q
end L2
namespace TS
open PySem PySem.Spec PyProof.Rows L2 TM
def Jv(CS:Addr):Sp:=λvs H Q _=>∃(x:Addr)(n p:Nat),vs=[.ref x,.int p]/\nj CS H x n/\∀D H',H D=none->H' D=some (.lst ((Vaprbg.bits (bitsOf n p)).map V.int))->bq H H'->Q (.ref D) H'
def LH(CS:Addr):Sp:=λvs H Q _=>∃(x:Addr)(n a i j:Nat)(f:List Bool->Bool),vs=[.ref x,.int a,.int i,.int j]/\nj CS H x n/\i<=j/\j<n/\cu n f a/\∀u:Nat,cu n (λas=>f (zX i j as)) u->Q (.int u) H
def N9:Sp:=λvs H Q _=>∃(x:Addr)(n a:Nat)(m:Int),vs=[.ref x,.int a,.int m]/\0<=m/\n<=12/\a<2^2^n/\∀D H',H D=none->H' D=some (.lst (bx ((c7 (2^n) a).take m.toNat)))->bq H H'->Q (.ref D) H'
def Hu(K:PySem.W.Frag)(CS:Addr):Sp:=λvs H Q _=>∃(x o:Addr)(n a:Nat)(f:List Bool->Bool)(p:List Nat),vs=[.ref x,.int a,.ref o]/\nj CS H x n/\cN K H o (bx p)/\Ord n p/\cu n f a/\∀(u:Nat)(H':Hp),cu n (λas=>f (arr p as)) u->bq H H'->Q (.int u) H'
theorem Qm{N t p:Nat}(h:p∈c7 N t):p<N:=List.mem_range.mp (List.mem_filter.mp h).1
section
include T
theorem nG:dQ P w K mg base 1 t.lO ["self","place"] (Jv t.b8):=by
 refine T.oy.ok i3 (λvs H Q E h=>?_) (λcdv A outer s H vs Q E hr h=>?_)
 ·obtain⟨x,n,p,rfl,_⟩:=h;rfl
 ·obtain⟨x,n,p,rfl,hS,q⟩:=h;obtain⟨dx,vl,vts,ex,hV⟩:=hS.ex;have hn:=hS.le;refine⟨_,(az (aX (D6 (own:=[("variable",2)]) rfl i3.nd (zo rfl T.zI (aa (Wp K (Wo 0) rfl) ai)) (show t6 ["self","place","variable"] (aI gM) _ _ from⟨rfl,VY,VY,VY,VY⟩) (λ_ _ _ _ _=>fu (i:=2) i3.nd rfl (Or.inl rfl)) (λ_ _ _ _ _=>xT) (λ_ _ _ _ _=>(bI iU (bI Bw (Wo 1) (bI fO.j (bI fO.j (Wp K (Wo 0) rfl) aK) (Wo 2))) aK))))),?_⟩;refine⟨_,Wq ex T.bg.cl (T.bg.no _ VW) rfl,(n:Int),rfl,VX,VX,λD nD=>?_⟩;refine⟨λi m H'=>m=n-i/\i<=n/\H' D=some (.lst (((List.range i).map (λv=>((((p>>>(n-1-v))&&&1:Nat)):Int))).map V.int))/\bq H H',⟨_,rfl,br _,aC,λb o e=>ak e (aq e nD)⟩,?_⟩;rintro i m H' ⟨rfl,hi,hD,sm⟩;by_cases hin:i=n
  ·subst hin;refine .inl ⟨gR (bc i),q D H' nD ?_ sm⟩;rw[<-Lv];exact hD
  ·refine .inr ⟨(by show i<(n:Int).toNat;lia),λH''=>H'' D=some (.lst (((List.range (i+1)).map (λv=>((((p>>>(n-1-v))&&&1:Nat)):Int))).map V.int))/\bq H H'',?_,?_⟩
   ·rintro H'' ⟨z1,z2⟩;exact⟨n-(i+1),VX,rfl,VX,z1,z2⟩
   ·rintro y H'' ⟨rfl,rfl⟩;refine⟨rfl,?_⟩;unfold KU;show(if true=true then _ else _);rw[ao rfl];refine⟨_,Wq (sm _ _ ex) T.bg.cl (T.bg.no _ VW) rfl,p,n-1-i,rfl,?_,_,1,rfl,rfl,_,hD,?_,?_,?_⟩
    ·show V.int ((n:Int)-1-((0:Int)+(i:Int)))=V.int ((n-1-i:Nat):Int)
     congr 1
     lia
    ·rw[ay,ay,cy,aM];lia
    ·rw[aC,List.range_succ,cb,cb];rfl
    ·exact λb o e=>ak (sm b o e) (aq e nD)
theorem Aa:dQ P w K mg base 1 t.px ["self","table","first","second"] (LH t.b8):=by
 refine T.sP.ok fQ (λvs H Q E h=>?_) (λcdv A outer s H vs Q E hr h=>?_)
 ·obtain⟨x,n,a,i,j,f,rfl,_⟩:=h;rfl
 ·obtain⟨x,n,a,i,j,f,rfl,hS,hij,hj,hf,q⟩:=h;obtain⟨dx,vl,vts,ex,hV⟩:=hS.ex;have hn:=hS.le;obtain⟨o,ho⟩:∃o,vts[i]?=some o:=⟨_,af (by rw[hV.len];lia)⟩;obtain⟨u,hu⟩:∃o,vts[j]?=some o:=⟨_,af (by rw[hV.len];lia)⟩;refine⟨_,(ag (a9 (i:=4) fQ.nd rfl (Or.inl rfl) (bp (Wr K) (Wp K (Wo 0) rfl) (Wo 2) (λ_ _=>rfl))) (ag (a9 (i:=5) fQ.nd rfl (Or.inl rfl) (bp (Wr K) (Wp K (Wo 0) rfl) (Wo 3) (λ_ _=>rfl))) (ag (a9 (i:=6) fQ.nd rfl (Or.inl rfl) (bI iU (Wo 1) (bI r8 (Wo 4) (Wo 5)))) (ag (a9 (i:=7) fQ.nd rfl (Or.inl rfl) (bI fO.j (bI iw aK (bI fO.j (bI fO.j (Wp K (Wo 0) rfl) aK) (Wo 2))) (bI iw aK (bI fO.j (bI fO.j (Wp K (Wo 0) rfl) aK) (Wo 3))))) (az (aX (bI pG (bI pG (bI r8 (Wo 1) (Wo 6)) (bI Bw (bI iU (Wo 6) (Wo 4)) (Wo 7))) (bI iw (bI iU (Wo 6) (Wo 5)) (Wo 7))))))))),?_⟩;refine⟨_,Wq ex T.bg.cl (T.bg.no _ VW) rfl,.int (o:Nat),Wt (cN.of hV.at_) (cx (by rw[aR,ho];rfl)),?_⟩;refine⟨_,Wq ex T.bg.cl (T.bg.no _ VW) rfl,.int (u:Nat),Wt (cN.of hV.at_) (cx (by rw[aR,hu];rfl)),?_⟩;refine⟨o,u,rfl,rfl,a,_,rfl,rfl,?_⟩;refine⟨_,Wq ex T.bg.cl (T.bg.no _ VW) rfl,1,n-1-i,rfl,bJ V.int VX,r9,VX,?_⟩;refine⟨_,Wq ex T.bg.cl (T.bg.no _ VW) rfl,1,n-1-j,rfl,bJ V.int VX,r9,VX,?_⟩;rw[eP,eP];have hle:2^(n-1-j)<=2^(n-1-i):=cZ VW VX;have hb:2^(n-1-i)<=4096:=qH VX;have eg:((2^(n-1-i):Nat):Int)-((2^(n-1-j):Nat):Int)=((2^(n-1-i)-2^(n-1-j):Nat):Int):=VX;have hsw:=hf.Qe (hV.ok i o ho) (hV.ok j u hu) hij hj;refine⟨a,_,rfl,rfl,_,o,rfl,rfl,_,2^(n-1-i)-2^(n-1-j),rfl,bJ V.int eg,_,_,rfl,rfl,_,u,rfl,rfl,_,2^(n-1-i)-2^(n-1-j),rfl,bJ V.int eg,?_,be (Nat.sub_le _ _) (be hb VW),_,_,rfl,rfl,q _ hsw⟩;exact FL hn (cK mq (cK mq hf.lt))
theorem tu:dQ P w K mg base 1 t.rR ["self","table","most"] N9:=by
 refine T.uX.ok iR (λvs H Q E h=>?_) (λcdv A outer s H vs Q E hr h=>?_)
 ·revert h;refine W7 λx n a m=>W9 λe0_ _=>?_;subst e0_;rfl
 ·revert h;refine W7 λx n a m=>Xe λe0_ hm hn ha q=>?_;subst e0_;have p12:2^n<=4096:=qH hn;refine⟨_,(ag (a9 (i:=3) iR.nd rfl (Or.inl rfl) (cI ai)) (ag (d5 (gy bN (PW.pt (zm (Wv tW.j (Wo 1) aK (bu _)) (vp (Wv kK.j (b6 cD rfl T.gP bf (aa (Wo 3) ai)) (Wo 2) (bu _))))) (ag (a9 (i:=4) iR.nd rfl (Or.inl rfl) (bI Ql (Wo 1) (An tV (Wo 1)))) (ag (bw (jj bj bL bM dY (Wo 3) (aa (bI fO.j (RC PySem.F.plainAttrs_int PyProof.Rows.slot_int_bit_length PyProof.Rows.type_int_bit_length Pl (Wo 4)) aK) ai))) (az (a9 (i:=1) iR.nd rfl (Or.inl rfl) (bI r8 (Wo 1) (Wo 4)))))))) (az (aX (Wo 3))))),?_⟩;refine⟨(by show 0<=sizeLine;lia),λD nD=>?_⟩;have s1:bq H (upd H D (.lst [])):=λb o e=>ak e (aq e nD);have d1:upd H D (.lst []) D=some (.lst []):=aC;revert s1 d1;generalize upd H D (.lst [])=H1;intro s1 d1;have fl:∀{u:Nat},u<2^2^n->(c7 (2^n) u).length<=2^n:=λ{u} _=>by
   have:=dj (λp=>u.testBit p) (List.range (2^n));rw[cy]at this;exact this
  refine⟨λσ H'=>(∃v1 v4,σ=[some (.ref x),v1,some (.int m),some (.ref D),v4])/\H' D=some (.lst (bx ((c7 (2^n) a).take m.toNat)))/\bq H H',⟨λk σ H'=>∃(u:Nat)(fs:List Nat)(v4:Option V),k=(c7 (2^n) u).length/\σ=[some (.ref x),some (.int u),some (.int m),some (.ref D),v4]/\H' D=some (.lst (bx fs))/\u<2^2^n/\c7 (2^n) a=fs++c7 (2^n) u/\fs.length<=m.toNat/\bq H H',⟨_,a,[],none,rfl,rfl,d1,ha,rfl,br _,s1⟩,?_⟩,?_⟩
  ·intro k σ H';refine Xc λu fs v4=>Xb λe0_ e1_ hD hu eo=>W9 λhl sm=>?_;subst e0_;subst e1_;have done:((c7 (2^n) u)=[]\/fs.length=m.toNat)->fs=(c7 (2^n) a).take m.toNat:=λz=>by
    rw[eo];rcases z with z|z
    ·rw[z,bD,List.take_of_length_le hl]
    ·rw[<-z,List.take_left'];rfl
   refine c6 (λh1=>?_) λh1=>cq ?_
   ·have h1':0<u:=by
     have z:=aD h1;lia
    refine⟨_,_,rfl,.inl ⟨_,cN.of hD,rfl⟩,?_⟩;rw[cA];refine c6 (λh2=>?_) λh2=>?_
    ·have h2':fs.length<m.toNat:=by
      have z:=aD h2;lia
     refine Xa (λp=>W8 λb1 b2 b3=>?_) (N1 u u (aH _) h1');have eo2:=Jp hu b1 b2;have hpn:p<2^n:=by
      apply f7;intro hle;rw[rZ hu hle]at b1;cases b1
     refine⟨λσ' H''=>∃(u':Nat)(fs:List Nat)(v4:Option V),(c7 (2^n) u').length<(c7 (2^n) u).length/\σ'=[some (.ref x),some (.int u'),some (.int m),some (.ref D),v4]/\H'' D=some (.lst (bx fs))/\u'<2^2^n/\c7 (2^n) a=fs++c7 (2^n) u'/\fs.length<=m.toNat/\bq H H'',?_,?_⟩
     ·intro σ' H'';refine Xc λu' fs' v4'=>W9 λz z2=>?_;exact⟨_,z,u',fs',v4',rfl,z2⟩
     ·refine⟨_,rfl,u,rfl,rfl,h1',?_⟩;rw[b3];refine⟨.inl ⟨rfl,_,cN.of hD⟩,rfl,_,rfl,rfl,WZ D _ _ ⟨rfl,rfl,hD,?_,?_⟩⟩
      ·rw[cA,aM];have e1:=bJ List.length eo;rw[aE]at e1;have:=fl ha;lia
      have eb:((Builtin.Int.intBits ((2^p:Nat):Int):Nat):Int)-1=((p:Nat):Int):=by
       unfold Builtin.Int.intBits;have hp0:0<2^p:=eS VW;have hne:¬(((2^p:Nat):Int)==0)=true:=by
        rw[jg];generalize 2^p=z at hp0;lia
       rw[ah hne,ji,Nat.log2_two_pow];lia
      show(_:Prop);refine⟨u,2^p,rfl,rfl,u^^^2^p,fs++[p],_,?_,rfl,?_,?_,?_,?_,?_⟩
      ·rw[eo2,aT];lia
      ·rw[aC,<-fJ];show some (HO.lst (bx fs++[V.int (((Builtin.Int.intBits ((2^p:Nat):Int):Nat):Int)-1)]))=_;rw[eb]
      ·exact nO hu (F7 VW hpn)
      ·rw[eo,eo2,bK];rfl
      ·rw[aE];show fs.length+1<=_;lia
      ·exact λb o e=>ak (sm b o e) (aq e nD)
    ·have h2':fs.length=m.toNat:=by
      have z:¬((fs.length:Nat):Int)<m:=λz=>h2 (au z);lia
     refine⟨⟨_,_,rfl⟩,?_,sm⟩;rw[<-done (.inr h2')];exact hD
   ·have h1':u=0:=by
     have z:¬(0:Int)<(u:Int):=λz=>h1 (au z);lia
    refine⟨⟨_,_,rfl⟩,?_,sm⟩;rw[<-done (.inl (by rw[h1'];exact Hi _))];exact hD
  ·rintro σ H' ⟨⟨v1,v4,rfl⟩,hD,sm⟩;exact q D H' nD hD sm
end
theorem KE{n i:Nat}(h:i<n):O0 n (i:Int)=some i:=by
 unfold O0;rw[ao VX,ao VX,bc]
theorem EM(l:List Nat)(i v:Nat):bx (l.set i v)=(bx l).set i (.int (v:Nat)):=by
 unfold bx;rw[List.map_set]
theorem Jw(l:List Nat):(bx l).all nZ=true:=by
 unfold bx;rw[LQ];exact List.all_eq_true.mpr λ_ _=>rfl
section
include T
theorem xE:dQ P w K mg base 2 t.lN ["self","table","order"] (Hu K t.b8):=by
 refine T.ou.ok fi (λvs H Q E h=>?_) (λcdv A outer s H vs Q E hr h=>?_)
 ·revert h;refine W7 λx o n a=>W6 λf p=>W9 λe0_ _=>?_;subst e0_;rfl
 ·obtain⟨x,o,n,a,f,p,rfl,hS,hO,ho,hf,q⟩:=h;refine Xc (λdx vl vts=>W9 λex hV=>?_) hS.ex;have hn:=hS.le;refine⟨_,(ag (a9 (i:=3) fi.nd rfl (Or.inl rfl) (j1 (BV rfl) rfl T.GQ pQ (aa (j1 GA rfl T.zI PyProof.Rows.boot_range (aa (Wp K (Wo 0) rfl) ai)) ai))) (ag (d5 (mr bN rfl (zo rfl T.zI (aa (Wp K (Wo 0) rfl) ai)) (fu (i:=4) fi.nd rfl (Or.inl rfl)) (ag (a9 (i:=5) fi.nd rfl (Or.inl rfl) (jj bj Bc PySem.F.type_list_index Gj (Wo 3) (aa (bp (Wr K) (Wo 2) (Wo 4) (λ_ _=>rfl)) ai))) (ag (a9 (i:=1) fi.nd rfl (Or.inl rfl) (bR (Aa T) T.bg.cl T.sQ (hr.mono VW) bF (Wo 0) (aa (Wo 1) (aa (Wo 4) (aa (Wo 5) ai))))) (ag (Mi (bp (Wr K) (Wo 3) (Wo 4) (λ_ _=>rfl)) (Mh (Wo 3) (Wo 5) set_list (λ_=>rfl))) (az (Mi (bp (Wr K) (Wo 2) (Wo 4) (λ_ _=>rfl)) (Mh (Wo 3) (Wo 4) set_list (λ_=>rfl))))))))) (az (aX (Wo 1))))),?_⟩;refine⟨_,Wq ex T.bg.cl (T.bg.no _ VW) rfl,(n:Int),rfl,λR nR=>⟨R,n,rfl,aC,be hn VW,λS nS=>?_⟩⟩;have s0:bq H (upd H R (.JK 0 (n:Int))):=λb o e=>ak e (aq e nR);have fS:H S=none:=s0.no nS;have s1:bq H (upd (upd H R (.JK 0 (n:Int))) S (.lst ((List.range n).map λi:Nat=>V.int (i:Int)))):=λb o e=>ak (s0 b o e) (aq e fS);have d1:upd (upd H R (.JK 0 (n:Int))) S (.lst ((List.range n).map λi:Nat=>V.int (i:Int))) S=some (.lst (bx (List.range n))):=aC;revert s1 d1;generalize upd (upd H R (.JK 0 (n:Int))) S (.lst ((List.range n).map λi:Nat=>V.int (i:Int)))=H1;intro s1 d1;refine⟨λσ H'=>∃(u:Nat)(v4 v5:Option V),σ=[some (.ref x),some (.int u),some (.ref o),some (.ref S),v4,v5]/\cu n (λas=>f (arr p as)) u/\bq H H',?_,?_⟩
  ·refine⟨_,Wq (s1 _ _ ex) T.bg.cl (T.bg.no _ VW) rfl,(n:Int),rfl,VX,VX,KR (n:=n) (λi σ H'=>∃(u:Nat)(st:List Nat)(v4 v5:Option V),σ=[some (.ref x),some (.int u),some (.ref o),some (.ref S),v4,v5]/\H' S=some (.lst (bx st))/\Ord n st/\(∀j,j<i->st[j]?=p[j]?)/\cu n (λas=>f (arr st as)) u/\bq H H') ⟨a,List.range n,none,none,rfl,d1,EK n,λj hj=>absurd hj VX,?_,s1⟩ ?_ ?_⟩
   ·exact hf.congr λas ha=>by
     subst ha;rw[Lx]
   ·intro i σ H' hi;refine W7 λu st v4 v5=>Xb λe0_ hD hst hpre htab sm=>?_;subst e0_;obtain⟨pi,hpi⟩:∃pi,p[i]?=some pi:=⟨_,af (by rw[ho.len];exact hi)⟩;obtain⟨b,hb⟩:∃b,st[i]?=some b:=⟨_,af (by rw[hst.len];exact hi)⟩;obtain⟨m,hm⟩:=tQ (hst.mem (ho.lt pi (bE hpi)));have hmn:m<n:=by
     have:=(List.getElem?_eq_some_iff.mp hm).1;rw[hst.len]at this;exact this
    have him:i<=m:=by
     apply sj;intro hlt;have e:=hpre m hlt;rw[hm]at e;have:=Kz ho.nd e.symm hpi;lia
    have hO':=sm.seq hO;have ei:(0:Int)+(i:Int)=(i:Int):=Int.zero_add _;show(_:Prop);rw[ei];refine⟨.inl ⟨rfl,_,cN.of hD⟩,.int (pi:Nat),Wt hO' (cx (dA hpi)),S,bx st,WZ (.int (pi:Nat)) m (.int (pi:Nat)) ⟨rfl,rfl,cN.of hD,rfl,Jw st,dA hm,by show((pi:Int)==(pi:Int))=true;simp,λk z hk hz=>?_,?_⟩⟩
    ·unfold bx at hz;rw[aR]at hz;obtain⟨c,hc,rfl⟩:=Option.map_eq_some_iff.mp hz;show((c:Int)==(pi:Int))=false;rw[HK];intro e;have e':c=pi:=VX;subst e';have:=Kz hst.nd hc hm;lia
    refine⟨Ws (sm _ _ ex) rfl,W0 x n u i m _ ⟨rfl,hS.same sm,him,hmn,htab,λu' hu'=>?_⟩⟩;refine⟨.int (b:Nat),Wt (cN.of hD) (cx (dA hb)),S,_,(m:Int),m,rfl,rfl,hD,KE (by rw[cA,hst.len];exact hmn),?_⟩;rw[<-EM];have s2:bq H (upd H' S (.lst (bx (st.set m b)))):=λc o e=>ak (sm c o e) (aq e fS);have d2:upd H' S (.lst (bx (st.set m b))) S=some (.lst (bx (st.set m b))):=aC;revert s2 d2;generalize upd H' S (.lst (bx (st.set m b)))=H2;intro s2 d2;refine⟨.int (pi:Nat),Wt (s2.seq hO) (cx (dA hpi)),S,_,(i:Int),i,rfl,rfl,d2,KE (by rw[cA,ck,hst.len];exact hi),?_⟩;rw[<-EM];have hx:=Hk hst hb hm;refine⟨u',CK st i m b pi,_,_,rfl,aC,hx,λj hj=>?_,hu'.congr λas ha=>?_,λc o e=>ak (s2 c o e) (aq e fS)⟩
    ·rw[yU hst hb hm];by_cases h1:j=i
     ·rw[ao h1,h1,hm,hpi]
     ·rw[ah h1,ah VX,hpre j VX]
    ·rw[N3 hst hb hm ha]
   ·intro σ H';refine W7 λu st v4 v5=>Xb λe0_ hD hst hpre htab sm=>?_;subst e0_;have e:st=p:=by
     apply fG;intro j;by_cases hj:j<n
     ·exact hpre j hj
     ·rw[b7 (by rw[hst.len];lia),b7 (by rw[ho.len];lia)]
    rw[e]at htab;exact WZ u v4 v5 ⟨rfl,htab,sm⟩
  ·rintro σ H' ⟨u,v4,v5,rfl,htab,sm⟩;exact q u H' htab sm
end
open Vaprbg(Node Var build nodeOf put says)
theorem Qn(d:Int):JU (.int d) [.int 0,.int 1]=decide (d=0\/d=1):=by
 show(((0:Int)==d)||(((1:Int)==d)||false))=_;by_cases h0:d=0
 ·subst h0;rfl
 ·by_cases h1:d=1
  ·subst h1;rfl
  ·have e0:((0:Int)==d)=false:=beq_eq_false_iff_ne.mpr (bh h0);have e1:((1:Int)==d)=false:=beq_eq_false_iff_ne.mpr (bh h1);rw[e0,e1,aQ VX];rfl
noncomputable def ij(s:c4)(d:Nat):List Nat:=match nodeOf s d with
 |none=>[]
 |some m=>[m.lo,m.hi]
theorem si{s:c4}{d:Nat}(h:d<s.length+2)(h2:¬(d=0\/d=1)):∃m,nodeOf s d=some m:=by
 unfold nodeOf;rw[ah VX];exact⟨_,af VX⟩
theorem EN{s:c4}{d:Nat}(h2:d=0\/d=1):nodeOf s d=none:=by
 unfold nodeOf;rw[ao VX]
def Oa(t:Ad):Sp:=λvs H Q _=>∃(x:Addr)(L:SA)(us:List Var)(s:c4)(D:SL)(d:Nat)(m:Node),vs=[.ref x,.int d]/\fZ t H x L us s D/\nodeOf s d=some m/\∀b,H b=some (.tup (qJ m))->Q (.ref b) H
def LI(t:Ad):Sp:=λvs H Q _=>∃(x:Addr)(L:SA)(us:List Var)(s:c4)(D:SL)(d:Nat),vs=[.ref x,.int d]/\fZ t H x L us s D/\d<s.length+2/\∀l H',H l=none->H' l=some (.lst (bx (ij s d)))->bq H H'->Q (.ref l) H'
def LJ(t:Ad):Sp:=λvs H Q _=>∃(x:Addr)(L:SA)(us:List Var)(s:c4)(D:SL)(d:Nat),vs=[.ref x,.int d]/\fZ t H x L us s D/\s.length<=3000/\d<s.length+2/\∀l H',H l=none->H' l=some (.lst (bx (Vaprbg.nodes s d)))->bq H H'->Q (.ref l) H'
noncomputable def vU(l:List Nat):List (Key×V):=l.map λx:Nat=>(Sum.inl (x:Int),V.bl true)
theorem Hv(l:List Nat)(x:Nat):(fv (vU l) (Sum.inl (x:Int))).isSome=l.contains x:=by
 induction l with
 |nil=>rfl
 |cons a r ih=>
  by_cases h:a=x
  ·subst h;have e:fv (vU (a::r)) (Sum.inl (a:Int))=some (.bl true):=mv rfl;rw[e];simp
  ·have e:fv (vU (a::r)) (Sum.inl (x:Int))=fv (vU r) (Sum.inl (x:Int)):=mw (by
    simp;lia)
   rw[e,ih];simp;intro z;exact absurd z.symm h
theorem Ob{l:List Nat}{x:Nat}(h:l.contains x=false):putK (vU l) (Sum.inl (x:Int)) (.bl true)=vU (l++[x]):=by
 have e:fv (vU l) (Sum.inl (x:Int))=none:=by
  have:=Hv l x;rw[h]at this;cases z:fv (vU l) (Sum.inl (x:Int))with
  |none=>rfl
  |some v=>
   rw[z]at this;cases this
 rw[xV _ e];unfold vU;rw[cb];rfl
section
include T
theorem iC:dQ P w K mg base 1 t.pz ["self","diagram"] (Oa t):=by
 refine T.sR.ok zF (λvs H Q E h=>?_) (λcdv A outer s H vs Q E hr h=>?_)
 ·obtain⟨x,L,us,s0,D,d,m,rfl,_⟩:=h;rfl
 ·obtain⟨x,L,us,s0,D,d,m,rfl,hX,hm,q⟩:=h;obtain⟨dx,ex⟩:=hX.ex;obtain⟨ps,e0,hpl,hpa⟩:=hX.N5;obtain⟨h1,h2,h3⟩:=qK hm;obtain⟨b,hb⟩:∃b,ps[d-2]?=some b:=⟨_,af VX⟩;refine⟨_,(az (aX (bp (Wr K) (Wp K (Wo 0) rfl) (bI fO.j (Wo 1) aK) (λ_ _=>rfl)))),?_⟩;refine⟨_,Wq ex T.aw.cl (T.aw.no _ VW) rfl,.ref b,Wt (cN.of e0) ?_,q b (hpa _ _ _ hb h3)⟩;have ed:(d:Int)-2=((d-2:Nat):Int):=VX;show Dr (ps.map V.ref) ((d:Int)-2)=_;rw[ed];exact cx (by rw[aR,hb];rfl)
theorem y6:dQ P w K mg base 2 t.mV ["self","diagram"] (LI t):=by
 refine T.qx.ok oq (λvs H Q E h=>?_) (λcdv A outer s H vs Q E hr h=>?_)
 ·obtain⟨x,L,us,s0,D,d,rfl,_⟩:=h;rfl
 ·obtain⟨x,L,us,s0,D,d,rfl,hX,hd,q⟩:=h;refine⟨_,(ag (cj (Wv vr (Wo 1) (qV (aa aK (aa aK ai))) (by with_unfolding_all rfl)) (az (aX (cI ai))) bo) (ag (a9 (i:=2) oq.nd rfl (Or.inl rfl) (bR (iC T) T.aw.cl T.gA (hr.mono VW) bF (Wo 0) (aa (Wo 1) ai))) (az (aX (cI (aa (bp (Ww K) (Wo 2) aK (λ_ _=>rfl)) (aa (bp (Ww K) (Wo 2) aK (λ_ _=>rfl)) ai))))))),?_⟩;refine⟨(by show 2<=sizeLine;rw[aM];decide),λtp ntp=>⟨tp,_,rfl,.inr (iK.of aC),rfl,rfl,?_⟩⟩;have s1:bq H (upd H tp (.tup [.int 0,.int 1])):=λb o e=>ak e (aq e ntp);revert s1;generalize upd H tp (.tup [.int 0,.int 1])=H1;intro s1;rw[ah aj,Qn];refine c6 (λh1=>?_) λh1=>?_
  ·have h1':d=0\/d=1:=by
    have:=aD h1;lia
   refine⟨(by show 0<=sizeLine;lia),λl nl=>?_⟩;refine q l _ (s1.no nl) ?_ (s1.trans λb o e=>ak e (aq e nl));rw[aC];unfold ij;rw[EN h1'];rfl
  ·have h1':¬(d=0\/d=1):=λz=>h1 (au VX);obtain⟨m,hm⟩:=si hd h1';have hX1:=hX.same s1;obtain⟨dx,ex⟩:=hX1.ex;refine⟨Ws ex rfl,W2 x L us s0 D d m ⟨rfl,hX1,hm,λb hb=>?_⟩⟩;refine⟨.int (m.lo:Nat),Wt (iK.of hb) rfl,.int (m.hi:Nat),Wt (iK.of hb) rfl,(by show 2<=sizeLine;rw[aM];decide),λl nl=>?_⟩;refine q l _ (s1.no nl) ?_ (s1.trans λb o e=>ak e (aq e nl));rw[aC];unfold ij;rw[hm];rfl
theorem oG:dQ P w K mg base 3 t.jH ["self","diagram"] (LJ t):=by
 refine T.qz.ok dk (λvs H Q E h=>?_) (λcdv A outer s H vs Q E hr h=>?_)
 ·obtain⟨x,L,us,s0,D,d,rfl,_⟩:=h;rfl
 ·obtain⟨x,L,us,s0,D,d,rfl,hX,hz,hd,q⟩:=h;have hu:(tY (Ar P w) P w K mg base ["self","diagram","listed","met","place","part","number"] "Store.nodes_of" (aI fT) t.jH cdv A outer s H E).A.units+1<cLine:=by
   have:=hr.units;show(A.deeper _).units+1<cLine;lia
  refine⟨_,(ag (a9 (i:=2) dk.nd rfl (Or.inl rfl) (cI (aa (Wo 1) ai))) (ag (a9 (i:=3) dk.nd rfl (Or.inl rfl) (O9 (ML (Wo 1) xO O8) rfl rfl (by simp) VW)) (ag (a9 (i:=4) dk.nd rfl (Or.inl rfl) aK) (ag (d5 (gy bN (Wv kK.j (Wo 4) (b6 cD rfl T.gP bf (aa (Wo 2) ai)) (bu _)) (ag (d5 (mr bN rfl (jt (bR (y6 T) T.aw.cl T.qy (hr.mono VW) bF (Wo 0) (aa (bp (Wr K) (Wo 2) (Wo 4) (λ_ _=>rfl)) ai))) (fu (i:=5) dk.nd rfl (Or.inl rfl)) (az (cj (WB (zu hu (Wo 5) (Wo 3))) (ag (Bk hu (Wo 3) (Wo 5) xO rfl) (az (bw (jj bj bL bM dY (Wo 2) (aa (Wo 5) ai))))) bo)))) (az (EV (i:=4) dk.nd rfl (Or.inl rfl) aK EW))))) (az (aX (D6 (own:=[("number",6)]) rfl dk.nd (jt (Wo 2)) (show t6 ["self","diagram","listed","met","place","part","number"] (aI fT) _ _ from⟨rfl,VY,VY,VY,VY⟩) (λ_ _ _ _ _=>fu (i:=6) dk.nd rfl (Or.inl rfl)) (λ_ _ _ _ _=>(JW (Wv tW.j (Wo 6) aK (bu _)))) (λ_ _ _ _ _=>(Wo 6))))))))),?_⟩;refine⟨(by show 1<=sizeLine;rw[aM];decide),λls nls=>?_⟩;have s1:bq H (upd H ls (.lst [.int d])):=λb o e=>ak e (aq e nls);have l1:upd H ls (.lst [.int d]) ls=some (.lst (bx [d])):=aC;revert s1 l1;generalize upd H ls (.lst [.int d])=H1;intro s1 l1 mt nmt;have nml:ls≠mt:=aq l1 nmt;refine⟨aC,[(Sum.inl (d:Int),.bl true)],rfl,by show 1<=15;decide,?_⟩;have fmt:H mt=none:=s1.no nmt;have s2:bq H (upd (upd H1 mt (.dK [])) mt (.dK (qX [] [(Sum.inl (d:Int),.bl true)]))):=λb o e=>ak (ak (s1 b o e) (aq e fmt)) (aq e fmt);have m2:upd (upd H1 mt (.dK [])) mt (.dK (qX [] [(Sum.inl (d:Int),.bl true)])) mt=some (.dK (vU [d])):=aC;have l2:upd (upd H1 mt (.dK [])) mt (.dK (qX [] [(Sum.inl (d:Int),.bl true)])) ls=some (.lst (bx [d])):=ak (ak l1 nml) nml;revert s2 m2 l2;generalize upd (upd H1 mt (.dK [])) mt (.dK (qX [] [(Sum.inl (d:Int),.bl true)]))=H2;intro s2 m2 l2;refine⟨λσ H'=>∃(v4 v5:Option V),σ=[some (.ref x),some (.int d),some (.ref ls),some (.ref mt),v4,v5,none]/\H' ls=some (.lst (bx (Vaprbg.reach s0 (s0.length+3) 0 [d])))/\bq H H'/\Ky (s0.length+2) (Vaprbg.reach s0 (s0.length+3) 0 [d]),⟨λk σ H'=>∃(i:Nat)(l:List Nat)(v5:Option V),k=s0.length+3-i/\σ=[some (.ref x),some (.int d),some (.ref ls),some (.ref mt),some (.int i),v5,none]/\H' ls=some (.lst (bx l))/\H' mt=some (.dK (vU l))/\bq H H'/\i<=l.length/\Ky (s0.length+2) l/\Vaprbg.reach s0 (s0.length+3) 0 [d]=Vaprbg.reach s0 (s0.length+3-i) i l,⟨_,0,[d],none,rfl,rfl,l2,m2,s2,br _,FU hd,rfl⟩,?_⟩,?_⟩
  ·rintro k σ H' ⟨i,l,v5,rfl,rfl,hl,hm,sm,hi,hL,er⟩;refine⟨_,_,rfl,.inl ⟨_,cN.of hl,rfl⟩,?_⟩;rw[cA];refine c6 (λh1=>?_) λh1=>?_
   ·have h1':i<l.length:=by
     have z:=aD h1;lia
    obtain⟨e,he⟩:∃e,l[i]?=some e:=⟨_,af h1'⟩;have heN:=hL.lt e (bE he);have hlen:=hL.len;have hL':=Hh hX.wf hL e;have hst:Vaprbg.reach s0 (s0.length+3-i) i l=Vaprbg.reach s0 (s0.length+3-(i+1)) (i+1) (lj s0 l e):=by
     have ek:s0.length+3-i=(s0.length+3-(i+1))+1:=VX;rw[ek,CB he]
    obtain⟨ext,hext⟩:=EH s0 l e;refine⟨λσ' H''=>∃(v5:Option V),σ'=[some (.ref x),some (.int d),some (.ref ls),some (.ref mt),some (.int (i+1:Nat)),v5,none]/\H'' ls=some (.lst (bx (lj s0 l e)))/\H'' mt=some (.dK (vU (lj s0 l e)))/\bq H H'',?_,?_⟩
    ·rintro σ' H'' ⟨v5',z1,z2,z3,z4⟩;refine⟨s0.length+3-(i+1),VX,i+1,lj s0 l e,v5',rfl,z1,z2,z3,z4,?_,hL',?_⟩
     ·rw[hext,aE];lia
     ·rw[er,hst]
    have hX':=hX.same sm;obtain⟨dx,ex⟩:=hX'.ex;refine⟨λσ' H''=>∃(v5:Option V),σ'=[some (.ref x),some (.int d),some (.ref ls),some (.ref mt),some (.int i),v5,none]/\H'' ls=some (.lst (bx (lj s0 l e)))/\H'' mt=some (.dK (vU (lj s0 l e)))/\bq H H'',?_,?_⟩
    ·refine⟨Ws ex rfl,.int (e:Nat),Wt (cN.of hl) (cx (dA he)),W1 x L us s0 D ⟨e,rfl,hX',heN,λpl H3 npl hpl s3=>⟨pl,rfl,⟨_,cN.of hpl⟩,?_⟩⟩⟩;have fpl:H pl=none:=sm.no npl;have npls:pl≠ls:=bh (aq hl npl);have nplm:pl≠mt:=bh (aq hm npl);have ef:lj s0 l e=(ij s0 e).foldl jS l:=by
      unfold lj ij;cases nodeOf s0 e<;>rfl
     have hp2:(ij s0 e).length<=2:=by
      unfold ij;cases nodeOf s0 e
      ·exact br _
      ·exact aH _
     have hpN:∀y∈ij s0 e,y<s0.length+2:=λy hy=>by
      unfold ij at hy;cases hn:nodeOf s0 e with
      |none=>
       rw[hn]at hy;simp at hy
      |some m=>
       rw[hn]at hy;obtain⟨g1,g2,g3,_⟩:=hX.wf.node hn;simp at hy;rcases hy with rfl|rfl<;>lia
     have hLj:∀(ys:List Nat)(l:List Nat),(∀y∈ys,y<s0.length+2)->Ky (s0.length+2) l->Ky (s0.length+2) (ys.foldl jS l):=by
      intro ys
      induction ys with
      |nil=>exact λl _ h=>h
      |cons y ys ih=>exact λl hy h=>ih _ (λz hz=>hy z (aL _ hz)) (h.met (hy y aV))
     refine tT (xs:=bx (ij s0 e)) (λj σ' H''=>∃(v5:Option V),σ'=[some (.ref x),some (.int d),some (.ref ls),some (.ref mt),some (.int i),v5,none]/\H'' ls=some (.lst (bx (((ij s0 e).take j).foldl jS l)))/\H'' mt=some (.dK (vU (((ij s0 e).take j).foldl jS l)))/\bq H H''/\H'' pl=some (.lst (bx (ij s0 e)))) ⟨v5,rfl,s3 _ _ hl,s3 _ _ hm,sm.trans s3,hpl⟩ (λj σ' H'' _ z=>?_) ?_ ?_
     ·obtain⟨_,_,_,_,_,z⟩:=z;exact cN.of z
     ·rintro j y σ' H'' hy ⟨v5',rfl,z2,z3,z4,z5⟩;unfold bx at hy;rw[aR]at hy;obtain⟨c,hc,rfl⟩:=Option.map_eq_some_iff.mp hy;have et:(ij s0 e).take (j+1)=(ij s0 e).take j++[c]:=by
       obtain⟨hlt,hd'⟩:=List.getElem?_eq_some_iff.mp hc;rw[bB hlt,hd']
      have hLL:=hLj ((ij s0 e).take j) l (λy hy=>hpN y (List.mem_of_mem_take hy)) hL;rw[et,L5];generalize hG:((ij s0 e).take j).foldl jS l=G at*
      have hGl:=hLL.len;refine⟨mt,_,rfl,tF.k (k:=Sum.inl (c:Int)) z3,?_⟩;rw[Hv];refine c6 (λh2=>?_) λh2=>?_
      ·have h2':G.contains c=false:=by
        cases hcc:G.contains c
        ·rfl
        ·rw[hcc]at h2;cases h2
       have em:[c].foldl jS G=G++[c]:=by
        show jS G c=_;unfold jS;rw[h2',ah VW]
       rw[em];refine⟨mt,_,rfl,Dt.k (k:=Sum.inl (c:Int)) z3 ?_,?_⟩
       ·unfold vU;rw[ay,aM];lia
       rw[Ob h2'];have l4:upd H'' mt (.dK (vU (G++[c]))) ls=some (.lst (bx G)):=ak z2 nml;refine⟨.inl ⟨rfl,_,cN.of l4⟩,WZ ls _ _ ⟨rfl,rfl,l4,?_,?_⟩⟩
       ·rw[cA,aM];lia
       rw[fJ];exact⟨_,rfl,aC,ak aC (bh nml),λb o e=>ak (ak (z4 b o e) (aq e fmt)) (aq e nls),ak (ak z5 nplm) npls⟩
      ·have h2':G.contains c=true:=by
        cases hcc:G.contains c
        ·exact absurd (by rw[hcc];rfl) h2
        ·rfl
       have em:[c].foldl jS G=G:=by
        show jS G c=_;unfold jS;rw[h2',ao rfl]
       rw[em];exact⟨_,rfl,z2,z3,z4,z5⟩
     ·rintro σ' H'' ⟨v5',z1,z2,z3,z4,z5⟩;rw[cA,cO,<-ef]at z2 z3;exact⟨v5',z1,z2,z3,z4⟩
    ·rintro σ' H'' ⟨v5',rfl,z2,z3,z4⟩;refine⟨_,rfl,_,_,rfl,rfl,v5',?_,z2,z3,z4⟩;show([_,_,_,_,some (V.int ((i:Int)+1)),_,_]:L2.St)=_;rfl
   ·have h1':i=l.length:=by
     have z:¬(i:Int)<((l.length:Nat):Int):=λz=>h1 (au z);lia
    rw[EG (s:=s0) (k:=s0.length+3-i) (i:=i) (l:=l) VX]at er;rw[er];exact⟨_,_,rfl,hl,sm,hL⟩
  ·rintro σ H' ⟨v4,v5,rfl,hl,sm,hL⟩;refine⟨ls,rfl,⟨_,cN.of hl⟩,λR nR=>?_⟩;have hLl:=hL.len;revert hl hL hLl;have eN:Vaprbg.nodes s0 d=(Vaprbg.reach s0 (s0.length+3) 0 [d]).filter λy=>decide (2<=y):=rfl;rw[eN]at q;revert q;generalize Vaprbg.reach s0 (s0.length+3) 0 [d]=G;intro q hl hL hLl;have fR:H R=none:=sm.no nR;have nRl:ls≠R:=aq hl nR;refine xU (xs:=bx G) (λj H''=>H'' R=some (.lst (bx ((G.take j).filter λy=>decide (2<=y))))/\bq H H''/\H'' ls=some (.lst (bx G))) ⟨aC,λb o e=>ak (sm b o e) (aq e fR),ak hl nRl⟩ (λj H'' _ z=>cN.of z.2.2) ?_ ?_
   ·rintro j y H'' hy ⟨z1,z2,z3⟩;unfold bx at hy;rw[aR]at hy;obtain⟨c,hc,rfl⟩:=Option.map_eq_some_iff.mp hy;obtain⟨hlt,hd'⟩:=List.getElem?_eq_some_iff.mp hc;have et:G.take (j+1)=G.take j++[c]:=by
     rw[bB hlt,hd']
    refine⟨rfl,?_⟩;refine c6 (λh2=>?_) λh2=>?_
    ·have h2':2<=c:=by
      have z:=aD h2;lia
     refine⟨_,z1,?_,?_,λb o e=>ak (z2 b o e) (aq e fR),ak z3 nRl⟩
     ·rw[cA,aM];have:=dj (λy=>decide (2<=y)) (G.take j);rw[cz]at this;lia
     ·rw[aC,fJ,et,gw,iJ,au h2',ao rfl];rfl
    ·have h2':¬2<=c:=λz=>h2 (au VX);refine⟨?_,z2,z3⟩;rw[et,gw,iJ,aQ h2',ah VW,List.filter_nil,bD];exact z1
   ·rintro H'' ⟨z1,z2,z3⟩;rw[cA,cO]at z1;exact q R H'' fR z1 z2
end
def DK(t:Ad):Sp:=λvs H Q _=>∃(x:Addr)(L:SA)(us:List Var)(s:c4)(D:SL),vs=[.ref x]/\fZ t H x L us s D/\∀l H',H l=none->H' l=some (.lst (bx ((List.range (2^us.length)).map λp=>tL us (bitsOf us.length p))))->bq H H'->Q (.ref l) H'
def DL(t:Ad):Sp:=λvs H Q _=>∃(x:Addr)(L:SA)(us:List Var)(s:c4)(D:SL)(tb:Nat)(f:Fn),vs=[.ref x,.int tb]/\fZ t H x L us s D/\s.length<=3000/\cu us.length f tb/\∀(a:Nat)(H':Hp),mkRat a (pre us us.length)=sumF us f->bq H H'->Q (.int a) H'
def Oc(K:PySem.W.Frag)(t:Ad):Sp:=λvs H Q _=>∃(x o:Addr)(L:SA)(us:List Var)(s:c4)(D:SL)(d:Nat)(p:List Nat),vs=[.ref x,.int d,.ref o]/\fZ t H x L us s D/\d<s.length+2/\cN K H o (bx p)/\Ord us.length p/\∀H',bq H H'->Q (.int ((build (λas=>says s d (arr p as)) us.length [] []).1.length:Nat)) H'
theorem Ab:∀(us:List Var)(ws:List Nat),(us.foldl iN ws).length=ws.length*2^us.length
 |[],ws=>by simp
 |v::us,ws=>by
  rw[vo,Ab us,aT,dM];have:(iN ws v).length=ws.length*2:=by
   unfold iN
   induction ws with
   |nil=>rfl
   |cons w ws ih=>
    rw[Ma,aE,ih];show 2+ws.length*2=(ws.length+1)*2;lia
  rw[this,Nat.mul_assoc,Dd 2]
theorem Jx(ws:List Nat)(w:Nat)(v:Var):iN (ws++[w]) v=iN ws v++[w*wB v false]++[w*wB v true]:=by
 unfold iN;rw[List.flatMap_append,bK];rfl
theorem Sr{n:Nat}{s e:c4}(w:WF n (s++e)):WF n s:=by
 refine⟨λi m h=>?_,?_⟩
 ·have hi:=(List.getElem?_eq_some_iff.mp h).1;refine Xb (λa b c d r1 r2=>?_) (w.nd i m (by rw[bO hi];exact h));rw[lb VX]at r1 r2;exact⟨a,b,c,d,r1,r2⟩
 ·exact(List.nodup_append.mp w.un).1
section
include T
theorem tM:dQ P w K mg base 1 t.jc ["self"] (DK t):=by
 refine T.kU.ok du (λvs H Q E h=>?_) (λcdv A outer s H vs Q E hr h=>?_)
 ·obtain⟨x,L,us,s0,D,rfl,_⟩:=h;rfl
 ·obtain⟨x,L,us,s0,D,rfl,hX,q⟩:=h;obtain⟨dx,ex⟩:=hX.ex;obtain⟨ps,ec,hpl,hpa⟩:=hX.ch;have hn:=hX.vb.le;refine⟨_,(ag (a9 (i:=1) du.nd rfl (Or.inl rfl) (cI (aa aK ai))) (ag (d5 (mr bN rfl (jt (Wp K (Wo 0) rfl)) (fu (i:=2) du.nd rfl (Or.inl rfl)) (ag (a9 (i:=3) du.nd rfl (Or.inl rfl) (cI ai)) (ag (d5 (mr bN rfl (jt (Wo 1)) (fu (i:=4) du.nd rfl (Or.inl rfl)) (ag (bw (jj bj bL bM dY (Wo 3) (aa (bI tU (Wo 4) (bI fO.j (bp (Ww K) (Wo 2) aK (λ_ _=>rfl)) (bp (Ww K) (Wo 2) aK (λ_ _=>rfl)))) ai))) (az (bw (jj bj bL bM dY (Wo 3) (aa (bI tU (Wo 4) (bp (Ww K) (Wo 2) aK (λ_ _=>rfl))) ai))))))) (az (a9 (i:=1) du.nd rfl (Or.inl rfl) (Wo 3))))))) (az (aX (Wo 1))))),?_⟩;refine⟨(by show 1<=sizeLine;rw[aM];decide),λw0 nw0=>?_⟩;have s1:bq H (upd H w0 (.lst [.int 1])):=λb o e=>ak e (aq e nw0);have l1:upd H w0 (.lst [.int 1]) w0=some (.lst (bx [1])):=aC;revert s1 l1;generalize upd H w0 (.lst [.int 1])=H1;intro s1 l1;have hlen:∀i,i<=us.length->((us.take i).foldl iN [1]).length<=4096:=λi hi=>by
   rw[Ab,fc,fY,cz];exact be (cZ VW VX) (qH hn)
  refine⟨λσ H'=>∃(wl:Addr)(v2 v3 v4:Option V),σ=[some (.ref x),some (.ref wl),v2,v3,v4]/\H wl=none/\H' wl=some (.lst (bx (us.foldl iN [1])))/\bq H H',?_,?_⟩
  ·refine⟨_,Wq (s1 _ _ ex) T.aw.cl (T.aw.no _ VW) rfl,L.cl,rfl,⟨_,cN.of (s1 _ _ ec)⟩,tT (xs:=ps.map V.ref) (λi σ H'=>∃(wl:Addr)(v2 v3 v4:Option V),σ=[some (.ref x),some (.ref wl),v2,v3,v4]/\H wl=none/\H' wl=some (.lst (bx ((us.take i).foldl iN [1])))/\bq H H') ⟨w0,none,none,none,rfl,nw0,l1,s1⟩ (λi σ H' _ z=>by obtain⟨_,_,_,_,_,_,_,z⟩:=z;exact cN.of (z _ _ ec)) ?_ ?_⟩
   ·rintro i y σ H' hy ⟨wl,v2,v3,v4,rfl,fwl,hwl,sm⟩;rw[aR]at hy;obtain⟨p,hp,rfl⟩:=Option.map_eq_some_iff.mp hy;have hi:i<us.length:=by
     have:=(List.getElem?_eq_some_iff.mp hp).1;lia
    obtain⟨v,hv⟩:∃v,us[i]?=some v:=⟨_,af hi⟩;have ep:=hpa i p v hp hv;obtain⟨k,ek,hk,hd0,hd9⟩:=hX.vb.num (bE hv);rw[ek]at ep;have hl1:=hlen i VX;have et:(us.take (i+1)).foldl iN [1]=iN ((us.take i).foldl iN [1]) v:=by
     obtain⟨hlt,hd'⟩:=List.getElem?_eq_some_iff.mp hv;rw[bB hlt,hd',L5];rfl
    have hl2:=hlen (i+1) VX;rw[et]at hl2⊢;generalize hG:(us.take i).foldl iN [1]=G at*
    have eB0:(v.chance.den:Int)-(k:Int)=((wB v false:Nat):Int):=by
     unfold wB;rw[ah VW,ek,bc];lia
    have eB1:(k:Int)=((wB v true:Nat):Int):=by
     unfold wB;rw[ao rfl,ek,bc]
    refine⟨(by show 0<=sizeLine;lia),λlg nlg=>?_⟩;have flg:H lg=none:=sm.no nlg;have nwg:wl≠lg:=aq hwl nlg;have s2:bq H (upd H' lg (.lst [])):=λb o e=>ak (sm b o e) (aq e flg);have g2:upd H' lg (.lst []) lg=some (.lst []):=aC;have w2:upd H' lg (.lst []) wl=some (.lst (bx G)):=ak hwl nwg;revert s2 g2 w2;generalize upd H' lg (.lst [])=H2;intro s2 g2 w2;refine⟨λσ' H''=>∃(v4:Option V),σ'=[some (.ref x),some (.ref wl),some (.ref p),some (.ref lg),v4]/\H'' lg=some (.lst (bx (iN G v)))/\bq H H'',?_,?_⟩
    ·refine⟨wl,rfl,⟨_,cN.of w2⟩,tT (xs:=bx G) (λj σ' H''=>∃(v4:Option V),σ'=[some (.ref x),some (.ref wl),some (.ref p),some (.ref lg),v4]/\H'' lg=some (.lst (bx (iN (G.take j) v)))/\H'' wl=some (.lst (bx G))/\bq H H'') ⟨v4,rfl,g2,w2,s2⟩ (λj σ' H'' _ z=>by obtain⟨_,_,_,z,_⟩:=z;exact cN.of z) ?_ ?_⟩
     ·rintro j y σ' H'' hy ⟨v4',rfl,z1,z2,z3⟩;unfold bx at hy;rw[aR]at hy;obtain⟨c,hc,rfl⟩:=Option.map_eq_some_iff.mp hy;obtain⟨hlt,hd'⟩:=List.getElem?_eq_some_iff.mp hc;have et2:G.take (j+1)=G.take j++[c]:=by
       rw[bB hlt,hd']
      have hz:(iN (G.take j) v).length<=10000:=by
       have:=Ab [v] (G.take j);simp only[vo,List.foldl_nil,fc]at this;rw[this,cz];lia
      rw[et2,Jx];generalize hS:iN (G.take j) v=S at*
      have ep2:=z3 _ _ ep;refine⟨.inl ⟨rfl,_,cN.of z1⟩,.int v.chance.den,Wt (iK.of ep2) rfl,.int k,Wt (iK.of ep2) rfl,_,_,rfl,rfl,.inr (by show-(2^64)<(v.chance.den:Int)-(k:Int)/\(v.chance.den:Int)-(k:Int)<2^64;lia),WZ lg _ _ ⟨rfl,rfl,z1,?_,?_⟩⟩
      ·rw[cA,aM];lia
      have e3:bx S++[V.int ((c:Int)*((v.chance.den:Int)-(k:Int)))]=bx (S++[c*wB v false]):=by
       rw[<-fJ,eB0,mn]
      show(_:Prop);have g3:upd H'' lg (.lst (bx S++[V.int ((c:Int)*((v.chance.den:Int)-(k:Int)))])) lg=some (.lst (bx (S++[c*wB v false]))):=by rw[aC,e3]
      have w3:upd H'' lg (.lst (bx S++[V.int ((c:Int)*((v.chance.den:Int)-(k:Int)))])) wl=some (.lst (bx G)):=ak z2 nwg;have s3:bq H (upd H'' lg (.lst (bx S++[V.int ((c:Int)*((v.chance.den:Int)-(k:Int)))]))):=λb o e=>ak (z3 b o e) (aq e flg);revert g3 w3 s3;generalize upd H'' lg (.lst (bx S++[V.int ((c:Int)*((v.chance.den:Int)-(k:Int)))]))=H3;intro g3 w3 s3;have ep3:=s3 _ _ (hpa i p v hp hv);rw[ek]at ep3;refine⟨.inl ⟨rfl,_,cN.of g3⟩,.int k,Wt (iK.of ep3) rfl,_,_,rfl,rfl,.inr (by show-(2^64)<(k:Int)/\(k:Int)<2^64;lia),WZ lg _ _ ⟨rfl,rfl,g3,?_,_,rfl,?_,ak w3 nwg,λb o e=>ak (s3 b o e) (aq e flg)⟩⟩
      ·rw[cA,aE,fc,aM];lia
      ·rw[aC];show some (HO.lst (bx (S++[c*wB v false])++[V.int ((c:Int)*(k:Int))]))=_;rw[<-fJ (S++[c*wB v false]),mn,<-eB1]
     ·rintro σ' H'' ⟨v4',z0,z1,z2,z3⟩;rw[cA,cO]at z1;exact⟨v4',z0,z1,z3⟩
    ·rintro σ' H'' ⟨v4',rfl,z1,z3⟩;exact WY lg _ _ _ ⟨rfl,flg,z1,z3⟩
   ·rintro σ H' ⟨wl,v2,v3,v4,z0,z1,z2,z3⟩;rw[ay,hpl,cO]at z2;exact⟨wl,v2,v3,v4,z0,z1,z2,z3⟩
  ·rintro σ H' ⟨wl,v2,v3,v4,rfl,z1,z2,z3⟩;rw[Hj]at z2;exact q wl H' z1 z2 z3
theorem tN:dQ P w K mg base 17 t.jb ["self","table"] (DL t):=by
 refine T.kS.ok d7 (λvs H Q E h=>?_) (λcdv A outer s H vs Q E hr h=>?_)
 ·obtain⟨x,L,us,s0,D,tb,f,rfl,_⟩:=h;rfl
 ·obtain⟨x,L,us,s0,D,tb,f,rfl,hX,hz,hf,q⟩:=h;have hn:=hX.vb.le;obtain⟨dx,ex⟩:=hX.ex;obtain⟨dxs,es⟩:=hX.vx;have hb:=vf hn f us.length [] s0 hX.wf (by simp);refine⟨_,(ag (a9 (i:=2) d7.nd rfl (Or.inl rfl) (oj (pI T) T.bT.lM T.bT.ma (hr.mono VW) bF (aa (Wp K (Wo 0) rfl) (aa (Wp K (Wp K (Wo 0) rfl) rfl) ai)))) (ag (a9 (i:=3) d7.nd rfl (Or.inl rfl) (bR (iz T us.length) T.bT.cl T.fA (hr.mono VX) bF (Wo 2) (aa aK (aa (Wo 1) ai)))) (ag (a9 (i:=4) d7.nd rfl (Or.inl rfl) (j1 xR rfl T.GQ pQ (aa (Wp K (Wo 0) rfl) ai))) (ag (d5 (J0 (mr bN rfl (J1 (Wp K (Wo 2) rfl)) (fu (i:=5) d7.nd rfl (Or.inl rfl)) (az (bw (jj bj bL bM dY (Wo 4) (aa (bR (jY T) T.aw.cl T.ia (hr.mono VW) bF (Wo 0) (aa (Wo 5) (aa (Wo 4) ai))) ai))))))) (az (aX (bp (Wr K) (Wo 4) (Wo 3) (λ_ _=>rfl)))))))),?_⟩;refine⟨_,Wq ex T.aw.cl (T.aw.no _ VW) rfl,_,Wq ex T.aw.cl (T.aw.no _ VW) rfl,_,Wq es T.bg.cl (T.bg.no _ VW) rfl,λdr ddx ndr nddx nne=>?_⟩;have s1:bq H (upd (upd H ddx (.own dr)) dr (.ins t.cT ddx [])):=bq.made ndr nddx λb o e _=>e;refine W1 dr ddx L.nd us.length s0 ⟨rfl,aC,s1 _ _ hX.Jt,λfd kd H2 nfd nkd hD2 kp2=>?_⟩;have s2:bq H H2:=bq.made ndr nddx kp2;obtain⟨ddx2,ed2⟩:=hD2.ex;have p12:2^us.length<=4096:=qH hn;refine⟨rfl,Ws ed2 rfl,dr,L.nd,fd,kd,us.length,0,tb,s0,[],[],f,[],rfl,VX,hn,rfl,hf,hD2,(λa p d h=>nomatch h),by simp;lia,by simp;lia,λd nw kn H3 hbd hD3 hK3 g1 g2 g3 k3=>?_⟩;rw[bD]at hbd;rw[hbd]at hb;dsimp only at hb;have nfd:=s1.no nfd;have nkd:=s1.no nkd;have s3:bq H H3:=k3.same s2 λb hb=>by
   simp at hb;rcases hb with rfl|rfl
   ·exact nfd
   ·exact nkd
  have hX3:=hX.same s3;obtain⟨dx3,ex3⟩:=hX3.ex;obtain⟨ddx3,ed3⟩:=hD3.ex;have hnw:nw.length<=4096:=by
   simp at g1;lia
  refine⟨_,Wq ex3 T.aw.cl (T.aw.no _ VW) rfl,L.wl,_,rfl,.inl (cN.of hX3.HQ),λwn nwn=>?_⟩;have fwn:H wn=none:=s3.no nwn;have s4:bq H3 (upd H3 wn (.lst (bx D.ws))):=λb o e=>ak e (aq e nwn);have w4:upd H3 wn (.lst (bx D.ws)) wn=some (.lst (bx D.ws)):=aC;have hD4:=hD3.fr;have nwf:wn≠fd:=bh (aq hD3.fr nwn);have fr4:=s4 _ _ hD3.fr;have ed4:=s4 _ _ ed3;have s04:=s3.trans s4;revert s4 w4 fr4 ed4 s04;generalize upd H3 wn (.lst (bx D.ws))=H4;intro s4 w4 fr4 ed4 s04;refine⟨λσ H'=>∃(ws':List Nat)(v5:Option V),σ=[some (.ref x),some (.int tb),some (.ref dr),some (.int d),some (.ref wn),v5]/\H' wn=some (.lst (bx ws'))/\nF us (s0++nw) ws'/\bq H H',⟨fd,_,fr4,trivial,λod=>?_⟩,?_⟩
  ·have kf:Kp fd H4 (upd H4 fd (.j0 od (.dT (kvsOf s0.length nw)))):=Kp.upd;have hf5:upd H4 fd (.j0 od (.dT (kvsOf s0.length nw))) fd=some (.j0 od (.dT (kvsOf s0.length nw))):=aC;have ed5:upd H4 fd (.j0 od (.dT (kvsOf s0.length nw))) dr=some (.ins t.cT ddx3 (Sl L.nd us.length fd kd)):=kf _ _ ed4 (cn ed4 fr4 λz=>nomatch z);have w5:=kf _ _ w4 nwf;have s5:bq H (upd H4 fd (.j0 od (.dT (kvsOf s0.length nw)))):=λb o e=>kf _ _ (s04 _ _ e) (aq e nfd);revert kf hf5 ed5 w5 s5;generalize upd H4 fd (.j0 od (.dT (kvsOf s0.length nw)))=H5;intro kf hf5 ed5 w5 s5;refine⟨_,Wq ed5 T.bT.cl (T.bT.no _ VW) rfl,fd,od,rfl,.inr ⟨_,hf5,λi m σ H'=>m=nw.length-i/\i<=nw.length/\∃(ws':List Nat)(v5:Option V),σ=[some (.ref x),some (.int tb),some (.ref dr),some (.int d),some (.ref wn),v5]/\H' wn=some (.lst (bx ws'))/\nF us (s0++nw.take i) ws'/\bq H H'/\H' fd=some (.j0 od (.dT (kvsOf s0.length nw))),⟨_,rfl,br _,D.ws,none,rfl,w5,by rw[List.take_zero,bD];exact hX.wa,s5,hf5⟩,?_⟩⟩;rintro i m σ H' ⟨rfl,hi,ws',v5,rfl,hw',hW',sm',hf'⟩;by_cases hin:i=nw.length
   ·subst hin;rw[cO]at hW';exact .inl ⟨⟨hf',by rw[fC];exact aH _⟩,hf',ws',v5,rfl,ak hw' nwf,hW',λb o e=>ak (sm' b o e) (aq e nfd)⟩
   ·refine .inr ⟨⟨hf',by rw[fC];lia⟩,λσ' H''=>∃(ws':List Nat)(v5:Option V),σ'=[some (.ref x),some (.int tb),some (.ref dr),some (.int d),some (.ref wn),v5]/\H'' wn=some (.lst (bx ws'))/\nF us (s0++nw.take (i+1)) ws'/\bq H H''/\H'' fd=some (.j0 od (.dT (kvsOf s0.length nw))),?_,?_⟩
    ·rintro σ' H'' ⟨ws',v5,z⟩;exact⟨nw.length-(i+1),VX,rfl,VX,ws',v5,z⟩
    ·rintro y H'' ⟨rfl,k,v,qa,hkv,rfl,hqa⟩;obtain⟨m,hm,rfl⟩:=CP hkv;rw[Ji]at hqa;have hX':=hX.same sm';obtain⟨dx',ex'⟩:=hX'.ex;have hp:=Hr hb.1 hm;have et:nw.take (i+1)=nw.take i++[m]:=by
      obtain⟨hlt,hd'⟩:=List.getElem?_eq_some_iff.mp hm;rw[bB hlt,hd']
     obtain⟨vv,hv⟩:∃v,us[m.var]?=some v:=⟨_,af hp.v⟩;obtain⟨wh,hwh⟩:∃a,ws'[m.hi]?=some a:=⟨_,af (by rw[hW'.len];exact hp.h)⟩;obtain⟨wlo,hwl⟩:∃a,ws'[m.lo]?=some a:=⟨_,af (by rw[hW'.len];exact hp.l)⟩;have hwf:WF us.length (s0++nw.take i):=by
      have e:s0++nw=(s0++nw.take i)++nw.drop i:=by rw[bK,jO]
      have:=hb.1;rw[e]at this;exact Sr this
     refine⟨.inl ⟨rfl,_,cN.of hw'⟩,Ws ex' rfl,W4 x qa dx' wn L us m vv ws' wlo wh ⟨rfl,ex',hqa,hX'.ch,hw',hX.vb,hv,hwl,hwh,WZ wn _ _ ⟨rfl,rfl,hw',?_,?_⟩⟩⟩
     ·rw[cA,hW'.len,aE,cz,aM];lia
     rw[fJ];refine⟨_,_,rfl,aC,?_,λb o e=>ak (sm' b o e) (aq e fwn),ak hf' (bh nwf)⟩;rw[et,<-bK];exact hW'.put hwf hX.vb hp hv hwl hwh
  ·rintro σ H' ⟨ws',v5,rfl,hw',hW',sm'⟩;obtain⟨a,ha⟩:∃a,ws'[d]?=some a:=⟨_,af (by rw[hW'.len];exact hb.2.1)⟩;refine⟨.int (a:Nat),Wt (cN.of hw') (cx (dA ha)),q a H' ?_ sm'⟩;rw[(hW'.ok d a ha).ch,He hb.1 hn];exact nE λas has=>hb.2.2.2 as has
theorem Ac:dQ P w K mg base 17 t.pA ["self","diagram","order"] (Oc K t):=by
 refine T.sS.ok p8 (λvs H Q E h=>?_) (λcdv A outer s H vs Q E hr h=>?_)
 ·revert h;refine W7 λx o L us=>W7 λs0 D d p=>W9 λe0_ _=>?_;subst e0_;rfl
 ·revert h;refine W7 λx o L us=>W7 λs0 D d p=>Xb λe0_ hX hd hO ho q=>?_;subst e0_;have hn:=hX.vb.le;obtain⟨dx,ex⟩:=hX.ex;obtain⟨dxs,es⟩:=hX.vx;refine⟨_,(ag (a9 (i:=3) p8.nd rfl (Or.inl rfl) (oj (pI T) T.bT.lM T.bT.ma (hr.mono VW) bF (aa xW (aa (Wp K (Wp K (Wo 0) rfl) rfl) ai)))) (ag (bw (bR (iz T us.length) T.bT.cl T.fA (hr.mono VX) bF (Wo 3) (aa aK (aa (bR (xE T) T.bg.cl T.ow (hr.mono VW) bF (Wp K (Wo 0) rfl) (aa (bp (Wr K) (Wp K (Wo 0) rfl) (Wo 1) (λ_ _=>rfl)) (aa (Wo 2) ai))) ai)))) (az (aX (b6 pY rfl T.gP bf (aa (Wp K (Wo 3) rfl) ai)))))),?_⟩;intro ed ned;have s0':bq H (upd H ed (.dT [])):=λb o e=>ak e (aq e ned);have e0:upd H ed (.dT []) ed=some (.dT (kvsOf 0 [])):=aC;revert s0' e0;generalize upd H ed (.dT [])=H0;intro s0' e0;refine⟨_,Wq (s0' _ _ ex) T.aw.cl (T.aw.no _ VW) rfl,_,Wq (s0' _ _ es) T.bg.cl (T.bg.no _ VW) rfl,λdr ddx ndr nddx nne=>?_⟩;have s1:bq H0 (upd (upd H0 ddx (.own dr)) dr (.ins t.cT ddx [])):=bq.made ndr nddx λb o e _=>e;refine⟨dr,ddx,ed,us.length,[],rfl,aC,s1 _ _ e0,λfd kd H2 nfd nkd hD2 kp2=>?_⟩;have s2:bq H0 H2:=bq.made ndr nddx kp2;have s02:=s0'.trans s2;have hX2:=hX.same s02;obtain⟨dx2,ex2⟩:=hX2.ex;obtain⟨dxs2,es2⟩:=hX2.vx;obtain⟨ddx2,ed2⟩:=hD2.ex;obtain⟨a,ha⟩:∃a,D.tb[d]?=some a:=⟨_,af (by rw[hX.ta.len];exact hd)⟩;have hta:=hX.ta.ok d a ha;have p12:2^us.length<=4096:=qH hn;refine⟨rfl,Ws ed2 rfl,_,Wq ex2 T.aw.cl (T.aw.no _ VW) rfl,Ws es2 rfl,_,Wq ex2 T.aw.cl (T.aw.no _ VW) rfl,.int (a:Nat),Wt (cN.of hX2.xK) (cx (dA ha)),W0 L.sp o us.length a _ p ⟨rfl,hX2.sc,s02.seq hO,ho,hta,λu H3 hu s3=>?_⟩⟩;have hD3:=hD2.same s3;refine⟨dr,ed,fd,kd,us.length,0,u,[],[],[],(λas=>says s0 d (arr p as)),[],rfl,VX,hn,rfl,hu,hD3,(λa p d h=>nomatch h),by simp;lia,by simp;lia,λd' nw kn H4 hbd hD4 hK4 g1 g2 g3 k4=>?_⟩;obtain⟨ddx4,ed4⟩:=hD4.ex;have f1:H0 fd=none:=s1.no nfd;have f2:H0 kd=none:=s1.no nkd;have s4:bq H H4:=k4.same (s02.trans s3) λb hb=>by
   simp at hb;rcases hb with rfl|rfl
   ·exact s0'.no f1
   ·exact s0'.no f2
  refine⟨_,Wq ed4 T.bT.cl (T.bT.no _ VW) rfl,fd,_,rfl,hD4.fr,?_⟩;rw[fC];have e:=bJ (λz=>z.1.length) hbd;rw[bD,Dl]at e;have e':nw.length=(build (λas=>says s0 d (arr p as)) us.length [] []).1.length:=e.symm;rw[e'];exact q H4 s4
end
open Vaprbg(Answer State index made making withOne withVar)
theorem Due.same{t:Ad}{H H1:Hp}{x:Addr}{L:SA}{us:List Var}{r:State×Answer}{Q:VK}{E:XK}(h:Due t H x L us r Q E)(s:bq H H1):Due t H1 x L us r Q E:=by
 unfold Due at h⊢;by_cases hv:r.2.value<0
 ·rw[ao hv]at h⊢;exact h.same s
 ·rw[ah hv]at h⊢;exact λal D' H' hf hX ha k=>h al D' H' (s.no hf) hX ha ((gc.of s).trans k)
def jZ(t:Ad)(n:Nat)(g:List Int->State->State×Answer):Sp:=λvs H Q E=>∃(x:Addr)(L:SA)(us:List Var)(s:c4)(D:SL)(is:List Int),is.length=n/\vs= .ref x::is.map V.int/\fZ t H x L us s D/\s.length<=3000/\Due t H x L us (g is ⟨us,s⟩) Q E
theorem xC.get{n:Nat}{s:c4}{tbs:List Nat}(h:xC n s tbs){d:Nat}(hd:d<s.length+2):∃tb,Dr (bx tbs) (d:Int)=some (.int (tb:Nat))/\cu n (λas=>says s d as) tb:=by
 obtain⟨a,ha⟩:∃a,tbs[d]?=some a:=⟨_,af (by rw[h.len];exact hd)⟩;exact⟨a,cx (dA ha),h.ok d a ha⟩
noncomputable def Ud:List Int->State->State×Answer
 |[i],s=>making s (.not i)
 |_,s=>(s,Vaprbg.refused (-1))
noncomputable def KG:List Int->State->State×Answer
 |[i,j,k],s=>making s (.choose i j k)
 |_,s=>(s,Vaprbg.refused (-1))
noncomputable def Q2:List Int->State->State×Answer
 |[k,i,j],s=>making s (.both k i j)
 |_,s=>(s,Vaprbg.refused (-1))
noncomputable def Ue:List Int->State->State×Answer
 |[i,v,b],s=>making s (.set i v b)
 |_,s=>(s,Vaprbg.refused (-1))
noncomputable def Q3:List Int->State->State×Answer
 |[i,v],s=>making s (.some_ i v)
 |_,s=>(s,Vaprbg.refused (-1))
noncomputable def Od:List Int->State->State×Answer
 |[i,v],s=>making s (.every i v)
 |_,s=>(s,Vaprbg.refused (-1))
noncomputable def Ug:List Int->State->State×Answer
 |[i,v,j],s=>making s (.put i v j)
 |_,s=>(s,Vaprbg.refused (-1))
section
include T
theorem DM:dQ P w K mg base 18 t.xj ["store","diagram"] (jZ t 1 Ud):=by
 refine T.yn.ok DA (λvs H Q E h=>?_) (λcdv A outer s H vs Q E hr h=>?_)
 ·obtain⟨x,L,us,s0,D,is,hl,rfl,_⟩:=h;simp[hl]
 ·obtain⟨x,L,us,s0,D,is,hl,rfl,hX,hz,q⟩:=h;obtain⟨i,rfl⟩:=WR hl;obtain⟨dx,ex⟩:=hX.ex;obtain⟨dxs,es⟩:=hX.vx;refine⟨_,(ag (bw (bR (a5 T) T.aw.cl T.a7 (hr.mono VW) aS.passes (Wo 0) (aa (Wo 1) ai))) (az (aX (cI (aa (bR (dB T) T.aw.cl T.dC (hr.mono VW) aS.passes (Wo 0) (aa (bR (ie T) T.bg.cl T.gF (hr.mono VW) bF (Wp K (Wo 0) rfl) (aa (bp (Wr K) (Wp K (Wo 0) rfl) (Wo 1) (λ_ _=>rfl)) ai)) ai)) ai))))),?_⟩;unfold Ud making withOne Vaprbg.diagram at q;dsimp only at q;refine⟨Ws ex rfl,W0 x L us s0 D i ⟨rfl,hX,?_⟩⟩;cases hi:index i (s0.length+2)with
  |none=>
   rw[hi]at q;exact(cC q VW).r2 rfl
  |some d=>
   rw[hi]at q;obtain⟨rfl,hd⟩:=cw hi;obtain⟨a,ea,ta⟩:=hX.ta.get hd;exact⟨Ws ex rfl,_,Wq ex T.aw.cl (T.aw.no _ VW) rfl,Ws es rfl,_,Wq ex T.aw.cl (T.aw.no _ VW) rfl,_,Wt (cN.of hX.xK) ea,WZ L.sp us.length a ⟨rfl,hX.sc,W2 x L us s0 D _ _ ⟨rfl,hX,hz,ta.other,iO q⟩⟩⟩
theorem Ae:dQ P w K mg base 18 t.pq ["store","asked","yes","no"] (jZ t 3 KG):=by
 refine T.sL.ok zE (λvs H Q E h=>?_) (λcdv A outer s H vs Q E hr h=>?_)
 ·obtain⟨x,L,us,s0,D,is,hl,rfl,_⟩:=h;simp[hl]
 ·obtain⟨x,L,us,s0,D,is,hl,rfl,hX,hz,q⟩:=h;obtain⟨i,j,k,rfl⟩:=WU hl;obtain⟨dx,ex⟩:=hX.ex;obtain⟨dxs,es⟩:=hX.vx;refine⟨_,(ag (bw (bR (a5 T) T.aw.cl T.a7 (hr.mono VW) aS.passes (Wo 0) (aa (Wo 1) ai))) (ag (bw (bR (a5 T) T.aw.cl T.a7 (hr.mono VW) aS.passes (Wo 0) (aa (Wo 2) ai))) (ag (bw (bR (a5 T) T.aw.cl T.a7 (hr.mono VW) aS.passes (Wo 0) (aa (Wo 3) ai))) (az (aX (cI (aa (bR (dB T) T.aw.cl T.dC (hr.mono VW) aS.passes (Wo 0) (aa (bR (iV T) T.bg.cl T.hZ (hr.mono VW) bF (Wp K (Wo 0) rfl) (aa (bp (Wr K) (Wp K (Wo 0) rfl) (Wo 1) (λ_ _=>rfl)) (aa (bp (Wr K) (Wp K (Wo 0) rfl) (Wo 2) (λ_ _=>rfl)) (aa (bp (Wr K) (Wp K (Wo 0) rfl) (Wo 3) (λ_ _=>rfl)) ai)))) ai)) ai))))))),?_⟩;unfold KG making withOne Vaprbg.diagram at q;dsimp only at q;refine⟨Ws ex rfl,W0 x L us s0 D i ⟨rfl,hX,?_⟩⟩;cases hi:index i (s0.length+2)with
  |none=>
   rw[hi]at q;exact(cC q VW).r2 rfl
  |some c=>
   rw[hi]at q;dsimp only at q;obtain⟨rfl,lc⟩:=cw hi;refine⟨Ws ex rfl,W0 x L us s0 D j ⟨rfl,hX,?_⟩⟩;cases hj:index j (s0.length+2)with
   |none=>
    rw[hj]at q;exact(cC q VW).r2 rfl
   |some d=>
    rw[hj]at q;dsimp only at q;obtain⟨rfl,ld⟩:=cw hj;refine⟨Ws ex rfl,x,L,us,s0,D,k,rfl,hX,?_⟩;cases hk:index k (s0.length+2)with
    |none=>
     rw[hk]at q;exact(cC q VW).r2 rfl
    |some e=>
     rw[hk]at q;dsimp only at q;obtain⟨rfl,le⟩:=cw hk;obtain⟨a,ea,ta⟩:=hX.ta.get lc;obtain⟨b,eb,tb⟩:=hX.ta.get ld;obtain⟨c',ec,tc⟩:=hX.ta.get le;exact⟨Ws ex rfl,_,Wq ex T.aw.cl (T.aw.no _ VW) rfl,Ws es rfl,_,Wq ex T.aw.cl (T.aw.no _ VW) rfl,_,Wt (cN.of hX.xK) ea,_,Wq ex T.aw.cl (T.aw.no _ VW) rfl,_,Wt (cN.of hX.xK) eb,_,Wq ex T.aw.cl (T.aw.no _ VW) rfl,_,Wt (cN.of hX.xK) ec,W1 L.sp us.length a b c' ⟨rfl,hX.sc,W2 x L us s0 D _ _ ⟨rfl,hX,hz,ta.FK tb tc,iO q⟩⟩⟩
theorem DN:dQ P w K mg base 18 t.xk ["store","diagram","variable","truth"] (jZ t 3 Ue):=by
 refine T.yp.ok DB (λvs H Q E h=>?_) (λcdv A outer s H vs Q E hr h=>?_)
 ·obtain⟨x,L,us,s0,D,is,hl,rfl,_⟩:=h;simp[hl]
 ·obtain⟨x,L,us,s0,D,is,hl,rfl,hX,hz,q⟩:=h;obtain⟨i,v,b,rfl⟩:=WU hl;obtain⟨dx,ex⟩:=hX.ex;obtain⟨dxs,es⟩:=hX.vx;refine⟨_,(ag (bw (bR (a5 T) T.aw.cl T.a7 (hr.mono VW) aS.passes (Wo 0) (aa (Wo 1) ai))) (ag (bw (bR (eL T) T.aw.cl T.dS (hr.mono VW) aS.passes (Wo 0) (aa (Wo 2) ai))) (ag (cj (Wv ju (Wo 3) (qV (aa aK (aa aK ai))) (by with_unfolding_all rfl)) (az (ly (dw T) T.bV.lM T.bV.ma (hr.mono VW) aS)) bo) (az (aX (cI (aa (bR (dB T) T.aw.cl T.dC (hr.mono VW) aS.passes (Wo 0) (aa (bR (fj T) T.bg.cl T.eV (hr.mono VW) bF (Wp K (Wo 0) rfl) (aa (bp (Wr K) (Wp K (Wo 0) rfl) (Wo 1) (λ_ _=>rfl)) (aa (Wo 2) (aa (Wo 3) ai)))) ai)) ai))))))),?_⟩;unfold Ue making withOne withVar Vaprbg.diagram at q;dsimp only at q;refine⟨Ws ex rfl,W0 x L us s0 D i ⟨rfl,hX,?_⟩⟩;cases hi:index i (s0.length+2)with
  |none=>
   rw[hi]at q;exact(cC q VW).r2 rfl
  |some d=>
   rw[hi]at q;dsimp only at q;obtain⟨rfl,ld⟩:=cw hi;refine⟨Ws ex rfl,W0 x L us s0 D v ⟨rfl,hX,?_⟩⟩;cases hv:index v (us.length)with
   |none=>
    rw[hv]at q;exact(cC q VW).r5 rfl
   |some u=>
    rw[hv]at q;dsimp only at q;obtain⟨rfl,lu⟩:=cw hv;have hin:(!JU (.int b) [.int 0,.int 1])=true↔¬(b=0\/b=1):=by
     have e:JU (.int b) [.int 0,.int 1]=(decide (b=0)||decide (b=1)):=by
      unfold JU;have h:∀k:Int,HN (.int k) (.int b)=decide (b=k):=λk=>by
       show decide (k=b)=_;by_cases z:k=b
       ·rw[au z,au z.symm]
       ·rw[aQ z,aQ (λq=>z q.symm)]
      simp[h]
     rw[e];simp
    refine⟨(by show 2<=sizeLine;rw[aM];decide),λpb npb=>⟨pb,_,rfl,.inr (iK.of aC),rfl,rfl,?_⟩⟩;have s1:bq H (upd H pb (.tup [.int 0,.int 1])):=λc o e=>ak e (aq e npb);rw[ao rfl];refine c6 (λh1=>?_) λh1=>?_
    ·rw[ah (hin.mp h1)]at q;exact cM (us:=[]) rfl (by show 0<=1000;decide) (((cC q VW).r5 rfl).same s1)
    ·have hb:b=0\/b=1:=eW λz=>h1 (hin.mpr z);rw[ao hb]at q;have q1:Due t (upd H pb (.tup [.int 0,.int 1])) x L us (made ⟨us,s0⟩ λas=>says s0 d (Vaprbg.setAt as u (b==1))) Q E:=q.same s1;revert q1;have hX1:=hX.same s1;revert hX1;generalize upd H pb (.tup [.int 0,.int 1])=H1;intro hX1 q1;obtain⟨dx1,ex1⟩:=hX1.ex;obtain⟨dxs1,vl1,vts1,es1,hV1⟩:=hX1.sc.ex;obtain⟨a,ea,ta⟩:=hX.ta.get ld;have eb:b=((b==1).toNat:Int):=by rcases hb with rfl|rfl<;>rfl
     exact⟨Ws ex1 rfl,_,Wq ex1 T.aw.cl (T.aw.no _ VW) rfl,Ws es1 rfl,_,Wq ex1 T.aw.cl (T.aw.no _ VW) rfl,_,Wt (cN.of hX1.xK) ea,WY L.sp us.length a u ⟨(b==1),_,by show[V.ref L.sp,V.int a,V.int u,V.int b]=_;rw[<-eb],hX1.sc,lu,ta,λr hr'=>⟨x,L,us,s0,D,r,_,rfl,hX1,hz,hr',iO q1⟩⟩⟩
theorem CQ:dQ P w K mg base 18 t.uv ["store","diagram","variable"] (jZ t 2 Q3):=by
 refine T.wo.ok ug (λvs H Q E h=>?_) (λcdv A outer s H vs Q E hr h=>?_)
 ·obtain⟨x,L,us,s0,D,is,hl,rfl,_⟩:=h;simp[hl]
 ·obtain⟨x,L,us,s0,D,is,hl,rfl,hX,hz,q⟩:=h;obtain⟨i,v,rfl⟩:=WT hl;obtain⟨dx,ex⟩:=hX.ex;obtain⟨dxs,es⟩:=hX.vx;refine⟨_,(ag (bw (bR (a5 T) T.aw.cl T.a7 (hr.mono VW) aS.passes (Wo 0) (aa (Wo 1) ai))) (ag (bw (bR (eL T) T.aw.cl T.dS (hr.mono VW) aS.passes (Wo 0) (aa (Wo 2) ai))) (ag (a9 (i:=3) ug.nd rfl (Or.inl rfl) (bp (Wr K) (Wp K (Wo 0) rfl) (Wo 1) (λ_ _=>rfl))) (az (aX (cI (aa (bR (dB T) T.aw.cl T.dC (hr.mono VW) aS.passes (Wo 0) (aa (bI pG (bR (fj T) T.bg.cl T.eV (hr.mono VW) bF (Wp K (Wo 0) rfl) (aa (Wo 3) (aa (Wo 2) (aa aK ai)))) (bR (fj T) T.bg.cl T.eV (hr.mono VW) bF (Wp K (Wo 0) rfl) (aa (Wo 3) (aa (Wo 2) (aa aK ai))))) ai)) ai))))))),?_⟩;unfold Q3 making withOne withVar Vaprbg.diagram at q;dsimp only at q;refine⟨Ws ex rfl,W0 x L us s0 D i ⟨rfl,hX,?_⟩⟩;cases hi:index i (s0.length+2)with
  |none=>
   rw[hi]at q;exact(cC q VW).r2 rfl
  |some d=>
   rw[hi]at q;dsimp only at q;obtain⟨rfl,ld⟩:=cw hi;refine⟨Ws ex rfl,W0 x L us s0 D v ⟨rfl,hX,?_⟩⟩;cases hv:index v (us.length)with
   |none=>
    rw[hv]at q;exact(cC q VW).r5 rfl
   |some u=>
    rw[hv]at q;dsimp only at q;obtain⟨rfl,lu⟩:=cw hv;obtain⟨a,ea,ta⟩:=hX.ta.get ld;refine⟨_,Wq ex T.aw.cl (T.aw.no _ VW) rfl,_,Wt (cN.of hX.xK) ea,?_⟩;exact⟨Ws ex rfl,_,Wq ex T.aw.cl (T.aw.no _ VW) rfl,Ws es rfl,W0 L.sp us.length a u false _ ⟨rfl,hX.sc,lu,ta,λr1 h1=>⟨_,Wq ex T.aw.cl (T.aw.no _ VW) rfl,Ws es rfl,W0 L.sp us.length a u true _ ⟨rfl,hX.sc,lu,ta,λr2 h2=>⟨r1,r2,rfl,rfl,W2 x L us s0 D _ _ ⟨rfl,hX,hz,h1.or h2,iO q⟩⟩⟩⟩⟩⟩
theorem A3:dQ P w K mg base 18 t.rL ["store","diagram","variable"] (jZ t 2 Od):=by
 refine T.uL.ok sv (λvs H Q E h=>?_) (λcdv A outer s H vs Q E hr h=>?_)
 ·obtain⟨x,L,us,s0,D,is,hl,rfl,_⟩:=h;simp[hl]
 ·obtain⟨x,L,us,s0,D,is,hl,rfl,hX,hz,q⟩:=h;obtain⟨i,v,rfl⟩:=WT hl;obtain⟨dx,ex⟩:=hX.ex;obtain⟨dxs,es⟩:=hX.vx;refine⟨_,(ag (bw (bR (a5 T) T.aw.cl T.a7 (hr.mono VW) aS.passes (Wo 0) (aa (Wo 1) ai))) (ag (bw (bR (eL T) T.aw.cl T.dS (hr.mono VW) aS.passes (Wo 0) (aa (Wo 2) ai))) (ag (a9 (i:=3) sv.nd rfl (Or.inl rfl) (bp (Wr K) (Wp K (Wo 0) rfl) (Wo 1) (λ_ _=>rfl))) (az (aX (cI (aa (bR (dB T) T.aw.cl T.dC (hr.mono VW) aS.passes (Wo 0) (aa (bI iU (bR (fj T) T.bg.cl T.eV (hr.mono VW) bF (Wp K (Wo 0) rfl) (aa (Wo 3) (aa (Wo 2) (aa aK ai)))) (bR (fj T) T.bg.cl T.eV (hr.mono VW) bF (Wp K (Wo 0) rfl) (aa (Wo 3) (aa (Wo 2) (aa aK ai))))) ai)) ai))))))),?_⟩;unfold Od making withOne withVar Vaprbg.diagram at q;dsimp only at q;refine⟨Ws ex rfl,W0 x L us s0 D i ⟨rfl,hX,?_⟩⟩;cases hi:index i (s0.length+2)with
  |none=>
   rw[hi]at q;exact(cC q VW).r2 rfl
  |some d=>
   rw[hi]at q;dsimp only at q;obtain⟨rfl,ld⟩:=cw hi;refine⟨Ws ex rfl,W0 x L us s0 D v ⟨rfl,hX,?_⟩⟩;cases hv:index v (us.length)with
   |none=>
    rw[hv]at q;exact(cC q VW).r5 rfl
   |some u=>
    rw[hv]at q;dsimp only at q;obtain⟨rfl,lu⟩:=cw hv;obtain⟨a,ea,ta⟩:=hX.ta.get ld;refine⟨_,Wq ex T.aw.cl (T.aw.no _ VW) rfl,_,Wt (cN.of hX.xK) ea,?_⟩;exact⟨Ws ex rfl,_,Wq ex T.aw.cl (T.aw.no _ VW) rfl,Ws es rfl,W0 L.sp us.length a u false _ ⟨rfl,hX.sc,lu,ta,λr1 h1=>⟨_,Wq ex T.aw.cl (T.aw.no _ VW) rfl,Ws es rfl,W0 L.sp us.length a u true _ ⟨rfl,hX.sc,lu,ta,λr2 h2=>⟨r1,r2,rfl,rfl,W2 x L us s0 D _ _ ⟨rfl,hX,hz,h1.and h2,iO q⟩⟩⟩⟩⟩⟩
theorem DO:dQ P w K mg base 18 t.xl ["store","diagram","variable","inner"] (jZ t 3 Ug):=by
 refine T.yr.ok kF (λvs H Q E h=>?_) (λcdv A outer s H vs Q E hr h=>?_)
 ·obtain⟨x,L,us,s0,D,is,hl,rfl,_⟩:=h;simp[hl]
 ·obtain⟨x,L,us,s0,D,is,hl,rfl,hX,hz,q⟩:=h;obtain⟨i,v,j,rfl⟩:=WU hl;obtain⟨dx,ex⟩:=hX.ex;obtain⟨dxs,es⟩:=hX.vx;refine⟨_,(ag (bw (bR (a5 T) T.aw.cl T.a7 (hr.mono VW) aS.passes (Wo 0) (aa (Wo 1) ai))) (ag (bw (bR (eL T) T.aw.cl T.dS (hr.mono VW) aS.passes (Wo 0) (aa (Wo 2) ai))) (ag (bw (bR (a5 T) T.aw.cl T.a7 (hr.mono VW) aS.passes (Wo 0) (aa (Wo 3) ai))) (ag (a9 (i:=4) kF.nd rfl (Or.inl rfl) (bp (Wr K) (Wp K (Wo 0) rfl) (Wo 1) (λ_ _=>rfl))) (ag (a9 (i:=5) kF.nd rfl (Or.inl rfl) (bR (fj T) T.bg.cl T.eV (hr.mono VW) bF (Wp K (Wo 0) rfl) (aa (Wo 4) (aa (Wo 2) (aa aK ai))))) (ag (a9 (i:=6) kF.nd rfl (Or.inl rfl) (bR (fj T) T.bg.cl T.eV (hr.mono VW) bF (Wp K (Wo 0) rfl) (aa (Wo 4) (aa (Wo 2) (aa aK ai))))) (az (aX (cI (aa (bR (dB T) T.aw.cl T.dC (hr.mono VW) aS.passes (Wo 0) (aa (bR (iV T) T.bg.cl T.hZ (hr.mono VW) bF (Wp K (Wo 0) rfl) (aa (bp (Wr K) (Wp K (Wo 0) rfl) (Wo 3) (λ_ _=>rfl)) (aa (Wo 6) (aa (Wo 5) ai)))) ai)) ai)))))))))),?_⟩;unfold Ug making withOne withVar Vaprbg.diagram at q;dsimp only at q;refine⟨Ws ex rfl,W0 x L us s0 D i ⟨rfl,hX,?_⟩⟩;cases hi:index i (s0.length+2)with
  |none=>
   rw[hi]at q;exact(cC q VW).r2 rfl
  |some d=>
   rw[hi]at q;dsimp only at q;obtain⟨rfl,ld⟩:=cw hi;refine⟨Ws ex rfl,W0 x L us s0 D v ⟨rfl,hX,?_⟩⟩;cases hv:index v (us.length)with
   |none=>
    rw[hv]at q;exact(cC q VW).r5 rfl
   |some u=>
    rw[hv]at q;dsimp only at q;obtain⟨rfl,lu⟩:=cw hv;refine⟨Ws ex rfl,W0 x L us s0 D j ⟨rfl,hX,?_⟩⟩;cases hj:index j (s0.length+2)with
    |none=>
     rw[hj]at q;exact(cC q VW).r2 rfl
    |some e=>
     rw[hj]at q;dsimp only at q;obtain⟨rfl,le⟩:=cw hj;obtain⟨a,ea,ta⟩:=hX.ta.get ld;obtain⟨b,eb,tb⟩:=hX.ta.get le;refine⟨_,Wq ex T.aw.cl (T.aw.no _ VW) rfl,_,Wt (cN.of hX.xK) ea,?_⟩;exact⟨_,Wq ex T.aw.cl (T.aw.no _ VW) rfl,Ws es rfl,W0 L.sp us.length a u false _ ⟨rfl,hX.sc,lu,ta,λr1 h1=>⟨_,Wq ex T.aw.cl (T.aw.no _ VW) rfl,Ws es rfl,W0 L.sp us.length a u true _ ⟨rfl,hX.sc,lu,ta,λr2 h2=>⟨Ws ex rfl,_,Wq ex T.aw.cl (T.aw.no _ VW) rfl,Ws es rfl,_,Wq ex T.aw.cl (T.aw.no _ VW) rfl,_,Wt (cN.of hX.xK) eb,W1 L.sp us.length b r2 r1 ⟨rfl,hX.sc,W2 x L us s0 D _ _ ⟨rfl,hX,hz,(tb.FK h2 h1).congr (λas _=>by
      show(if says s0 e as=true then says s0 d (as.set u true)else says s0 d (as.set u false))=says s0 d (Vaprbg.setAt as u (says s0 e as));cases says s0 e as<;>rfl),iO q⟩⟩⟩⟩⟩⟩⟩
theorem CU:dQ P w K mg base 18 t.uu ["store","choice","first","second"] (jZ t 3 Q2):=by
 refine T.wk.ok mB (λvs H Q E h=>?_) (λcdv A outer s H vs Q E hr h=>?_)
 ·obtain⟨x,L,us,s0,D,is,hl,rfl,_⟩:=h;simp[hl]
 ·obtain⟨x,L,us,s0,D,is,hl,rfl,hX,hz,q⟩:=h;obtain⟨k,i,j,rfl⟩:=WU hl;obtain⟨dx,ex⟩:=hX.ex;obtain⟨dxs,es⟩:=hX.vx;refine⟨_,(ag (bw (bR (a5 T) T.aw.cl T.a7 (hr.mono VW) aS.passes (Wo 0) (aa (Wo 2) ai))) (ag (bw (bR (a5 T) T.aw.cl T.a7 (hr.mono VW) aS.passes (Wo 0) (aa (Wo 3) ai))) (ag (a9 (i:=4) mB.nd rfl (Or.inl rfl) (bp (Wr K) (Wp K (Wo 0) rfl) (Wo 2) (λ_ _=>rfl))) (ag (a9 (i:=5) mB.nd rfl (Or.inl rfl) (bp (Wr K) (Wp K (Wo 0) rfl) (Wo 3) (λ_ _=>rfl))) (ag (cj (Wv cQ (Wo 1) aK (bu _)) (az (aX (cI (aa (bR (dB T) T.aw.cl T.dC (hr.mono VW) aS.passes (Wo 0) (aa (bI iU (Wo 4) (Wo 5)) ai)) ai)))) bo) (ag (cj (Wv cQ (Wo 1) aK (bu _)) (az (aX (cI (aa (bR (dB T) T.aw.cl T.dC (hr.mono VW) aS.passes (Wo 0) (aa (bI pG (Wo 4) (Wo 5)) ai)) ai)))) bo) (ag (cj (Wv cQ (Wo 1) aK (bu _)) (az (aX (cI (aa (bR (dB T) T.aw.cl T.dC (hr.mono VW) aS.passes (Wo 0) (aa (bI r8 (Wo 4) (Wo 5)) ai)) ai)))) bo) (ag (cj (Wv cQ (Wo 1) aK (bu _)) (az (aX (cI (aa (bR (dB T) T.aw.cl T.dC (hr.mono VW) aS.passes (Wo 0) (aa (bI pG (bR (ie T) T.bg.cl T.gF (hr.mono VW) bF (Wp K (Wo 0) rfl) (aa (Wo 4) ai)) (Wo 5)) ai)) ai)))) bo) (az (ly (dw T) T.bV.lM T.bV.ma (hr.mono VW) aS)))))))))),?_⟩;unfold Q2 making withOne Vaprbg.diagram at q;dsimp only at q;refine⟨Ws ex rfl,W0 x L us s0 D i ⟨rfl,hX,?_⟩⟩;cases hi:index i (s0.length+2)with
  |none=>
   rw[hi]at q;exact(cC q VW).r2 rfl
  |some d=>
   rw[hi]at q;dsimp only at q;obtain⟨rfl,ld⟩:=cw hi;refine⟨Ws ex rfl,W0 x L us s0 D j ⟨rfl,hX,?_⟩⟩;cases hj:index j (s0.length+2)with
   |none=>
    rw[hj]at q;exact(cC q VW).r2 rfl
   |some e=>
    rw[hj]at q;dsimp only at q;obtain⟨rfl,le⟩:=cw hj;obtain⟨a,ea,ta⟩:=hX.ta.get ld;obtain⟨b,eb,tb⟩:=hX.ta.get le;refine⟨_,Wq ex T.aw.cl (T.aw.no _ VW) rfl,_,Wt (cN.of hX.xK) ea,?_⟩;refine⟨_,Wq ex T.aw.cl (T.aw.no _ VW) rfl,_,Wt (cN.of hX.xK) eb,?_⟩;unfold Vaprbg.together at q;refine⟨rfl,c6 (λh1=>?_) λh1=>?_⟩
    ·have h1:k=0:=by
      have z:=aD h1;injection z
     rw[ao h1]at q;exact⟨Ws ex rfl,a,b,rfl,rfl,W2 x L us s0 D _ _ ⟨rfl,hX,hz,ta.and tb,iO q⟩⟩
    have n1:¬k=0:=λz=>h1 (au (by rw[z]));rw[ah n1]at q;refine⟨rfl,c6 (λh1=>?_) λh1=>?_⟩
    ·have h1:k=1:=by
      have z:=aD h1;injection z
     rw[ao h1]at q;exact⟨Ws ex rfl,a,b,rfl,rfl,W2 x L us s0 D _ _ ⟨rfl,hX,hz,ta.or tb,iO q⟩⟩
    have n2:¬k=1:=λz=>h1 (au (by rw[z]));rw[ah n2]at q;refine⟨rfl,c6 (λh1=>?_) λh1=>?_⟩
    ·have h1:k=2:=by
      have z:=aD h1;injection z
     rw[ao h1]at q;exact⟨Ws ex rfl,a,b,rfl,rfl,W2 x L us s0 D _ _ ⟨rfl,hX,hz,(ta.xor tb).congr (λas _=>by cases says s0 d as<;>cases says s0 e as<;>rfl),iO q⟩⟩
    have n3:¬k=2:=λz=>h1 (au (by rw[z]));rw[ah n3]at q;refine⟨rfl,c6 (λh1=>?_) λh1=>?_⟩
    ·have h1:k=3:=by
      have z:=aD h1;injection z
     rw[ao h1]at q;exact⟨Ws ex rfl,_,Wq ex T.aw.cl (T.aw.no _ VW) rfl,Ws es rfl,WZ L.sp us.length a ⟨rfl,hX.sc,_,b,rfl,rfl,W2 x L us s0 D _ _ ⟨rfl,hX,hz,ta.other.or tb,iO q⟩⟩⟩
    have n4:¬k=3:=λz=>h1 (au (by rw[z]));rw[ah n4]at q;exact cM (us:=[]) rfl (by show 0<=1000;decide) ((cC q VW).r5 rfl)
end
theorem vn{t:Ad}{H H':Hp}{x al:Addr}{L:SA}{us:List Var}{s:c4}{D:SL}{a:Answer}{Q:VK}{E:XK}(q:Due t H x L us (⟨us,s⟩,a) Q E)(hX:fZ t H x L us s D)(hv:0<=a.value)(fal:H al=none)(sm:bq H H')(ha:H' al=some (.lst ((a.value::a.rest).map V.int))):Q (.ref al) H':=by
 unfold Due at q;dsimp only at q;rw[ah VX]at q;exact q al D H' fal (hX.same sm) ha (.of sm)
noncomputable def CW:List Int->State->State×Answer
 |[i],s=>withOne s i λd=>(s,Vaprbg.looked s d (.chance i))
 |_,s=>(s,Vaprbg.refused (-1))
noncomputable def Jy:List Int->State->State×Answer
 |[i,j],s=>withOne s i λd=>withOne s j λe=>(s,Vaprbg.givenAnswer s d e)
 |_,s=>(s,Vaprbg.refused (-1))
noncomputable def Oe:List Int->State->State×Answer
 |[i],s=>withOne s i λd=>(s,Vaprbg.looked s d (.ways i))
 |_,s=>(s,Vaprbg.refused (-1))
noncomputable def Of:List Int->State->State×Answer
 |[i],s=>withOne s i λd=>(s,Vaprbg.looked s d (.node i))
 |_,s=>(s,Vaprbg.refused (-1))
noncomputable def Jz:List Int->State->State×Answer
 |[i],s=>withOne s i λd=>(s,Vaprbg.looked s d (.nodes i))
 |_,s=>(s,Vaprbg.refused (-1))
noncomputable def CY:List Int->State->State×Answer
 |[i],s=>withOne s i λd=>(s,Vaprbg.looked s d (.hangs i))
 |_,s=>(s,Vaprbg.refused (-1))
noncomputable def Og:List Int->State->State×Answer
 |[i],s=>withOne s i λd=>(s,Vaprbg.looked s d (.best i))
 |_,s=>(s,Vaprbg.refused (-1))
noncomputable def Oh:List Int->State->State×Answer
 |[i,n],s=>withOne s i λd=>(s,Vaprbg.listAnswer s d n)
 |_,s=>(s,Vaprbg.refused (-1))
noncomputable def Oi:List Int->State->State×Answer:=λ_ s=>(s,{value:=(s.vars.length:Int),rest:=[(s.store.length:Int)]})
theorem CZ{us:List Var}(hB:wX us):pre us us.length<2^9000:=by
 refine cK (N6 hB us.length) (F7 VW ?_);have:=hB.le;lia
theorem nF.get{us:List Var}{s:c4}{ws:List Nat}(h:nF us s ws){d:Nat}(hd:d<s.length+2):∃a,ws[d]?=some a/\zV us s d a:=by
 obtain⟨a,ha⟩:∃a,ws[d]?=some a:=⟨_,af (by rw[h.len];exact hd)⟩;exact⟨a,ha,h.ok d a ha⟩
section
include T
theorem Af:dQ P w K mg base 18 t.pw ["store","diagram"] (jZ t 1 CW):=by
 refine T.sN.ok p6 (λvs H Q E h=>?_) (λcdv A outer s H vs Q E hr h=>?_)
 ·obtain⟨x,L,us,s0,D,is,hl,rfl,_⟩:=h;simp[hl]
 ·obtain⟨x,L,us,s0,D,is,hl,rfl,hX,hz,q⟩:=h;obtain⟨i,rfl⟩:=WR hl;obtain⟨dx,ex⟩:=hX.ex;refine⟨_,(ag (bw (bR (a5 T) T.aw.cl T.a7 (hr.mono VW) aS.passes (Wo 0) (aa (Wo 1) ai))) (ag (a9 (i:=2) p6.nd rfl (Or.inl rfl) (cH (vE T) T.uN (hr.mono VW) bF (aa (bp (Wr K) (Wp K (Wo 0) rfl) (Wo 1) (λ_ _=>rfl)) (aa (Wp K (Wo 0) rfl) ai)))) (az (aX (cI (aa aK (aa (bp (Ww K) (Wo 2) aK (λ_ _=>rfl)) (aa (bp (Ww K) (Wo 2) aK (λ_ _=>rfl)) ai)))))))),?_⟩;unfold CW withOne Vaprbg.diagram at q;dsimp only at q;refine⟨Ws ex rfl,W0 x L us s0 D i ⟨rfl,hX,?_⟩⟩;cases hi:index i (s0.length+2)with
  |none=>
   rw[hi]at q;exact(cC q VW).r2 rfl
  |some d=>
   rw[hi]at q;dsimp only at q;obtain⟨rfl,ld⟩:=cw hi;obtain⟨a,ha,hw⟩:=hX.wa.get ld;refine⟨_,Wq ex T.aw.cl (T.aw.no _ VW) rfl,_,Wt (cN.of hX.HQ) (cx (dA ha)),_,Wq ex T.aw.cl (T.aw.no _ VW) rfl,a,pre us us.length,rfl,eM (oB hX.vb.ok _),CZ hX.vb,λp H' np hp s1=>?_⟩;have ec:VaprbBase.frac a (pre us us.length)=Vaprbg.chanceOfDiagram us s0 d:=by rw[jM hX.vb.ok,<-hw.ch,<-nz]
   rw[ec]at hp;refine⟨.int (Vaprbg.chanceOfDiagram us s0 d).num,Wt (iK.of hp) rfl,.int (Vaprbg.chanceOfDiagram us s0 d).den,Wt (iK.of hp) rfl,(by show 3<=sizeLine;rw[aM];decide),λal nal=>?_⟩;exact vn q hX (by show(0:Int)<=1;decide) (s1.no nal) (s1.trans λc o e=>ak e (aq e nal)) aC
theorem A4:dQ P w K mg base 18 t.rM ["store","diagram","known"] (jZ t 2 Jy):=by
 refine T.uO.ok sy (λvs H Q E h=>?_) (λcdv A outer s H vs Q E hr h=>?_)
 ·obtain⟨x,L,us,s0,D,is,hl,rfl,_⟩:=h;simp[hl]
 ·obtain⟨x,L,us,s0,D,is,hl,rfl,hX,hz,q⟩:=h;obtain⟨i,j,rfl⟩:=WT hl;obtain⟨dx,ex⟩:=hX.ex;refine⟨_,(ag (bw (bR (a5 T) T.aw.cl T.a7 (hr.mono VW) aS.passes (Wo 0) (aa (Wo 1) ai))) (ag (bw (bR (a5 T) T.aw.cl T.a7 (hr.mono VW) aS.passes (Wo 0) (aa (Wo 2) ai))) (ag (cj (Wv cQ (bp (Wr K) (Wp K (Wo 0) rfl) (Wo 2) (λ_ _=>rfl)) aK (bu _)) (az (ly (gK T) T.cF.lM T.cF.ma (hr.mono VW) aS)) bo) (ag (a9 (i:=3) sy.nd rfl (Or.inl rfl) (cH (vE T) T.uN (hr.mono VW) bF (aa (bR (tN T) T.aw.cl T.kT (hr.mono VW) bF (Wo 0) (aa (bI iU (bp (Wr K) (Wp K (Wo 0) rfl) (Wo 1) (λ_ _=>rfl)) (bp (Wr K) (Wp K (Wo 0) rfl) (Wo 2) (λ_ _=>rfl))) ai)) (aa (bp (Wr K) (Wp K (Wo 0) rfl) (Wo 2) (λ_ _=>rfl)) ai)))) (az (aX (cI (aa aK (aa (bp (Ww K) (Wo 3) aK (λ_ _=>rfl)) (aa (bp (Ww K) (Wo 3) aK (λ_ _=>rfl)) ai)))))))))),?_⟩;unfold Jy withOne Vaprbg.diagram at q;dsimp only at q;refine⟨Ws ex rfl,W0 x L us s0 D i ⟨rfl,hX,?_⟩⟩;cases hi:index i (s0.length+2)with
  |none=>
   rw[hi]at q;exact(cC q VW).r2 rfl
  |some d=>
   rw[hi]at q;dsimp only at q;obtain⟨rfl,ld⟩:=cw hi;refine⟨Ws ex rfl,W0 x L us s0 D j ⟨rfl,hX,?_⟩⟩;cases hj:index j (s0.length+2)with
   |none=>
    rw[hj]at q;exact(cC q VW).r2 rfl
   |some e=>
    rw[hj]at q;dsimp only at q;obtain⟨rfl,le⟩:=cw hj;obtain⟨b,hb,hwb⟩:=hX.wa.get le;obtain⟨td,etd,htd⟩:=hX.ta.get ld;obtain⟨te,ete,hte⟩:=hX.ta.get le;refine⟨_,Wq ex T.aw.cl (T.aw.no _ VW) rfl,_,Wt (cN.of hX.HQ) (cx (dA hb)),rfl,c6 (λh1=>?_) λh1=>?_⟩
    ·have h1':b=0:=by
      have z:=aD h1;injection z with z
      lia
     subst h1';rw[Jn hX.vb.ok hwb.ch]at q;exact cM (us:=[]) rfl (by show 0<=1000;decide) ((cC q VW).r6 rfl)
    ·have h1':b≠0:=λz=>h1 (au (by rw[z];rfl));refine⟨Ws ex rfl,_,Wq ex T.aw.cl (T.aw.no _ VW) rfl,_,Wt (cN.of hX.xK) etd,_,Wq ex T.aw.cl (T.aw.no _ VW) rfl,_,Wt (cN.of hX.xK) ete,_,_,rfl,rfl,W2 x L us s0 D _ _ ⟨rfl,hX,hz,htd.and hte,λa H1 ha s1=>?_⟩⟩;have hX1:=hX.same s1;obtain⟨dx1,ex1⟩:=hX1.ex;refine⟨_,Wq ex1 T.aw.cl (T.aw.no _ VW) rfl,_,Wt (cN.of hX1.HQ) (cx (dA hb)),a,b,rfl,h1',?_,λp H' np hp s2=>?_⟩
     ·exact cK (NY hX.vb.ok hX.wf hX.vb.le le hwb) (CZ hX.vb)
     rw[P6 hX.vb.ok hX.wf hX.vb.le ha hwb.ch,ah h1',<-nz]at q;refine⟨.int (VaprbBase.frac a b).num,Wt (iK.of hp) rfl,.int (VaprbBase.frac a b).den,Wt (iK.of hp) rfl,(by show 3<=sizeLine;rw[aM];decide),λal nal=>?_⟩;exact vn q hX (by show(0:Int)<=1;decide) ((s1.trans s2).no nal) ((s1.trans s2).trans λc o e=>ak e (aq e nal)) aC
theorem C0:dQ P w K mg base 18 t.uw ["store","diagram"] (jZ t 1 Oe):=by
 refine T.wu.ok B1 (λvs H Q E h=>?_) (λcdv A outer s H vs Q E hr h=>?_)
 ·obtain⟨x,L,us,s0,D,is,hl,rfl,_⟩:=h;simp[hl]
 ·obtain⟨x,L,us,s0,D,is,hl,rfl,hX,hz,q⟩:=h;obtain⟨i,rfl⟩:=WR hl;obtain⟨dx,ex⟩:=hX.ex;refine⟨_,(ag (bw (bR (a5 T) T.aw.cl T.a7 (hr.mono VW) aS.passes (Wo 0) (aa (Wo 1) ai))) (az (aX (cI (aa (bp (Wr K) (Wp K (Wo 0) rfl) (Wo 1) (λ_ _=>rfl)) ai))))),?_⟩;unfold Oe withOne Vaprbg.diagram at q;dsimp only at q;refine⟨Ws ex rfl,W0 x L us s0 D i ⟨rfl,hX,?_⟩⟩;cases hi:index i (s0.length+2)with
  |none=>
   rw[hi]at q;exact(cC q VW).r2 rfl
  |some d=>
   rw[hi]at q;dsimp only at q;obtain⟨rfl,ld⟩:=cw hi;obtain⟨a,ha,hw⟩:=hX.ya.get ld;refine⟨_,Wq ex T.aw.cl (T.aw.no _ VW) rfl,_,Wt (cN.of hX.KD) (cx (dA ha)),(by show 1<=sizeLine;rw[aM];decide),λal nal=>?_⟩;have ew:Vaprbg.looked ⟨us,s0⟩ d (.ways d)=Vaprbg.count a:=by
    show Vaprbg.count ((Vaprbg.truths us s0 d).length)=_;rw[Kx hX.wf hX.vb.le hw];rfl
   rw[ew]at q;exact vn q hX (by show(0:Int)<=(a:Int);lia) nal (λc o e=>ak e (aq e nal)) aC
theorem C1:dQ P w K mg base 18 t.ux ["store","diagram"] (jZ t 1 Of):=by
 refine T.wy.ok B2 (λvs H Q E h=>?_) (λcdv A outer s H vs Q E hr h=>?_)
 ·obtain⟨x,L,us,s0,D,is,hl,rfl,_⟩:=h;simp[hl]
 ·obtain⟨x,L,us,s0,D,is,hl,rfl,hX,hz,q⟩:=h;obtain⟨i,rfl⟩:=WR hl;obtain⟨dx,ex⟩:=hX.ex;refine⟨_,(ag (bw (bR (a5 T) T.aw.cl T.a7 (hr.mono VW) aS.passes (Wo 0) (aa (Wo 1) ai))) (ag (cj (Wv vr (Wo 1) (qV (aa aK (aa aK ai))) (by with_unfolding_all rfl)) (az (ly (gK T) T.cF.lM T.cF.ma (hr.mono VW) aS)) bo) (az (aX (j1 xR rfl T.GQ pQ (aa (bR (iC T) T.aw.cl T.gA (hr.mono VW) bF (Wo 0) (aa (Wo 1) ai)) ai)))))),?_⟩;unfold Of withOne Vaprbg.diagram at q;dsimp only at q;refine⟨Ws ex rfl,W0 x L us s0 D i ⟨rfl,hX,?_⟩⟩;cases hi:index i (s0.length+2)with
  |none=>
   rw[hi]at q;exact(cC q VW).r2 rfl
  |some d=>
   rw[hi]at q;dsimp only at q;obtain⟨rfl,ld⟩:=cw hi;refine⟨(by show 2<=sizeLine;rw[aM];decide),λtp ntp=>⟨tp,_,rfl,.inr (iK.of aC),rfl,rfl,?_⟩⟩;have s1:bq H (upd H tp (.tup [.int 0,.int 1])):=λb o e=>ak e (aq e ntp);revert s1;generalize upd H tp (.tup [.int 0,.int 1])=H1;intro s1;rw[ah aj,Qn];have hX1:=hX.same s1;obtain⟨dx1,ex1⟩:=hX1.ex;refine c6 (λh1=>?_) λh1=>?_
   ·have h1':d=0\/d=1:=by
     have:=aD h1;lia
    have ew:Vaprbg.looked ⟨us,s0⟩ d (.node d)=Vaprbg.refused (-6):=by
     unfold Vaprbg.looked;dsimp only;rw[EN h1']
    rw[ew]at q;exact cM (us:=[]) rfl (by show 0<=1000;decide) (((cC q VW).r6 rfl).same s1)
   ·have h1':¬(d=0\/d=1):=λz=>h1 (au VX);obtain⟨m,hm⟩:=si ld h1';have ew:Vaprbg.looked ⟨us,s0⟩ d (.node d)={value:=(m.var:Int),rest:=[(m.lo:Int),(m.hi:Int)]}:=by
     unfold Vaprbg.looked;dsimp only;rw[hm]
    rw[ew]at q;refine⟨Ws ex1 rfl,W2 x L us s0 D d m ⟨rfl,hX1,hm,λb hb=>⟨b,_,rfl,.inr (iK.of hb),λal nal=>?_⟩⟩⟩;exact vn q hX (by show(0:Int)<=(m.var:Int);lia) (s1.no nal) (s1.trans λc o e=>ak e (aq e nal)) aC
theorem A5:dQ P w K mg base 18 t.rO ["store","diagram"] (jZ t 1 Jz):=by
 refine T.uQ.ok sA (λvs H Q E h=>?_) (λcdv A outer s H vs Q E hr h=>?_)
 ·obtain⟨x,L,us,s0,D,is,hl,rfl,_⟩:=h;simp[hl]
 ·obtain⟨x,L,us,s0,D,is,hl,rfl,hX,hz,q⟩:=h;obtain⟨i,rfl⟩:=WR hl;obtain⟨dx,ex⟩:=hX.ex;refine⟨_,(ag (bw (bR (a5 T) T.aw.cl T.a7 (hr.mono VW) aS.passes (Wo 0) (aa (Wo 1) ai))) (ag (a9 (i:=2) sA.nd rfl (Or.inl rfl) (bR (oG T) T.aw.cl T.km (hr.mono VW) bF (Wo 0) (aa (Wo 1) ai))) (az (aX (bI Io (cI (aa (b6 cD rfl T.gP bf (aa (Wo 2) ai)) ai)) (Wo 2)))))),?_⟩;unfold Jz withOne Vaprbg.diagram at q;dsimp only at q;refine⟨Ws ex rfl,W0 x L us s0 D i ⟨rfl,hX,?_⟩⟩;cases hi:index i (s0.length+2)with
  |none=>
   rw[hi]at q;exact(cC q VW).r2 rfl
  |some d=>
   rw[hi]at q;dsimp only at q;obtain⟨rfl,ld⟩:=cw hi;refine⟨Ws ex rfl,W0 x L us s0 D d ⟨rfl,hX,hz,ld,λl H1 nl hl s1=>?_⟩⟩;refine⟨_,_,rfl,.inl ⟨_,cN.of hl,rfl⟩,(by show 1<=sizeLine;rw[aM];decide),λc nc=>?_⟩;have hl2:=ak (o:= .lst [.int ((bx (Vaprbg.nodes s0 d)).length:Nat)]) hl (aq hl nc);have hlen:=Hn hz d;refine WY c l _ _ ⟨rfl,rfl,aC,hl2,?_,λal nal=>?_⟩
   ·rw[cA,aM];show 1+_<=_;lia
   have s2:bq H1 (upd H1 c (.lst [.int ((bx (Vaprbg.nodes s0 d)).length:Nat)])):=λb o e=>ak e (aq e nc);refine vn q hX (by show(0:Int)<=((Vaprbg.nodes s0 d).length:Int);lia) ((s1.trans s2).no nal) ((s1.trans s2).trans λc o e=>ak e (aq e nal)) ?_;rw[aC,cA];show some (HO.lst (V.int ((Vaprbg.nodes s0 d).length:Nat)::bx (Vaprbg.nodes s0 d)))=some (HO.lst (V.int ((Vaprbg.nodes s0 d).length:Int)::((Vaprbg.nodes s0 d).map λn:Nat=>(n:Int)).map V.int));rw[cS];rfl
theorem A6:dQ P w K mg base 1 t.rP ["store"] (jZ t 0 Oi):=by
 refine T.uU.ok AX (λvs H Q E h=>?_) (λcdv A outer s H vs Q E hr h=>?_)
 ·obtain⟨x,L,us,s0,D,is,hl,rfl,_⟩:=h;simp[hl]
 ·obtain⟨x,L,us,s0,D,is,hl,rfl,hX,hz,q⟩:=h;obtain rfl:=WS hl;obtain⟨dx,ex⟩:=hX.ex;obtain⟨dxs,es⟩:=hX.vx;obtain⟨ps,e0,hpl,_⟩:=hX.N5;refine⟨_,(az (aX (cI (aa (Wp K (Wp K (Wo 0) rfl) rfl) (aa (b6 cD rfl T.gP bf (aa (Wp K (Wo 0) rfl) ai)) ai))))),?_⟩;refine⟨_,Wq ex T.aw.cl (T.aw.no _ VW) rfl,_,Wq es T.bg.cl (T.bg.no _ VW) rfl,_,Wq ex T.aw.cl (T.aw.no _ VW) rfl,_,_,rfl,.inl ⟨_,cN.of e0,rfl⟩,(by show 2<=sizeLine;rw[aM];decide),λal nal=>?_⟩;refine vn q hX (by show(0:Int)<=(us.length:Int);lia) nal (λc o e=>ak e (aq e nal)) ?_;rw[aC,ay,hpl];rfl
end
def Hw(K:PySem.W.Frag):Sp:=λvs H Q _=>∃(a:Addr)(l:List Int),vs=[.ref a]/\cN K H a (l.map V.int)/\l.length<=1000/\∀H',bq H H'->Q (.bl (l.all λx=>x==0||x==1)) H'
def Q4(K:PySem.W.Frag)(t:Ad)(g:Int->List Int->State->State×Answer):Sp:=λvs H Q E=>∃(x rl:Addr)(L:SA)(us:List Var)(s:c4)(D:SL)(i:Int)(l:List Int),vs=[.ref x,.int i,.ref rl]/\fZ t H x L us s D/\s.length<=3000/\cN K H rl (l.map V.int)/\Due t H x L us (g i l ⟨us,s⟩) Q E
noncomputable def Oj(i:Int)(l:List Int)(s:State):State×Answer:=withOne s i λd=>if l.length≠s.vars.length\/(l.all λx=>x==0||x==1)=false then(s,Vaprbg.refused (-5))else(s,{value:=if says s.store d (l.map λx=>x==1)=true then 1 else 0})
noncomputable def F1(i:Int)(l:List Int)(s:State):State×Answer:=withOne s i λd=>(s,Vaprbg.sizeByAnswer s d l)
theorem Uh(d:Int):JU (.int d) [.int 0,.int 1]=(d==0||d==1):=by
 rw[Qn];by_cases h0:d=0
 ·subst h0;rfl
 ·by_cases h1:d=1
  ·subst h1;rfl
  ·rw[aQ VX,beq_eq_false_iff_ne.mpr h0,beq_eq_false_iff_ne.mpr h1];rfl
section
include T
theorem DP:dQ P w K mg base 1 t.xm ["row"] (Hw K):=by
 refine T.yu.ok oV (λvs H Q E h=>?_) (λcdv A outer s H vs Q E hr h=>?_)
 ·obtain⟨a,l,rfl,_⟩:=h;rfl
 ·obtain⟨a,l,rfl,hS,hlen,q⟩:=h;refine⟨_,(az (aX (b6 (RF rfl) rfl T.TN PyProof.Rows.boot_all (aa (D6 (own:=[("number",1)]) rfl oV.nd (jt (Wo 0)) (show t6 ["row","number"] (aI l8) _ _ from⟨rfl,VY,VY,VY,VY⟩) (λ_ _ _ _ _=>fu (i:=1) oV.nd rfl (Or.inl rfl)) (λ_ _ _ _ _=>xT) (λ_ _ _ _ _=>(qU (IF K) (Wo 1) (qV (aa aK (aa aK ai))) (by with_unfolding_all rfl)))) ai)))),?_⟩;refine⟨a,rfl,⟨_,hS⟩,λD nD=>?_⟩;refine xU (xs:=l.map V.int) (λj H'=>H' D=some (.lst (((l.take j).map λx=>(x==0||x==1)).map V.bl))/\bq H H') ⟨aC,λb o e=>ak e (aq e nD)⟩ (λj H' _ z=>z.2.seq hS) ?_ ?_
  ·rintro j y H' hy ⟨z1,z2⟩;rw[aR]at hy;obtain⟨c,hc,rfl⟩:=Option.map_eq_some_iff.mp hy;obtain⟨hlt,hd'⟩:=List.getElem?_eq_some_iff.mp hc;have et:l.take (j+1)=l.take j++[c]:=by
    rw[bB hlt,hd']
   refine⟨rfl,?_⟩;unfold KU;show(if true=true then _ else _);rw[ao rfl];refine⟨(by show 2<=sizeLine;rw[aM];decide),λtp ntp=>⟨tp,_,rfl,.inr (iK.of aC),rfl,rfl,?_⟩⟩;have z1':=ak (o:= .tup [.int 0,.int 1]) z1 (aq z1 ntp);have s1:bq H (upd H' tp (.tup [.int 0,.int 1])):=λb o e=>ak (z2 b o e) (aq e (z2.no ntp));refine⟨_,z1',?_,?_,λb o e=>ak (s1 b o e) (aq e nD)⟩
   ·rw[ay,ay,cz,aM];lia
   ·rw[aC,ah aj,Uh,et,cb,cb];rfl
  ·rintro H' ⟨z1,z2⟩;rw[ay,cO]at z1;refine⟨D,_,rfl,cN.of z1,?_⟩;have e:(l.map λx=>(x==0||x==1)).all id=l.all λx=>x==0||x==1:=by
    rw[LQ];rfl
   show Q (.bl ((l.map λx=>(x==0||x==1)).all id)) H';rw[e];exact q H' z2
theorem C2:dQ P w K mg base 18 t.uz ["store","diagram","truths"] (Q4 K t Oj):=by
 refine T.wA.ok mF (λvs H Q E h=>?_) (λcdv A outer s H vs Q E hr h=>?_)
 ·revert h;refine W7 λx rl L us=>W7 λs0 D i l=>W9 λe0_ _=>?_;subst e0_;rfl
 ·revert h;refine W7 λx rl L us=>W7 λs0 D i l=>Xe λe0_ hX hz hR q=>?_;subst e0_;obtain⟨dx,ex⟩:=hX.ex;obtain⟨dxs,es⟩:=hX.vx;refine⟨_,(ag (bw (bR (a5 T) T.aw.cl T.a7 (hr.mono VW) aS.passes (Wo 0) (aa (Wo 1) ai))) (ag (cj (PW.pt (Am (Wv Ge (b6 cD rfl T.gP bf (aa (Wo 2) ai)) (Wp K (Wp K (Wo 0) rfl) rfl) (bu _)) (tR (qR (Wy (cH (DP T) T.yw (hr.mono VW) bF (aa (Wo 2) ai))))))) (az (ly (dw T) T.bV.lM T.bV.ma (hr.mono VW) aS)) bo) (ag (d5 (gy bN (Wv ju (Wo 1) (qV (aa aK (aa aK ai))) (by with_unfolding_all rfl)) (ag (a9 (i:=3) mF.nd rfl (Or.inl rfl) (bR (iC T) T.aw.cl T.gA (hr.mono VW) bF (Wo 0) (aa (Wo 1) ai))) (az (a9 (i:=1) mF.nd rfl (Or.inl rfl) (tS (Wv cQ (bp (Wr K) (Wo 2) (bp (Ww K) (Wo 3) aK (λ_ _=>rfl)) (λ_ _=>rfl)) aK (bu _)) (bp (Ww K) (Wo 3) aK (λ_ _=>rfl)) (bp (Ww K) (Wo 3) aK (λ_ _=>rfl)))))))) (az (aX (cI (aa (Wo 1) ai))))))),?_⟩;unfold Oj withOne Vaprbg.diagram at q;dsimp only at q;refine⟨Ws ex rfl,W0 x L us s0 D i ⟨rfl,hX,?_⟩⟩;cases hi:index i (s0.length+2)with
  |none=>
   rw[hi]at q;exact(cC q VW).r2 rfl
  |some d=>
   rw[hi]at q;dsimp only at q;obtain⟨rfl,ld⟩:=cw hi;have hn:=hX.vb.le;refine⟨_,_,rfl,.inl ⟨_,hR,rfl⟩,_,Wq ex T.aw.cl (T.aw.no _ VW) rfl,_,Wq es T.bg.cl (T.bg.no _ VW) rfl,rfl,?_⟩;rw[ay];refine c6 (λh1=>d4 ?_) λh1=>?_
   ·have h1':l.length≠us.length:=λz=>by
     rw[z]at h1;simp at h1
    rw[ao (.inl h1')]at q;exact cM (us:=[]) rfl (by show 0<=1000;decide) ((cC q VW).r5 rfl)
   have h1':l.length=us.length:=by
    apply eW;intro z;apply h1;simp;lia
   refine⟨rl,l,rfl,hR,VX,λH1 s1=>?_⟩;refine c6 (λh2=>?_) λh2=>?_
   ·have h2':(l.all λx=>x==0||x==1)=false:=by
     cases z:(l.all λx=>x==0||x==1)
     ·rfl
     ·rw[z]at h2;cases h2
    rw[ao (.inr h2')]at q;exact cM (us:=[]) rfl (by show 0<=1000;decide) (((cC q VW).r5 rfl).same s1)
   have h2':¬(l.all λx=>x==0||x==1)=false:=λz=>h2 (by rw[z];rfl);rw[ah (by
    intro z;rcases z with z|z
    ·exact z h1'
    ·exact h2' z)]at q
   generalize has:(l.map λx=>x==1)=as at q;refine⟨λσ H'=>∃(e:Nat)(v3:Option V),σ=[some (.ref x),some (.int e),some (.ref rl),v3]/\bq H H'/\(e=0\/e=1)/\says s0 e as=says s0 d as,⟨λk σ H'=>∃(v3:Option V),σ=[some (.ref x),some (.int (k:Nat)),some (.ref rl),v3]/\bq H H'/\k<s0.length+2/\says s0 k as=says s0 d as,⟨d,none,rfl,s1,ld,rfl⟩,?_⟩,?_⟩
   ·intro e σ H';refine Xa λv3=>Xd λe0_ sm le hs=>?_;subst e0_;refine⟨(by show 2<=sizeLine;rw[aM];decide),λtp ntp=>⟨tp,_,rfl,.inr (iK.of aC),rfl,rfl,?_⟩⟩;have s2:bq H (upd H' tp (.tup [.int 0,.int 1])):=sm.trans λb o e=>ak e (aq e ntp);revert s2;generalize upd H' tp (.tup [.int 0,.int 1])=H2;intro s2;rw[ao rfl,Qn];refine c6 (λh3=>?_) λh3=>?_
    ·have h3':¬(e=0\/e=1):=λz=>by
      rw[au VX]at h3;cases h3
     obtain⟨m,hm⟩:=si le h3';refine Xb (λg1 g2 g3 g4 g5 g6=>?_) (hX.wf.node hm);have hX2:=hX.same s2;obtain⟨dx2,ex2⟩:=hX2.ex;obtain⟨c,hc⟩:∃c,l[m.var]?=some c:=⟨_,af VX⟩;have hac:as[m.var]?=some (c==1):=by rw[<-has,aR,hc];rfl
     have hsn:=jn hX.wf hn hm as;rw[hac]at hsn;refine⟨λσ' H''=>∃(k:Nat)(v3:Option V),k<e/\σ'=[some (.ref x),some (.int (k:Nat)),some (.ref rl),v3]/\bq H H''/\says s0 k as=says s0 d as,?_,?_⟩
     ·intro σ' H'';refine W6 λk v3'=>Xd λhk z1 z2 z3=>?_;exact⟨k,hk,v3',z1,z2,VX,z3⟩
     ·refine⟨Ws ex2 rfl,W1 x L us s0 D ⟨e,m,rfl,hX2,hm,λb hb=>?_⟩⟩;refine⟨.int (m.var:Nat),Wt (iK.of hb) rfl,.int c,Wt (s2.seq hR) (cx (by rw[aR,hc];rfl)),rfl,c6 (λh4=>?_) λh4=>?_⟩
      ·have h4':c=1:=by
        have z:=aD h4;injection z
       rw[h4',ao VW]at hsn;exact⟨.int (m.hi:Nat),Wt (iK.of hb) rfl,m.hi,_,g3,rfl,s2,by rw[<-hs,hsn]⟩
      ·have h4':(c==1)=false:=beq_eq_false_iff_ne.mpr λz=>h4 (au (by rw[z]));rw[h4',ah VW]at hsn;exact⟨.int (m.lo:Nat),Wt (iK.of hb) rfl,m.lo,_,g2,rfl,s2,by rw[<-hs,hsn]⟩
    ·have h3':e=0\/e=1:=by
      apply eW;intro z;exact h3 (by rw[aQ VX];rfl)
     exact⟨e,_,rfl,s2,h3',hs⟩
   ·intro σ H';refine W6 λe v3=>Xd λe0_ sm he hs=>?_;subst e0_;refine⟨(by show 1<=sizeLine;rw[aM];decide),λal nal=>?_⟩;refine vn q hX (by dsimp only;split<;>decide) (sm.no nal) (sm.trans λc o e=>ak e (aq e nal)) ?_;rw[aC,<-hs,qL VX];rcases he with rfl|rfl<;>rfl
theorem y8:dQ P w K mg base 18 t.jE ["store","diagram","order"] (Q4 K t F1):=by
 refine T.qm.ok yc (λvs H Q E h=>?_) (λcdv A outer s H vs Q E hr h=>?_)
 ·obtain⟨x,rl,L,us,s0,D,i,l,rfl,_⟩:=h;rfl
 ·obtain⟨x,rl,L,us,s0,D,i,l,rfl,hX,hz,hR,q⟩:=h;have hu:(tY (Ar P w) P w K mg base ["store","diagram","order"] "answer_size_by" (aI il) t.jE cdv A outer s H E).A.units+64<cLine:=by
   have:=hr.units;show(A.deeper _).units+64<cLine;lia
  obtain⟨dx,ex⟩:=hX.ex;obtain⟨dxs,es⟩:=hX.vx;refine⟨_,(ag (bw (bR (a5 T) T.aw.cl T.a7 (hr.mono VW) aS.passes (Wo 0) (aa (Wo 1) ai))) (ag (cj (Wv (RY hu) (b6 ID rfl T.Fo PyProof.Rows.boot_sorted (aa (Wo 2) ai)) (j1 (BV rfl) rfl T.GQ pQ (aa (j1 GA rfl T.zI PyProof.Rows.boot_range (aa (Wp K (Wp K (Wo 0) rfl) rfl) ai)) ai)) (bu _)) (az (ly (dw T) T.bV.lM T.bV.ma (hr.mono VW) aS)) bo) (az (aX (cI (aa (bR (Ac T) T.aw.cl T.sT (hr.mono VW) bF (Wo 0) (aa (Wo 1) (aa (Wo 2) ai))) ai)))))),?_⟩;unfold F1 withOne Vaprbg.diagram at q;dsimp only at q;refine⟨Ws ex rfl,W0 x L us s0 D i ⟨rfl,hX,?_⟩⟩;cases hi:index i (s0.length+2)with
  |none=>
   rw[hi]at q;exact(cC q VW).r2 rfl
  |some d=>
   rw[hi]at q;dsimp only at q;obtain⟨rfl,ld⟩:=cw hi;have hn:=hX.vb.le;refine⟨rl,l,rfl,hR,λns so hp hs nso=>?_⟩;have s1:bq H (upd H so (.lst (ns.map V.int))):=λb o e=>ak e (aq e nso);have o1:upd H so (.lst (ns.map V.int)) so=some (.lst (ns.map V.int)):=aC;revert s1 o1;generalize upd H so (.lst (ns.map V.int))=H1;intro s1 o1;refine⟨_,Wq (s1 _ _ ex) T.aw.cl (T.aw.no _ VW) rfl,_,Wq (s1 _ _ es) T.bg.cl (T.bg.no _ VW) rfl,(us.length:Int),rfl,λR nR=>⟨R,us.length,rfl,aC,be hn VW,λS nS=>?_⟩⟩;have s2:bq H1 (upd H1 R (.JK 0 (us.length:Int))):=λb o e=>ak e (aq e nR);have s3:bq H1 (upd (upd H1 R (.JK 0 (us.length:Int))) S (.lst ((List.range us.length).map λi:Nat=>V.int (i:Int)))):=s2.trans λb o e=>ak e (aq e nS);have o3:upd (upd H1 R (.JK 0 (us.length:Int))) S (.lst ((List.range us.length).map λi:Nat=>V.int (i:Int))) S=some (.lst (((List.range us.length).map λi:Nat=>(i:Int)).map V.int)):=by
    rw[aC,cS];rfl
   revert s3 o3;generalize upd (upd H1 R (.JK 0 (us.length:Int))) S (.lst ((List.range us.length).map λi:Nat=>V.int (i:Int)))=H3;intro s3 o3;have s13:=s1.trans s3;refine⟨so,S,ns,_,rfl,rfl,cN.of (s3 _ _ o1),cN.of o3,c6 (λh1=>?_) λh1=>?_⟩
   ·have h1':¬ns=(List.range us.length).map (λx:Nat=>(x:Int)):=λz=>by
     rw[au z]at h1;cases h1
    rw[yV hp hs]at h1';rw[Lz h1']at q;exact cM (us:=[]) rfl (by show 0<=1000;decide) (((cC q VW).r5 rfl).same s13)
   ·have h1':ns=(List.range us.length).map (λx:Nat=>(x:Int)):=by
     apply eW;intro z;exact h1 (by rw[aQ z];rfl)
    rw[yV hp hs]at h1';obtain⟨p,rfl,ho⟩:=h1';rw[Ly hn ho]at q;have hX3:=hX.same s13;obtain⟨dx3,ex3⟩:=hX3.ex;have hR3:=s13.seq hR;rw[cS]at hR3;refine⟨Ws ex3 rfl,W3 x rl L us s0 D d p ⟨rfl,hX3,ld,hR3,ho,λH4 s4=>⟨(by show 1<=sizeLine;rw[aM];decide),λal nal=>?_⟩⟩⟩;exact vn q hX (by show(0:Int)<=(_:Nat);lia) ((s13.trans s4).no nal) ((s13.trans s4).trans λc o e=>ak e (aq e nal)) aC
theorem C3:dQ P w K mg base 18 t.uA ["store","diagram","most"] (jZ t 2 Oh):=by
 refine T.wD.ok jx (λvs H Q E h=>?_) (λcdv A outer s H vs Q E hr h=>?_)
 ·obtain⟨x,L,us,s0,D,is,hl,rfl,_⟩:=h;simp[hl]
 ·obtain⟨x,L,us,s0,D,is,hl,rfl,hX,hz,q⟩:=h;obtain⟨i,n,rfl⟩:=WT hl;obtain⟨dx,ex⟩:=hX.ex;obtain⟨dxs,es⟩:=hX.vx;refine⟨_,(ag (bw (bR (a5 T) T.aw.cl T.a7 (hr.mono VW) aS.passes (Wo 0) (aa (Wo 1) ai))) (ag (cj (PW.pt (Am (Wv kK.j (Wo 2) aK (bu _)) (tR (Wv tW.j (Wo 2) (cv T.Ay) (bu _))))) (az (ly (dw T) T.bV.lM T.bV.ma (hr.mono VW) aS)) bo) (ag (a9 (i:=3) jx.nd rfl (Or.inl rfl) (bR (tu T) T.bg.cl T.m5 (hr.mono VW) bF (Wp K (Wo 0) rfl) (aa (bp (Wr K) (Wp K (Wo 0) rfl) (Wo 1) (λ_ _=>rfl)) (aa (Wo 2) ai)))) (ag (a9 (i:=4) jx.nd rfl (Or.inl rfl) (cI (aa (b6 cD rfl T.gP bf (aa (Wo 3) ai)) ai))) (ag (d5 (mr bN rfl (jt (Wo 3)) (fu (i:=5) jx.nd rfl (Or.inl rfl)) (az (bw (jj bj PySem.F.slot_list_extend PySem.F.type_list_extend D5 (Wo 4) (aa (bR (nG T) T.bg.cl T.jK (hr.mono VW) bF (Wp K (Wo 0) rfl) (aa (Wo 5) ai)) ai)))))) (az (aX (Wo 4)))))))),?_⟩;unfold Oh withOne Vaprbg.diagram at q;dsimp only at q;refine⟨Ws ex rfl,W0 x L us s0 D i ⟨rfl,hX,?_⟩⟩;cases hi:index i (s0.length+2)with
  |none=>
   rw[hi]at q;exact(cC q VW).r2 rfl
  |some d=>
   rw[hi]at q;dsimp only at q;obtain⟨rfl,ld⟩:=cw hi;have hn:=hX.vb.le;obtain⟨a,ea,ta⟩:=hX.ta.get ld;refine c6 (λh1=>d4 ?_) λh1=>c6 (λh2=>?_) λh2=>?_
   ·have h1':=aD h1;unfold Vaprbg.listAnswer at q;rw[ao (.inl h1')]at q;exact cM (us:=[]) rfl (by show 0<=1000;decide) ((cC q VW).r5 rfl)
   ·have h2':=aD h2;unfold Vaprbg.listAnswer at q;rw[ao (.inr h2')]at q;exact cM (us:=[]) rfl (by show 0<=1000;decide) ((cC q VW).r5 rfl)
   ·have h1':¬n<0:=λz=>h1 (au z);have h2':¬200<n:=λz=>h2 (au z);unfold Vaprbg.listAnswer at q;rw[ah VX]at q;dsimp only at q;have etr:Vaprbg.truths us s0 d=(c7 (2^us.length) a).map (bitsOf us.length):=vi ta;rw[etr,<-HV]at q;refine⟨_,Wq ex T.aw.cl (T.aw.no _ VW) rfl,Ws es rfl,_,Wq ex T.aw.cl (T.aw.no _ VW) rfl,_,Wt (cN.of hX.xK) ea,WY L.sp us.length a n ⟨rfl,VX,hn,ta.lt,λpl H1 npl hpl s1=>?_⟩⟩;have hG:((c7 (2^us.length) a).take n.toNat).length<=200:=by
     have:=List.length_take_le n.toNat (c7 (2^us.length) a);lia
    generalize(c7 (2^us.length) a).take n.toNat=G at*
    refine⟨_,_,rfl,.inl ⟨_,cN.of hpl,rfl⟩,(by show 1<=sizeLine;rw[aM];decide),λal nal=>?_⟩;rw[cA];have fal:H al=none:=s1.no nal;have npa:pl≠al:=aq hpl nal;have s2:bq H (upd H1 al (.lst [.int (G.length:Nat)])):=λb o e=>ak (s1 b o e) (aq e fal);have a2:upd H1 al (.lst [.int (G.length:Nat)]) al=some (.lst [.int (G.length:Nat)]):=aC;have p2:=ak (o:= .lst [.int (G.length:Nat)]) hpl npa;revert s2 a2 p2;generalize upd H1 al (.lst [.int (G.length:Nat)])=H2;intro s2 a2 p2;have hfl:∀j,((((G.take j).map (bitsOf us.length)).flatMap Vaprbg.bits)).length<=2400:=λj=>by
     rw[FX _ us.length λx hx=>by
      obtain⟨p,_,rfl⟩:=List.mem_map.mp hx;exact cJ _ _]
     rw[ay];have:(G.take j).length<=200:=by
      rw[cz];lia
     exact be (Nat.mul_le_mul this hn) VW
    refine⟨λσ H'=>∃(v5:Option V),σ=[some (.ref x),some (.int d),some (.int n),some (.ref pl),some (.ref al),v5]/\H' al=some (.lst (((G.length:Int)::(G.map (bitsOf us.length)).flatMap Vaprbg.bits).map V.int))/\bq H H',?_,?_⟩
    ·refine⟨pl,rfl,⟨_,cN.of p2⟩,tT (xs:=bx G) (λj σ H'=>∃(v5:Option V),σ=[some (.ref x),some (.int d),some (.int n),some (.ref pl),some (.ref al),v5]/\H' al=some (.lst (((G.length:Int)::((G.take j).map (bitsOf us.length)).flatMap Vaprbg.bits).map V.int))/\bq H H'/\H' pl=some (.lst (bx G))) ⟨none,rfl,a2,s2,p2⟩ (λj σ H' _ z=>by obtain⟨_,_,_,_,z⟩:=z;exact cN.of z) ?_ ?_⟩
     ·rintro j y σ H' hy ⟨v5,rfl,z1,z2,z3⟩;unfold bx at hy;rw[aR]at hy;obtain⟨c,hc,rfl⟩:=Option.map_eq_some_iff.mp hy;obtain⟨hlt,hd'⟩:=List.getElem?_eq_some_iff.mp hc;have et:G.take (j+1)=G.take j++[c]:=by
       rw[bB hlt,hd']
      have hX':=hX.same z2;obtain⟨dx',ex'⟩:=hX'.ex;obtain⟨dxs',es'⟩:=hX'.vx;refine⟨.inl ⟨rfl,_,cN.of z1⟩,_,Wq ex' T.aw.cl (T.aw.no _ VW) rfl,Ws es' rfl,WZ L.sp us.length c ⟨rfl,hX'.sc,λbl H3 nbl hbl s3=>?_⟩⟩;have z1':=s3 _ _ z1;refine WY al bl _ _ ⟨rfl,rfl,z1',hbl,?_,_,rfl,?_,λb o e=>ak (s3 _ _ (z2 b o e)) (aq e fal),ak (s3 _ _ z3) npa⟩
      ·rw[ay,ay,aT,aM];have:=hfl j;have hb:(Vaprbg.bits (bitsOf us.length c)).length=us.length:=by
        unfold Vaprbg.bits;rw[ay,cJ]
       lia
      ·rw[aC,et];simp
     ·rintro σ H' ⟨v5,z0,z1,z2,z3⟩;rw[cA,cO]at z1;exact⟨v5,z0,z1,z2⟩
    ·rintro σ H' ⟨v5,rfl,z1,z2⟩;refine vn q hX (by dsimp only;lia) fal z2 ?_;rw[ay];exact z1
end
theorem Ol{n t:Nat}:(c7 (2^n) t).length<=2^n:=by
 have:=dj (λp=>t.testBit p) (List.range (2^n));rw[cy]at this;exact this
section
include T
theorem C4:dQ P w K mg base 18 t.uB ["store","diagram"] (jZ t 1 Og):=by
 refine T.wG.ok dR (λvs H Q E h=>?_) (λcdv A outer s H vs Q E hr h=>?_)
 ·obtain⟨x,L,us,s0,D,is,hl,rfl,_⟩:=h;simp[hl]
 ·obtain⟨x,L,us,s0,D,is,hl,rfl,hX,hz,q⟩:=h;obtain⟨i,rfl⟩:=WR hl;obtain⟨dx,ex⟩:=hX.ex;obtain⟨dxs,es⟩:=hX.vx;refine⟨_,(ag (bw (bR (a5 T) T.aw.cl T.a7 (hr.mono VW) aS.passes (Wo 0) (aa (Wo 1) ai))) (ag (cj (Wv cQ (Wo 1) aK (bu _)) (az (ly (gK T) T.cF.lM T.cF.ma (hr.mono VW) aS)) bo) (ag (a9 (i:=2) dR.nd rfl (Or.inr rfl) (fh (tM T) T.aw.cl T.kW (hr.mono VW) bF (Wo 0))) (ag (a9 (i:=3) dR.nd rfl (Or.inl rfl) (bR (tu T) T.bg.cl T.m5 (hr.mono VW) bF (Wp K (Wo 0) rfl) (aa (bp (Wr K) (Wp K (Wo 0) rfl) (Wo 1) (λ_ _=>rfl)) (aa (bp (Wr K) (Wp K (Wo 0) rfl) (Wo 1) (λ_ _=>rfl)) ai)))) (ag (a9 (i:=4) dR.nd rfl (Or.inr rfl) (b6 (RD rfl) rfl T.TQ PyProof.Rows.boot_max (aa (D6 (own:=[("place",5)]) rfl dR.nd (jt (Wo 3)) (show t6 ["store","diagram","weights","places","greatest","place","best","chance"] (aI iL) _ _ from⟨rfl,VY,VY,VY,VY⟩) (λ_ _ _ _ _=>fu (i:=5) dR.nd rfl (Or.inl rfl)) (λ_ _ _ _ _=>xT) (λ_ _ _ _ _=>(bp (Wr K) (Wo 2) (Wo 5) (λ_ _=>rfl)))) ai))) (ag (MH (i:=6) (own:=[("place",5)]) rfl dR.nd rfl rfl (O5 rfl rfl rfl VY) (jt (Wo 3)) (show t6 ["store","diagram","weights","places","greatest","place","best","chance"] (aI iL) _ _ from⟨rfl,VY,VY,VY,VY⟩) (λ_ _ _ _ _=>fu (i:=5) dR.nd rfl (Or.inl rfl)) (λ_ _ _ _ _=>(JW (Wv cQ (bp (Wr K) (Wo 2) (Wo 5) (λ_ _=>rfl)) (Wo 4) (bu _)))) (λ_ _ _ _ _=>(Wo 5))) (ag (a9 (i:=7) dR.nd rfl (Or.inl rfl) (cH (vE T) T.uN (hr.mono VW) bF (aa (Wo 4) (aa (Wp K (Wo 0) rfl) ai)))) (az (aX (bI Io (cI (aa (b6 cD rfl T.gP bf (aa (Wo 6) ai)) (aa (bp (Ww K) (Wo 7) aK (λ_ _=>rfl)) (aa (bp (Ww K) (Wo 7) aK (λ_ _=>rfl)) ai)))) (bR (nG T) T.bg.cl T.jK (hr.mono VW) bF (Wp K (Wo 0) rfl) (aa (bp (Wr K) (Wo 6) aK (λ_ _=>rfl)) ai)))))))))))),?_⟩;unfold Og withOne Vaprbg.diagram at q;dsimp only at q;refine⟨Ws ex rfl,W0 x L us s0 D i ⟨rfl,hX,?_⟩⟩;cases hi:index i (s0.length+2)with
  |none=>
   rw[hi]at q;exact(cC q VW).r2 rfl
  |some d=>
   rw[hi]at q;dsimp only at q;obtain⟨rfl,ld⟩:=cw hi;have hn:=hX.vb.le;have p12:2^us.length<=4096:=qH hn;unfold Vaprbg.looked at q;dsimp only at q;refine⟨rfl,c6 (λh1=>?_) λh1=>?_⟩
   ·have h1':d=0:=by
     have z:=aD h1;injection z with z
     lia
    subst h1';rw[Lw]at q;exact cM (us:=[]) rfl (by show 0<=1000;decide) ((cC q VW).r6 rfl)
   ·have h1':d≠0:=λz=>h1 (au (by rw[z];rfl));obtain⟨a,ea,ta⟩:=hX.ta.get ld;obtain⟨y,hy,hw⟩:=hX.ya.get ld;have hone:=Qa hX.wf hn ld h1' ta;have ey:y=(c7 (2^us.length) a).length:=by
     rw[Kx hX.wf hn hw,vi ta,ay]
    refine⟨Ws ex rfl,W1 x L us s0 D ⟨rfl,hX,λwl H1 nwl hwl s1=>?_⟩⟩;have hX1:=hX.same s1;obtain⟨dx1,ex1⟩:=hX1.ex;obtain⟨dxs1,es1⟩:=hX1.vx;refine⟨_,Wq ex1 T.aw.cl (T.aw.no _ VW) rfl,Ws es1 rfl,_,Wq ex1 T.aw.cl (T.aw.no _ VW) rfl,_,Wt (cN.of hX1.xK) ea,_,Wq ex1 T.aw.cl (T.aw.no _ VW) rfl,_,Wt (cN.of hX1.KD) (cx (dA hy)),WZ L.sp us.length a ⟨(y:Int),rfl,VX,hn,ta.lt,λpl H2 npl hpl s2=>?_⟩⟩;rw[bc,ey,cO]at hpl;have hol:=Ol (n:=us.length) (t:=a);have hbest:=@P9 us hX.vb.ok s0 d a ta;have hlt:∀p∈c7 (2^us.length) a,p<2^us.length:=λp hp=>Qm hp;generalize hG:c7 (2^us.length) a=G at*
    have hwl2:=s2 _ _ hwl;have s12:=s1.trans s2;have hwat:∀p,p<2^us.length->(bx ((List.range (2^us.length)).map λp=>tL us (bitsOf us.length p)))[p]?=some (.int (tL us (bitsOf us.length p):Nat)):=λp hp=>dA (by rw[aR,lW hp];rfl);generalize hWW:bx ((List.range (2^us.length)).map λp=>tL us (bitsOf us.length p))=WW at*
    refine⟨pl,rfl,⟨_,cN.of hpl⟩,λR nR=>?_⟩;have fR:H R=none:=s12.no nR;have nRp:pl≠R:=aq hpl nR;have nRw:wl≠R:=aq hwl2 nR;refine xU (xs:=bx G) (λj H'=>H' R=some (.lst (((G.take j).map λp=>((tL us (bitsOf us.length p):Nat):Int)).map V.int))/\H' wl=some (.lst WW)/\bq H H'/\H' pl=some (.lst (bx G))) ⟨aC,ak hwl2 nRw,λb o e=>ak (s12 b o e) (aq e fR),ak hpl nRp⟩ (λj H' _ z=>cN.of z.2.2.2) ?_ ?_
    ·rintro j y' H' hy' ⟨z1,z2,z3,z4⟩;unfold bx at hy';rw[aR]at hy';obtain⟨c,hc,rfl⟩:=Option.map_eq_some_iff.mp hy';obtain⟨hlt',hd'⟩:=List.getElem?_eq_some_iff.mp hc;have et:G.take (j+1)=G.take j++[c]:=by
      rw[bB hlt',hd']
     refine⟨rfl,?_⟩;unfold KU;show(if true=true then _ else _);rw[ao rfl];refine⟨_,Wt (cN.of z2) (cx (hwat c (hlt c (bE hc)))),_,z1,?_,?_,ak z2 nRw,λb o e=>ak (z3 b o e) (aq e fR),ak z4 nRp⟩
     ·rw[ay,ay,cz,aM];lia
     ·rw[aC,et];simp
    rintro H3 ⟨r3,w3,s3,p3⟩;rw[cA,cO]at r3;refine⟨R,_,rfl,cN.of r3,?_,λmx hmx hge=>?_⟩
    ·rw[ay];exact List.length_pos_iff.mpr hone
    obtain⟨p0,hp0,em⟩:=List.mem_map.mp hmx;obtain⟨m,rfl⟩:∃m:Nat,mx=(m:Int):=⟨_,em.symm⟩;have hge':∀p∈G,tL us (bitsOf us.length p)<=m:=λp hp=>by
     have:=hge _ (List.mem_map.mpr ⟨p,hp,rfl⟩);lia
    obtain⟨pb,rb,efil,ebest⟩:=hbest (m:=m) ⟨p0,hp0,VX⟩ hge';rw[ebest]at q;dsimp only at q;refine⟨pl,rfl,⟨_,cN.of p3⟩,λB nB=>?_⟩;have fB:H B=none:=s3.no nB;have nBp:pl≠B:=aq p3 nB;have nBw:wl≠B:=aq w3 nB;refine xU (xs:=bx G) (λj H'=>H' B=some (.lst (bx ((G.take j).filter λp=>decide (tL us (bitsOf us.length p)=m))))/\H' wl=some (.lst WW)/\bq H H'/\H' pl=some (.lst (bx G))) ⟨aC,ak w3 nBw,λb o e=>ak (s3 b o e) (aq e fB),ak p3 nBp⟩ (λj H' _ z=>cN.of z.2.2.2) ?_ ?_
    ·rintro j y' H' hy' ⟨z1,z2,z3,z4⟩;unfold bx at hy';rw[aR]at hy';obtain⟨c,hc,rfl⟩:=Option.map_eq_some_iff.mp hy';obtain⟨hlt',hd'⟩:=List.getElem?_eq_some_iff.mp hc;have et:G.take (j+1)=G.take j++[c]:=by
      rw[bB hlt',hd']
     refine⟨rfl,_,Wt (cN.of z2) (cx (hwat c (hlt c (bE hc)))),rfl,c6 (λh2=>?_) λh2=>?_⟩
     ·have h2':tL us (bitsOf us.length c)=m:=by
       have z:=aD h2;injection z with z
       lia
      refine⟨_,z1,?_,?_,ak z2 nBw,λb o e=>ak (z3 b o e) (aq e fB),ak z4 nBp⟩
      ·rw[cA,aM];have:=dj (λp=>decide (tL us (bitsOf us.length p)=m)) (G.take j);rw[cz]at this;lia
      ·rw[aC,fJ,et,gw,iJ,au h2',ao rfl];rfl
     ·have h2':¬tL us (bitsOf us.length c)=m:=λz=>h2 (au (by rw[z]));refine⟨?_,z2,z3,z4⟩;rw[et,gw,iJ,aQ h2',ah VW,List.filter_nil,bD];exact z1
    rintro H4 ⟨b4,w4,s4,p4⟩;rw[cA,cO,efil]at b4;have hbl:(pb::rb).length<=4096:=by
     rw[<-efil];have:=dj (λp=>decide (tL us (bitsOf us.length p)=m)) G;lia
    have hX4:=hX.same s4;obtain⟨dx4,ex4⟩:=hX4.ex;refine⟨_,Wq ex4 T.aw.cl (T.aw.no _ VW) rfl,m,pre us us.length,rfl,eM (oB hX.vb.ok _),CZ hX.vb,λcp H5 ncp hcp s5=>?_⟩;have b5:=s5 _ _ b4;rw[nz]at hcp;refine⟨_,_,rfl,.inl ⟨_,cN.of b5,rfl⟩,.int (lh (mkRat m (pre us us.length))).num,Wt (iK.of hcp) rfl,.int (lh (mkRat m (pre us us.length))).den,Wt (iK.of hcp) rfl,(by show 3<=sizeLine;rw[aM];decide),λhd nhd=>?_⟩;rw[cA];have s6:bq H5 (upd H5 hd (.lst [.int ((pb::rb).length:Nat),.int (lh (mkRat m (pre us us.length))).num,.int (lh (mkRat m (pre us us.length))).den])):=λb o e=>ak e (aq e nhd);have h6:upd H5 hd (.lst [.int ((pb::rb).length:Nat),.int (lh (mkRat m (pre us us.length))).num,.int (lh (mkRat m (pre us us.length))).den]) hd=some (.lst [.int ((pb::rb).length:Nat),.int (lh (mkRat m (pre us us.length))).num,.int (lh (mkRat m (pre us us.length))).den]):=aC;revert s6 h6;generalize upd H5 hd (.lst [.int ((pb::rb).length:Nat),.int (lh (mkRat m (pre us us.length))).num,.int (lh (mkRat m (pre us us.length))).den])=H6;intro s6 h6;have s06:=(s4.trans s5).trans s6;have hX6:=hX.same s06;obtain⟨dx6,ex6⟩:=hX6.ex;obtain⟨dxs6,es6⟩:=hX6.vx;refine⟨_,Wq ex6 T.aw.cl (T.aw.no _ VW) rfl,Ws es6 rfl,.int (pb:Nat),Wt (cN.of (s6 _ _ b5)) (show Dr (bx (pb::rb)) ((0:Nat):Int)=some (.int (pb:Nat))from cx (dA (l:=pb::rb) (i:=0) rfl)),WZ L.sp us.length pb ⟨rfl,hX6.sc,λbl H7 nbl hbl7 s7=>?_⟩⟩;refine⟨hd,WZ bl _ _ ⟨rfl,rfl,s7 _ _ h6,hbl7,?_,λal nal=>?_⟩⟩
    ·rw[ay];have hb:(Vaprbg.bits (bitsOf us.length pb)).length=us.length:=by
      unfold Vaprbg.bits;rw[ay,cJ]
     rw[hb,aM];show 3+us.length<=_;lia
    ·refine vn q hX (by show(0:Int)<=(((pb::rb).length:Nat):Int);lia) ((s06.trans s7).no nal) ((s06.trans s7).trans λc o e=>ak e (aq e nal)) ?_;rw[aC];rfl
end
open VaprbBase(Bytes)
open Vaprbg(readForm)
noncomputable def Ss(l:Bytes)(st:State):State×Answer:=match readForm st.vars l with
 | .error f=>(st,{value:=0,rest:=[(f.code:Int),(f.place:Int)]})
 | .ok f=>
   let x:=made st λas=>f.val as
   if x.2.value<0 then x else(x.1,{value:=1,rest:=[x.2.value]})
def Ui(K:PySem.W.Frag)(t:Ad):Sp:=λvs H Q E=>∃(x nl a:Addr)(L:SA)(us:List Var)(s:c4)(D:SL)(l:Bytes),vs=[.ref x,.ref nl,.ref a]/\fZ t H x L us s D/\s.length<=3000/\PU H nl us/\FA K H a l/\Due t H x L us (Ss l ⟨us,s⟩) Q E
section
include T
theorem DQ(hPa:AN P w K mg "PARTS" gN):dQ P w K mg base 56 t.xi ["store","names","text"] (Ui K t):=by
 refine T.yk.TC oO (λvs H Q E h=>?_) (λcdv A outer s H vs Q E hr h=>?_)
 ·revert h;refine W7 λx nl a L=>W7 λus s0 D l=>W9 λe0_ _=>?_;subst e0_;rfl
 ·revert h;refine W7 λx nl a L=>W7 λus s0 D l=>Xb λe0_ hX hz hN hS q=>?_;subst e0_;obtain⟨dx,ex⟩:=hX.ex;refine⟨_,zx (Fj (x:="Fault") (n:="fault") (i:=4) (CH:=t.cX) (Eb:=λC od H'=>∃(f:VaprbBase.Fault)(d:Addr),readForm us l= .error f/\C= .ref t.cX/\od=some d/\H' d=some (XD d (yf [.int f.code,.int f.place]))/\bq H H') rfl rfl rfl rfl oO.nd rfl rfl rfl T.cf.ma T.cf.lM.ok
   (az (a9 (i:=3) oO.nd rfl (Or.inl rfl) (cH (zS T hPa) T.sJ (hr.mono VW) Fh.passes (aa (Wo 2) (aa (Wo 1) (aa (Wp K (Wo 0) rfl) ai))))))
   (λa oe=>(az (aX (cI (aa aK (aa (x4 (Wo 4) rfl) (aa (x4 (Wo 4) rfl) ai))))))))
   (Gd.zero (az (aX (cI (aa aK (aa (bR (dB T) T.aw.cl T.dC (hr.mono VW) aS.passes (Wo 0) (aa (Wo 3) ai)) ai)))))),?_⟩
  unfold Ss at q;dsimp only at q;refine⟨?_,?_⟩
  ·refine⟨_,Wq ex T.aw.cl (T.aw.no _ VW) rfl,a,nl,L.sp,l,us,rfl,hS,⟨hN,hX.sc⟩,?_⟩;cases hf:readForm us l with
   |error f=>exact λd H' hd sm=>⟨f,d,rfl,rfl,rfl,hd,sm⟩
   |ok f=>
    rw[hf]at q;dsimp only at q;intro tb H' htb sm;have hX':=hX.same sm;obtain⟨dx',ex'⟩:=hX'.ex;refine⟨Ws ex' rfl,x,L,us,s0,D,tb,_,rfl,hX',hz,htb,?_⟩;have e3:Vaprbg.STORE=3000:=rfl;have em:made ⟨us,s0⟩ (λas=>f.val as)=if 3000<(build (λas=>f.val as) us.length [] s0).1.length then((⟨us,s0⟩:State),Vaprbg.refused (-3))else(⟨us,(build (λas=>f.val as) us.length [] s0).1⟩,Vaprbg.count (build (λas=>f.val as) us.length [] s0).2):=rfl;rw[em]at q;by_cases h3:3000<(build (λas=>f.val as) us.length [] s0).1.length
    ·rw[ao h3]at q⊢;have q:Due t H x L us (⟨us,s0⟩,Vaprbg.refused (-3)) Q E:=q;exact((cC q VW).r3 rfl).same sm
    ·rw[ah h3]at q⊢;intro D' H2 hX2 k2;refine⟨(by show 2<=sizeLine;rw[aM];decide),λal nal=>?_⟩;have hv:¬(Vaprbg.count (build (λas=>f.val as) us.length [] s0).2).value<0:=by
      show¬(((build (λas=>f.val as) us.length [] s0).2:Nat):Int)<0;lia
     dsimp only at q;rw[ah hv]at q;unfold Due at q;dsimp only at q;rw[ah VW]at q;have s3:bq H2 (upd H2 al (.lst [.int 1,.int (build (λas=>f.val as) us.length [] s0).2])):=λc o e=>ak e (aq e nal);exact q al D' _ (sm.no (hX2.no k2 nal)) (hX2.same s3) aC (((gc.of sm).trans k2).trans (.of s3))
  ·intro C od H';refine W6 λf d=>Xe λhf hC e0_ hd sm=>?_;subst e0_;injection hC with hC
   subst hC;rw[hf]at q;refine⟨T.cf.lM.ok,T.Fv,λax oe vs h1 h2 h3 h4=>?_⟩;refine W2 ax t.cX oe d _ (.int f.code) vs ⟨rfl,List.mem_singleton.mpr rfl,h1,h2,h3,T.cf.cl,T.cf.no _ VW,hd,rfl,W2 ax t.cX oe d _ (.int f.place) vs ⟨rfl,List.mem_singleton.mpr rfl,h1,h2,h3,T.cf.cl,T.cf.no _ VW,hd,rfl,(by show 3<=sizeLine;rw[aM];decide),λal nal=>?_⟩⟩;unfold Due at q;dsimp only at q;rw[ah VW]at q;have s3:bq H' (upd H' al (.lst [.int 0,.int f.code,.int f.place])):=λc o e=>ak e (aq e nal);exact q al D _ (sm.no nal) (hX.same (sm.trans s3)) aC (.of (sm.trans s3))
end
end TS
namespace TS
open TM
open VaprbBase (Bytes Toks PTok here next takeSign takeNum takeFrac takeChance takeName nameNext RESERVED Frac frac)
open Vaprbg (Var)
def JA(c:Frac):Prop:=c=lh (nW c)/\0<=c.num/\c.num<=c.den/\c.den<=1000000000
theorem DR{ts:Toks}(ok:vP ts){n:Nat}{c:Frac}{l:Toks}(h:takeChance (ts.drop n)= .ok (c,l)):JA c/\∃m,l=ts.drop m:=by
 rw[ng]at h;cases h1:takeNum (ts.drop n)with
 |error f=>
  rw[h1]at h;cases h
 |ok p=>
  obtain⟨x,l1⟩:=p;rw[h1]at h;dsimp only at h;have e1:l1=ts.drop (n+1):=by
   cases hd:ts.drop n with
   |nil=>
    rw[hd]at h1;cases h1
   |cons k r=>
    rw[hd,iu]at h1;have er:r=ts.drop (n+1):=by
     have:=bJ (λz=>List.drop 1 z) hd;simp only[b9]at this;simpa using this.symm
    cases hk:k.tok with
    |num z=>
     rw[hk]at h1;cases h1;exact er
    |name z=>
     rw[hk]at h1;cases h1
    |sign z=>
     rw[hk]at h1;cases h1
    |halt_=>
     rw[hk]at h1;cases h1
  subst e1;cases h2:den (ts.drop (n+1))with
  |error f=>
   rw[h2]at h;cases h
  |ok p=>
   obtain⟨d,l2⟩:=p;rw[h2]at h;dsimp only at h;obtain⟨d0,d9⟩:=NK ok h2;by_cases hx:x.2<0\/(d:Int)<x.2
   ·rw[ao hx]at h;cases h
   ·rw[ah hx]at h;cases h;refine⟨⟨?_,?_,?_,?_⟩,?_⟩
    ·rw[nz,mf]
    ·have:=mt (u9 d0).mp hx;lia
    ·have:=mt (u9 d0).mp hx;lia
    ·rw[yJ d0];exact be (Nat.div_le_self _ _) d9
    ·unfold den at h2;by_cases hn:next (.sign 47) (ts.drop (n+1))=true
     ·rw[ao hn]at h2;cases h3:takeNum ((ts.drop (n+1)).drop 1)with
      |error f=>
       rw[h3]at h2;cases h2
      |ok p=>
       obtain⟨y,l3⟩:=p;rw[h3]at h2;dsimp only at h2;by_cases hy:y.2<1
       ·rw[ao hy]at h2;cases h2
       ·rw[ah hy]at h2;cases h2;rw[b9]at h3;cases hd:ts.drop (n+1+1)with
        |nil=>
         rw[hd]at h3;cases h3
        |cons k r=>
         rw[hd,iu]at h3;have er:r=ts.drop (n+1+1+1):=by
          have:=bJ (λz=>List.drop 1 z) hd;simp only[b9]at this;simpa using this.symm
         cases hk:k.tok with
         |num z=>
          rw[hk]at h3;cases h3;exact⟨_,er⟩
         |name z=>
          rw[hk]at h3;cases h3
         |sign z=>
          rw[hk]at h3;cases h3
         |halt_=>
          rw[hk]at h3;cases h3
     ·rw[ah hn]at h2;cases h2;exact⟨_,rfl⟩
theorem wY{c:Nat}{ts:Toks}{n:Nat}{l:Toks}(h:takeSign c (ts.drop n)= .ok l):l=ts.drop (n+1):=by
 rw[gn]at h;by_cases hn:next (.sign c) (ts.drop n)=true
 ·rw[ao hn]at h;cases h;rw[b9]
 ·rw[ah hn]at h;cases h
theorem LK{ts:Toks}(ok:vP ts){us:List Var}{n:Nat}{v:Var}{l:Toks}(h:lS us (ts.drop n)= .ok (v,l)):JA v.chance/\(∃m,l=ts.drop m)/\us.length<12:=by
 have hl:=(Co h).2;unfold lS at h;cases h1:newName us (ts.drop n)with
 |error f=>
  rw[h1]at h;cases h
 |ok p=>
  obtain⟨x,l1⟩:=p;rw[h1]at h;dsimp only at h;have e1:l1=ts.drop (n+1):=by
   unfold newName at h1;by_cases hn:nameNext (ts.drop n)=true/\Vaprbg.VARS<=us.length
   ·rw[ao hn]at h1;cases h1
   ·rw[ah hn]at h1;cases hd:ts.drop n with
    |nil=>
     rw[hd]at h1;cases h1
    |cons k r=>
     have er:r=ts.drop (n+1):=by
      have:=bJ (λz=>List.drop 1 z) hd;simp only[b9]at this;simpa using this.symm
     rw[hd,pE]at h1;cases hk:k.tok with
     |name z=>
      rw[hk]at h1;dsimp only at h1;by_cases hz:RESERVED.contains z=true
      ·rw[ao hz]at h1;cases h1
      ·rw[ah hz]at h1;dsimp only at h1;by_cases ha:(us.any λv=>v.name==z)=true
       ·rw[ao ha]at h1;cases h1
       ·rw[ah ha]at h1;cases h1;exact er
     |num z=>
      rw[hk]at h1;cases h1
     |sign z=>
      rw[hk]at h1;cases h1
     |halt_=>
      rw[hk]at h1;cases h1
  subst e1;cases h2:takeSign 58 (ts.drop (n+1))with
  |error f=>
   rw[h2]at h;cases h
  |ok l2=>
   rw[h2]at h;dsimp only at h;have e2:=wY h2;subst e2;cases h3:takeChance (ts.drop (n+1+1))with
   |error f=>
    rw[h3]at h;cases h
   |ok p=>
    obtain⟨c,l3⟩:=p;rw[h3]at h;cases h;obtain⟨a,b⟩:=DR ok h3;exact⟨a,b,hl⟩
theorem AU{ts:Toks}(ok:vP ts):∀{j:Nat}{us us':List Var}{n:Nat},(∀v∈us,JA v.chance)->us.length<=12->Vaprbg.takeVars j us (ts.drop n)= .ok us'->(∀v∈us',JA v.chance)/\us'.length<=12/\us'≠[]
 |0,us,us',n,_,_,h=>by cases h
 |j+1,us,us',n,hc,hl,h=>by
  rw[pF]at h;cases h1:lS us (ts.drop n)with
  |error f=>
   rw[h1]at h;cases h
  |ok p=>
   obtain⟨v,l⟩:=p;rw[h1]at h;dsimp only at h;obtain⟨a,⟨m,rfl⟩,b⟩:=LK ok h1;have hc':∀x∈us++[v],JA x.chance:=λx hx=>by
    rcases List.mem_append.mp hx with z|z
    ·exact hc x z
    ·rw[List.mem_singleton.mp z];exact a
   have hl':(us++[v]).length<=12:=by
    rw[aE];show us.length+1<=12;lia
   unfold nh at h;by_cases hh:next .halt_ (ts.drop m)=true
   ·rw[ao hh]at h;cases h;exact⟨hc',hl',by simp⟩
   ·rw[ah hh]at h;cases h2:takeSign 44 (ts.drop m)with
    |error f=>
     rw[h2]at h;cases h
    |ok l2=>
     rw[h2]at h;dsimp only at h;have e2:=wY h2;subst e2;exact AU ok hc' hl' h
theorem Hx{b:Bytes}{us:List Var}(h:Vaprbg.readVars b= .ok us):(∀v∈us,JA v.chance)/\us.length<=12/\us≠[]:=by
 rw[yL]at h;cases ht:VaprbBase.tokens b with
 |error f=>
  rw[ht]at h;cases h
 |ok ts=>
  rw[ht]at h;dsimp only at h;exact AU (Ey ht) (us:=[]) (n:=0) (λv hv=>absurd hv Bh) (br _) h
end TS
namespace TS
open PySem PySem.Spec PyProof.Rows L2 TM
open VaprbBase (Bytes)
open Vaprbg (Var State Answer readVars)
noncomputable def A7(nl:Addr)(v:V):List (Str×V):=[("names",.ref nl),("store",v)]
noncomputable def SA.all(L:SA)(k nl:Addr):List Addr:=k::nl::L.cl::L.vl::L.mu
structure fW(t:Ad)(H:Hp)(k:Addr)(st:State)(F:List Addr):Prop where
 ex:∃dx nl v,H k=some (.ins t.dH dx (A7 nl v))/\PU H nl st.vars/\((st.vars=[]/\v= .gb/\st.store=[]/\F=[k,nl])\/(st.vars≠[]/\∃x L D,v= .ref x/\F=L.all k nl/\nl∉L.mu/\fZ t H x L st.vars st.store D))
 le:st.store.length<=3000
theorem fW.same{t:Ad}{H H':Hp}{k:Addr}{st:State}{F:List Addr}(h:fW t H k st F)(s:bq H H'):fW t H' k st F:=by
 refine Xc (λdx nl v=>W8 λe n c=>?_) h.ex;refine⟨⟨dx,nl,v,s _ _ e,s _ _ n,?_⟩,h.le⟩;rcases c with c|⟨c,x,L,D,rfl,hF,hn,hX⟩
 ·exact .inl c
 ·exact .inr ⟨c,x,L,D,rfl,hF,hn,hX.same s⟩
theorem Om{us:List Var}(h:∀v∈us,JA v.chance)(hl:us.length<=12):wX us:=⟨⟨λv hv=>⟨(h v hv).1,(h v hv).2.1,(h v hv).2.2.1⟩⟩,hl,λv hv=>(h v hv).2.2.2⟩
def F2(t:Ad):Sp:=λvs H Q _=>∃(k dx:Addr),vs=[.ref k]/\H k=some (.ins t.dH dx [])/\∀nl H',H nl=none->fW t H' k ⟨[],[]⟩ [k,nl]->Kp k H H'->Q .gb H'
def Su(K:PySem.W.Frag)(t:Ad):Sp:=λvs H Q _=>∃(k a:Addr)(st:State)(F:List Addr)(l:Bytes),vs=[.ref k,.ref a]/\fW t H k st F/\FA K H a l/\match readVars l with
 | .error f=>∀al H',H al=none->H' al=some (.lst [.int 0,.int f.code,.int f.place])->bq H H'->Q (.ref al) H'
 | .ok us=>∀al H' F',H al=none->fW t H' k ⟨us,[]⟩ F'->H' al=some (.lst [.int 1])->Kp k H H'->(∀b∈F',b=k\/H b=none)->Q (.ref al) H'
section
include T
theorem C5:dQ P w K mg base 1 t.uF ["self"] (F2 t):=by
 refine T.wM.ok B4 (λvs H Q E h=>?_) (λcdv A outer s H vs Q E hr h=>?_)
 ·obtain⟨k,dx,rfl,_⟩:=h;rfl
 ·obtain⟨k,dx,rfl,hk,q⟩:=h;refine⟨_,(ag (dz (Wo 0) (cI ai) rfl) (az (dz (Wo 0) Mf rfl))),?_⟩;refine⟨(by show 0<=sizeLine;lia),λnl nnl=>?_⟩;have nkl:k≠nl:=aq hk nnl;refine⟨k,t.dH,dx,_,rfl,(by rw[bt nkl];exact hk),T.cU.cl,T.cU.no _ VW,(by show 0<1000;decide),?_⟩;refine⟨k,t.dH,dx,_,rfl,aC,T.cU.cl,T.cU.no _ VW,(by show 1<1000;decide),?_⟩;refine q nl _ nnl ⟨⟨dx,nl,.gb,aC,?_,.inl ⟨rfl,rfl,rfl,rfl⟩⟩,br _⟩ λb o e nb=>ak (ak (ak e (aq e nnl)) nb) nb;show upd (upd (upd H nl (.lst [])) k _) k _ nl=_;rw[bt (bh nkl),bt (bh nkl),aC];rfl
theorem C6:dQ P w K mg base 12 t.uG ["self","text"] (Su K t):=by
 refine T.wN.TC mL (λvs H Q E h=>?_) (λcdv A outer s H vs Q E hr h=>?_)
 ·revert h;refine W7 λk a st F=>Xa λl=>W9 λe0_ _=>?_;subst e0_;rfl
 ·revert h;refine W7 λk a st F=>Xa λl=>Xd λe0_ hK hS q=>?_;subst e0_;refine⟨_,zx (Fj (x:="Fault") (n:="fault") (i:=3) (CH:=t.cX) (Eb:=λC od H'=>∃(f:VaprbBase.Fault)(d:Addr),readVars l= .error f/\C= .ref t.cX/\od=some d/\H' d=some (XD d (yf [.int f.code,.int f.place]))/\bq H H') rfl rfl rfl rfl mL.nd rfl rfl rfl T.cf.ma T.cf.lM.ok
   (az (a9 (i:=2) mL.nd rfl (Or.inl rfl) (cH (A1 T) T.uZ (hr.mono VW) Fh.passes (aa (Wo 1) ai))))
   (λa oe=>(az (aX (cI (aa aK (aa (x4 (Wo 3) rfl) (aa (x4 (Wo 3) rfl) ai))))))))
   (Gd.zero (ag (dz (Wo 0) (Wp K (Wo 2) rfl) rfl) (ag (dz (Wo 0) (oj (DJ T) T.aw.lM T.aw.ma (hr.mono VW) bF (aa (Wp K (Wo 2) rfl) ai)) rfl) (az (aX (cI (aa aK ai))))))),?_⟩
  refine Xc (λdx nl0 v0=>W8 λek hN0 hc0=>?_) hK.ex;refine⟨?_,?_⟩
  ·refine⟨a,l,rfl,hS,?_⟩;cases hf:readVars l with
   |error f=>exact λd H' hd sm=>⟨f,d,rfl,rfl,rfl,hd,sm⟩
   |ok us=>
    rw[hf]at q;dsimp only at q;refine W8 (λhc hl hne=>?_) (Hx hf);have hB:=Om hc hl;intro x H1 hV s1 nx;revert hV;refine Xc λdxv nl cl=>Xe λev hVA fnl fcl nlc=>?_;have ek1:=s1 _ _ ek;have nxk:x≠k:=λz=>by
     rw[z,ek]at nx;cases nx
    refine⟨_,Wq ev T.eD.cl (T.eD.no _ VW) rfl,k,t.dH,dx,_,rfl,ek1,T.cU.cl,T.cU.no _ VW,(by show 2<1000;decide),?_⟩;have k2:Kp k H1 (upd H1 k (.ins t.dH dx (eG "names" (.ref nl) (A7 nl0 v0)))):=Kp.upd;have e2:upd H1 k (.ins t.dH dx (eG "names" (.ref nl) (A7 nl0 v0))) k=some (.ins t.dH dx (A7 nl v0)):=aC;revert k2 e2;generalize upd H1 k (.ins t.dH dx (eG "names" (.ref nl) (A7 nl0 v0)))=H2;intro k2 e2;have ev2:=k2 _ _ ev nxk;have hn2:=k2 _ _ hVA.nm (cn hVA.nm ek1 λz=>nomatch z);have hC2:A2 H2 cl us:=hVA.Vl.kp ek1 k2;refine⟨_,Wq ev2 T.eD.cl (T.eD.no _ VW) rfl,λsx sdx nsx nsdx nne=>WY sx sdx cl us ⟨rfl,aC,?_,hB,λL D H3 hcl fL hX3 kp3=>?_⟩⟩
    ·exact hC2.same (bq.made nsx nsdx λb o e _=>e)
    have s3:bq H2 H3:=bq.made nsx nsdx kp3;have e3:=s3 _ _ e2;refine⟨rfl,k,t.dH,dx,_,rfl,e3,T.cU.cl,T.cU.no _ VW,(by show 2<1000;decide),(by show 1<=sizeLine;rw[aM];decide),λal nal=>?_⟩;have k4:Kp k H3 (upd H3 k (.ins t.dH dx (eG "store" (.ref sx) (A7 nl v0)))):=Kp.upd;have e4:upd H3 k (.ins t.dH dx (eG "store" (.ref sx) (A7 nl v0))) k=some (.ins t.dH dx (A7 nl (.ref sx))):=aC;revert k4 e4 nal;generalize upd H3 k (.ins t.dH dx (eG "store" (.ref sx) (A7 nl v0)))=H4;intro nal k4 e4;have s5:bq H4 (upd H4 al (.lst [.int 1])):=λb o e=>ak e (aq e nal);have hX4:fZ t H4 sx L us [] D:=by
     obtain⟨dX,eX⟩:=hX3.ex;refine Xa (λps=>W8 λec hpl hpa=>?_) hX3.ch;obtain⟨dxs,es⟩:=hX3.vx;obtain⟨vts,hVt⟩:=hX3.vt;refine Xa (λqs=>W8 λe0 hql hqa=>?_) hX3.N5;have nk:∀b o,H3 b=some o->o≠ .ins t.dH dx (A7 nl v0)->H4 b=some o:=λb o e n=>k4 b o e (cn e e3 n);exact⟨⟨dX,nk _ _ eX (λz=>by
      injection z with _ _ z
      have:=bJ List.length z;simp[Qj,A7]at this)⟩,⟨ps,nk _ _ ec (λz=>nomatch z),hpl,λi p v h1 h2=>nk _ _ (hpa i p v h1 h2) (λz=>nomatch z)⟩,⟨dxs,nk _ _ es (λz=>by
      injection z with _ _ z
      have:=bJ List.length z;simp[Lo,A7]at this)⟩,⟨vts,nk _ _ hVt.at_ (λz=>nomatch z),hVt.len,hVt.ok⟩,⟨qs,nk _ _ e0 (λz=>nomatch z),hql,λi p m h1 h2=>nk _ _ (hqa i p m h1 h2) (λz=>nomatch z)⟩,nk _ _ hX3.Jt (λz=>nomatch z),nk _ _ hX3.xK (λz=>nomatch z),nk _ _ hX3.HQ (λz=>nomatch z),nk _ _ hX3.KD (λz=>nomatch z),hX3.ne,hX3.ta,hX3.wa,hX3.ya,hX3.wf,hX3.vb⟩
    have hn4:=k4 _ _ (s3 _ _ hn2) (cn (s3 _ _ hn2) e3 λz=>nomatch z);have fal:H al=none:=by
     cases y:H al with
     |none=>rfl
     |some o=>
      have nk:al≠k:=λz=>by
       rw[z,e4]at nal;cases nal
      rw[k4 _ _ (s3 _ _ (k2 _ _ (s1 _ _ y) nk)) nk]at nal;cases nal
    have fr:∀b,upd (upd H2 sdx (.own sx)) sx (.ins t.a6 sdx []) b=none->b=k\/H b=none:=λb hb=>by
     by_cases z:b=k
     ·exact .inl z
     ·refine .inr ?_;cases y:H b with
      |none=>rfl
      |some o=>
       rw[(bq.made nsx nsdx λb o e _=>e:bq H2 _) _ _ (k2 _ _ (s1 _ _ y) z)]at hb;cases hb
    have hnm:nl∉L.mu:=λhb=>by
     have hb':nl∈[L.vl,L.no,L.nd,L.tl,L.wl,L.yl]:=aL _ hb;have z:=fL nl hb';rw[(bq.made nsx nsdx λb o e _=>e:bq H2 _) _ _ hn2]at z;cases z
    refine q al _ (L.all k nl) fal ⟨⟨dx,nl,.ref sx,s5 _ _ e4,s5 _ _ hn4,.inr ⟨hne,WZ sx L D ⟨rfl,rfl,hnm,hX4.same s5⟩⟩⟩,br _⟩ aC (λb o e nb=>s5 _ _ (k4 _ _ (s3 _ _ (k2 _ _ (s1 _ _ e) nb)) nb)) ?_;intro b hb;unfold SA.all at hb;rcases List.mem_cons.mp hb with rfl|hb
    ·exact .inl rfl
    rcases List.mem_cons.mp hb with rfl|hb
    ·exact .inr fnl
    rcases List.mem_cons.mp hb with rfl|hb
    ·rw[hcl];exact .inr fcl
    ·exact fr b (fL b hb)
  ·intro C od H';refine W6 λf d=>Xe λhf hC e0_ hd sm=>?_;subst e0_;injection hC with hC
   subst hC;rw[hf]at q;refine⟨T.cf.lM.ok,T.Fv,λax oe vs h1 h2 h3 h4=>?_⟩;refine W2 ax t.cX oe d _ (.int f.code) vs ⟨rfl,List.mem_singleton.mpr rfl,h1,h2,h3,T.cf.cl,T.cf.no _ VW,hd,rfl,W2 ax t.cX oe d _ (.int f.place) vs ⟨rfl,List.mem_singleton.mpr rfl,h1,h2,h3,T.cf.cl,T.cf.no _ VW,hd,rfl,(by show 3<=sizeLine;rw[aM];decide),λal nal=>?_⟩⟩;have s3:bq H' (upd H' al (.lst [.int 0,.int f.code,.int f.place])):=λc o e=>ak e (aq e nal);exact q al _ (sm.no nal) aC (sm.trans s3)
end
open Vaprbg(Call)
noncomputable def lU:Call->Int
 | .vars _=>0
 | .add _=>1
 | .both _ _ _=>2
 | .not _=>3
 | .choose _ _ _=>4
 | .set _ _ _=>5
 | .some_ _ _=>6
 | .every _ _=>7
 | .put _ _ _=>8
 | .chance _=>9
 | .given _ _=>10
 | .ways _=>11
 | .node _=>12
 | .nodes _=>13
 | .hangs _=>14
 | .says _ _=>15
 | .list _ _=>16
 | .best _=>17
 | .sizeBy _ _=>18
 | .sizes=>19
noncomputable def KH:Call->List Int
 | .vars _=>[]
 | .add _=>[]
 | .both k i j=>[k,i,j]
 | .not i=>[i]
 | .choose i j k=>[i,j,k]
 | .set i v b=>[i,v,b]
 | .some_ i v=>[i,v]
 | .every i v=>[i,v]
 | .put i v j=>[i,v,j]
 | .chance i=>[i]
 | .given i j=>[i,j]
 | .ways i=>[i]
 | .node i=>[i]
 | .nodes i=>[i]
 | .hangs i=>[i]
 | .says i _=>[i]
 | .list i n=>[i,n]
 | .best i=>[i]
 | .sizeBy i _=>[i]
 | .sizes=>[]
noncomputable def Sv:Call->List Int
 | .vars b=>tx b
 | .add b=>tx b
 | .says _ l=>l
 | .sizeBy _ l=>l
 |_=>[]
def Oo(K:PySem.W.Frag)(t:Ad)(H:Hp)(ca:Addr)(c:Call)(b:Int):Prop:=∃dx nl rl,H ca=some (.ins t.jI dx (R7 [.int (lU c),.ref nl,.ref rl,.int b]))/\cN K H nl ((KH c).map V.int)/\cN K H rl ((Sv c).map V.int)
noncomputable def za(a:Answer):List V:=(a.value::a.rest).map V.int
def Oq(K:PySem.W.Frag)(t:Ad):Sp:=λvs H Q E=>∃(k ca:Addr)(st:State)(F:List Addr)(c:Call)(b:Int),vs=[.ref k,.ref ca]/\fW t H k st F/\Oo K t H ca c b/\lU c≠0/\
 if(Vaprbg.step st c).2.value<0 then Ju t H (Vaprbg.step st c).2.value E else∀al H',H al=none->fW t H' k (Vaprbg.step st c).1 F->H' al=some (.lst (za (Vaprbg.step st c).2))->gc F H H'->Q (.ref al) H'
def Hy(K:PySem.W.Frag)(t:Ad):Sp:=λvs H Q _=>∃(k ca:Addr)(st:State)(F:List Addr)(c:Call)(b:Int),vs=[.ref k,.ref ca]/\fW t H k st F/\Oo K t H ca c b/\
 ∀al H' F',H al=none->fW t H' k (Vaprbg.step st c).1 F'->H' al=some (.lst (za (Vaprbg.step st c).2))->gc F H H'->(∀b∈F',b∈F\/H b=none)->Q (.ref al) H'
theorem fW.mem{t:Ad}{H:Hp}{k:Addr}{st:State}{F:List Addr}(h:fW t H k st F):k∈F:=by
 refine Xc (λdx nl v=>W8 λe n c=>?_) h.ex;rcases c with⟨_,_,_,rfl⟩|⟨_,x,L,D,_,rfl,_,_⟩<;>simp[SA.all]
section
include T
theorem Ag{j:Nat}(hj:14<=j)(F0:dQ P w K mg base j t.gm ["self","call"] (Oq K t)):dQ P w K mg base (j+1) t.kH ["self","call"] (Hy K t):=by
 refine T.sX.TC qb (λvs H Q E h=>?_) (λcdv A outer s H vs Q E hr h=>?_)
 ·revert h;refine W7 λk ca st F=>W6 λc b=>W9 λe0_ _=>?_;subst e0_;rfl
 ·revert h;refine W7 λk ca st F=>W6 λc b=>Xd λe0_ hK hC q=>?_;subst e0_;refine Xc (λdx nl0 v0=>W8 λek hN0 hc0=>?_) hK.ex;revert hC;refine Xc λdxc nl rl=>W8 λec hn hrw=>?_;refine⟨_,zx (PS.zero (cj (Wv cQ (Wp K (Wo 1) rfl) (cv T.QL) (bu _)) (az (aX (bR (C6 T) T.cU.cl T.wO (hr.mono VX) bF (Wo 0) (aa (Wp K (Wo 1) rfl) ai)))) bo))
   (MZ (Fj (x:="Refusal") (n:="refusal") (i:=2) (CH:=t.jB) (Eb:=λC od H'=>∃(Cx d:Addr),C= .ref Cx/\od=some d/\v7 K Cx=true/\PySem.W.mroIn K Cx (.ref t.jB)=some true/\vM K Cx/\df K Cx "number"/\H' d=some (XD d [("number",.int (Vaprbg.step st c).2.value)])/\bq H H'/\(Vaprbg.step st c).2.value<0) rfl rfl rfl rfl qb.nd rfl rfl rfl T.jl.ma T.jl.lM.ok
    (az (aX (bR F0 T.cU.cl T.kY (hr.mono VX) Fh.passes (Wo 0) (aa (Wo 1) ai))))
    (λa oe=>(az (aX (cI (aa (x4 (Wo 2) rfl) ai))))))),?_⟩
  refine⟨_,Wq ec T.dh.cl (T.dh.no _ VW) rfl,rfl,c6 (λh1=>?_) λh1=>?_⟩
  ·have h1':lU c=0:=by
    have z:=aD h1;injection z
   obtain⟨l,rfl⟩:∃l,c= .vars l:=by cases c<;>first|exact⟨_,rfl⟩|cases h1'
   refine⟨Ws ek rfl,_,Wq ec T.dh.cl (T.dh.no _ VW) rfl,k,rl,st,F,l,rfl,hK,hrw,?_⟩;unfold Vaprbg.step at q;dsimp only at q;cases hf:readVars l with
   |error f=>
    rw[hf]at q;intro al H' fal ha sm;exact q al H' F fal (hK.same sm) ha (.of sm) λb hb=>.inl hb
   |ok us=>
    rw[hf]at q;intro al H' F' fal hK' ha kp' hF';refine q al H' F' fal hK' ha (kp'.s hK.mem) λb hb=>?_;rcases hF' b hb with rfl|z
    ·exact .inl hK.mem
    ·exact .inr z
  ·have h1':lU c≠0:=λz=>h1 (au (by rw[z]));refine⟨?_,?_⟩
   ·refine⟨Ws ek rfl,k,ca,st,F,c,b,rfl,hK,⟨dxc,nl,rl,ec,hn,hrw⟩,h1',?_⟩;by_cases hv:(Vaprbg.step st c).2.value<0
    ·rw[ao hv];exact⟨λe d H' hd sm=>⟨_,d,rfl,rfl,T.eB.lM.ok,T.wU,T.eB.cl,T.eB.no _ VW,by rw[e];exact hd,sm,hv⟩,
      λe d H' hd sm=>⟨_,d,rfl,rfl,T.fD.lM.ok,T.AG,T.fD.cl,T.fD.no _ VW,by rw[e];exact hd,sm,hv⟩,
      λe d H' hd sm=>⟨_,d,rfl,rfl,T.fE.lM.ok,T.AH,T.fE.cl,T.fE.no _ VW,by rw[e];exact hd,sm,hv⟩,
      λe d H' hd sm=>⟨_,d,rfl,rfl,T.bV.lM.ok,T.sZ,T.bV.cl,T.bV.no _ VW,by rw[e];exact hd,sm,hv⟩,
      λe d H' hd sm=>⟨_,d,rfl,rfl,T.cF.lM.ok,T.tf,T.cF.cl,T.cF.no _ VW,by rw[e];exact hd,sm,hv⟩⟩
    ·rw[ah hv];exact λal H' fal hK' ha kp'=>q al H' F fal hK' ha kp' λb hb=>.inl hb
   ·intro C od H';refine W6 λCx d=>Xb λhC e0_ g1 g2 g3=>Xd λg4 hd sm hv=>?_;subst e0_;injection hC with hC
    subst hC;refine W8 (λe1 e2 _=>?_) (TM.LA st c hv);refine⟨g1,g2,λax oe vs h1 h2 h3 h4=>?_⟩;refine W2 ax _ oe d _ _ vs ⟨rfl,List.mem_singleton.mpr rfl,h1,h2,h3,g3,g4,hd,rfl,(by show 1<=sizeLine;rw[aM];decide),λal nal=>?_⟩;have s3:bq H' (upd H' al (.lst [.int (Vaprbg.step st c).2.value])):=λc o e=>ak e (aq e nal);refine q al _ F (sm.no nal) (by rw[e1];exact hK.same (sm.trans s3)) ?_ (.of (sm.trans s3)) λb hb=>.inl hb;rw[aC];unfold za;rw[e2];rfl
end
end TS
namespace TS
open PySem PySem.Spec PyProof.Rows L2 TM
open Vaprbg (Node put build Var says nodeOf index State Answer made making withOne withVar Call)
def Sw(K:PySem.W.Frag)(t:Ad):Sp:=λvs H Q E=>∃(x nl:Addr)(L:SA)(us:List Var)(s:c4)(D:SL)(c:Call),vs=[.ref x,.int (lU c),.ref nl]/\fZ t H x L us s D/\s.length<=3000/\cN K H nl ((KH c).map V.int)/\Vaprbg.isMaking c=true/\Due t H x L us (making ⟨us,s⟩ c) Q E
def Qo(K:PySem.W.Frag)(t:Ad):Sp:=λvs H Q E=>∃(x nl rl:Addr)(L:SA)(us:List Var)(s:c4)(D:SL)(c:Call),vs=[.ref x,.int (lU c),.ref nl,.ref rl]/\fZ t H x L us s D/\s.length<=3000/\cN K H nl ((KH c).map V.int)/\cN K H rl ((Sv c).map V.int)/\us≠[]/\9<=lU c/\Due t H x L us (Vaprbg.step ⟨us,s⟩ c) Q E
section
include T
theorem C7:dQ P w K mg base 19 t.uH ["store","number","told"] (Sw K t):=by
 refine T.wQ.ok B5 (λvs H Q E h=>?_) (λcdv A outer s H vs Q E hr h=>?_)
 ·revert h;refine W7 λx nl L us=>Xc λs0 D c=>W9 λe0_ _=>?_;subst e0_;rfl
 ·revert h;refine W7 λx nl L us=>Xc λs0 D c=>Xb λe0_ hX hz hN hm q=>?_;subst e0_;refine⟨_,(ag (cj (Wv cQ (Wo 1) (cv T.QM) (bu _)) (az (aX (cH (CU T) T.wm (hr.mono VW) aS.passes (aa (Wo 0) (aa (bp (Wr K) (Wo 2) aK (λ_ _=>rfl)) (aa (bp (Wr K) (Wo 2) aK (λ_ _=>rfl)) (aa (bp (Wr K) (Wo 2) aK (λ_ _=>rfl)) ai))))))) bo) (ag (cj (Wv cQ (Wo 1) (cv T.TU) (bu _)) (az (aX (cH (DM T) T.yo (hr.mono VW) aS.passes (aa (Wo 0) (aa (bp (Wr K) (Wo 2) aK (λ_ _=>rfl)) ai))))) bo) (ag (cj (Wv cQ (Wo 1) (cv T.Kh) (bu _)) (az (aX (cH (Ae T) T.sM (hr.mono VW) aS.passes (aa (Wo 0) (aa (bp (Wr K) (Wo 2) aK (λ_ _=>rfl)) (aa (bp (Wr K) (Wo 2) aK (λ_ _=>rfl)) (aa (bp (Wr K) (Wo 2) aK (λ_ _=>rfl)) ai))))))) bo) (ag (cj (Wv cQ (Wo 1) (cv T.TV) (bu _)) (az (aX (cH (DN T) T.yq (hr.mono VW) aS.passes (aa (Wo 0) (aa (bp (Wr K) (Wo 2) aK (λ_ _=>rfl)) (aa (bp (Wr K) (Wo 2) aK (λ_ _=>rfl)) (aa (bp (Wr K) (Wo 2) aK (λ_ _=>rfl)) ai))))))) bo) (ag (cj (Wv cQ (Wo 1) (cv T.QN) (bu _)) (az (aX (cH (CQ T) T.wt (hr.mono VW) aS.passes (aa (Wo 0) (aa (bp (Wr K) (Wo 2) aK (λ_ _=>rfl)) (aa (bp (Wr K) (Wo 2) aK (λ_ _=>rfl)) ai)))))) bo) (ag (cj (Wv cQ (Wo 1) (cv T.Nd) (bu _)) (az (aX (cH (A3 T) T.uM (hr.mono VW) aS.passes (aa (Wo 0) (aa (bp (Wr K) (Wo 2) aK (λ_ _=>rfl)) (aa (bp (Wr K) (Wo 2) aK (λ_ _=>rfl)) ai)))))) bo) (az (aX (cH (DO T) T.yt (hr.mono VW) aS.passes (aa (Wo 0) (aa (bp (Wr K) (Wo 2) aK (λ_ _=>rfl)) (aa (bp (Wr K) (Wo 2) aK (λ_ _=>rfl)) (aa (bp (Wr K) (Wo 2) aK (λ_ _=>rfl)) ai))))))))))))),?_⟩;cases c with
  |vars b=>
   cases hm
  |add b=>
   cases hm
  |both k i j=>
   refine⟨rfl,d4 ?_⟩;exact⟨.int k,Wt hN rfl,.int i,Wt hN rfl,.int j,Wt hN rfl,W1 x L us s0 D ⟨[k,i,j],rfl,rfl,hX,hz,q⟩⟩
  |not i=>
   refine⟨rfl,cq ?_⟩;refine⟨rfl,d4 ?_⟩;exact⟨.int i,Wt hN rfl,x,L,us,s0,D,[i],rfl,rfl,hX,hz,q⟩
  |choose i j k=>
   refine⟨rfl,cq ?_⟩;refine⟨rfl,cq ?_⟩;refine⟨rfl,d4 ?_⟩;exact⟨.int i,Wt hN rfl,.int j,Wt hN rfl,.int k,Wt hN rfl,W1 x L us s0 D ⟨[i,j,k],rfl,rfl,hX,hz,q⟩⟩
  |set i v b=>
   refine⟨rfl,cq ?_⟩;refine⟨rfl,cq ?_⟩;refine⟨rfl,cq ?_⟩;refine⟨rfl,d4 ?_⟩;exact⟨.int i,Wt hN rfl,.int v,Wt hN rfl,.int b,Wt hN rfl,W1 x L us s0 D ⟨[i,v,b],rfl,rfl,hX,hz,q⟩⟩
  |some_ i v=>
   refine⟨rfl,cq ?_⟩;refine⟨rfl,cq ?_⟩;refine⟨rfl,cq ?_⟩;refine⟨rfl,cq ?_⟩;refine⟨rfl,d4 ?_⟩;exact⟨.int i,Wt hN rfl,.int v,Wt hN rfl,W1 x L us s0 D ⟨[i,v],rfl,rfl,hX,hz,q⟩⟩
  |every i v=>
   refine⟨rfl,cq ?_⟩;refine⟨rfl,cq ?_⟩;refine⟨rfl,cq ?_⟩;refine⟨rfl,cq ?_⟩;refine⟨rfl,cq ?_⟩;refine⟨rfl,d4 ?_⟩;exact⟨.int i,Wt hN rfl,.int v,Wt hN rfl,W1 x L us s0 D ⟨[i,v],rfl,rfl,hX,hz,q⟩⟩
  |put i v j=>
   refine⟨rfl,cq ?_⟩;refine⟨rfl,cq ?_⟩;refine⟨rfl,cq ?_⟩;refine⟨rfl,cq ?_⟩;refine⟨rfl,cq ?_⟩;refine⟨rfl,cq ?_⟩;exact⟨.int i,Wt hN rfl,.int v,Wt hN rfl,.int j,Wt hN rfl,W1 x L us s0 D ⟨[i,v,j],rfl,rfl,hX,hz,q⟩⟩
  |chance i=>
   cases hm
  |given i j=>
   cases hm
  |ways i=>
   cases hm
  |node i=>
   cases hm
  |nodes i=>
   cases hm
  |hangs i=>
   cases hm
  |says i l=>
   cases hm
  |list i n=>
   cases hm
  |best i=>
   cases hm
  |sizeBy i l=>
   cases hm
  |sizes=>
   cases hm
theorem A8(hH:dQ P w K mg base 18 t.jD ["store","diagram"] (jZ t 1 CY)):dQ P w K mg base 19 t.rT ["store","number","told","row"] (Qo K t):=by
 refine T.u4.ok AZ (λvs H Q E h=>?_) (λcdv A outer s H vs Q E hr h=>?_)
 ·revert h;refine W7 λx nl rl L=>W7 λus s0 D c=>W9 λe0_ _=>?_;subst e0_;rfl
 ·revert h;refine W7 λx nl rl L=>W7 λus s0 D c=>Xb λe0_ hX hz hN hR=>W8 λhne hm q=>?_;subst e0_;refine⟨_,(ag (cj (Wv cQ (Wo 1) (cv T.Ki) (bu _)) (az (aX (cH (Af T) T.sO (hr.mono VW) aS.passes (aa (Wo 0) (aa (bp (Wr K) (Wo 2) aK (λ_ _=>rfl)) ai))))) bo) (ag (cj (Wv cQ (Wo 1) (cv T.Nf) (bu _)) (az (aX (cH (A4 T) T.uP (hr.mono VW) aS.passes (aa (Wo 0) (aa (bp (Wr K) (Wo 2) aK (λ_ _=>rfl)) (aa (bp (Wr K) (Wo 2) aK (λ_ _=>rfl)) ai)))))) bo) (ag (cj (Wv cQ (Wo 1) (cv T.QO) (bu _)) (az (aX (cH (C0 T) T.wx (hr.mono VW) aS.passes (aa (Wo 0) (aa (bp (Wr K) (Wo 2) aK (λ_ _=>rfl)) ai))))) bo) (ag (cj (Wv cQ (Wo 1) (cv T.QP) (bu _)) (az (aX (cH (C1 T) T.wz (hr.mono VW) aS.passes (aa (Wo 0) (aa (bp (Wr K) (Wo 2) aK (λ_ _=>rfl)) ai))))) bo) (ag (cj (Wv cQ (Wo 1) (cv T.Ng) (bu _)) (az (aX (cH (A5 T) T.uR (hr.mono VW) aS.passes (aa (Wo 0) (aa (bp (Wr K) (Wo 2) aK (λ_ _=>rfl)) ai))))) bo) (ag (cj (Wv cQ (Wo 1) (cv T.Nh) (bu _)) (az (aX (cH hH T.uT (hr.mono VW) aS.passes (aa (Wo 0) (aa (bp (Wr K) (Wo 2) aK (λ_ _=>rfl)) ai))))) bo) (ag (cj (Wv cQ (Wo 1) (cv T.QQ) (bu _)) (az (aX (cH (C2 T) T.wC (hr.mono VW) aS.passes (aa (Wo 0) (aa (bp (Wr K) (Wo 2) aK (λ_ _=>rfl)) (aa (Wo 3) ai)))))) bo) (ag (cj (Wv cQ (Wo 1) (cv T.QR) (bu _)) (az (aX (cH (C3 T) T.wF (hr.mono VW) aS.passes (aa (Wo 0) (aa (bp (Wr K) (Wo 2) aK (λ_ _=>rfl)) (aa (bp (Wr K) (Wo 2) aK (λ_ _=>rfl)) ai)))))) bo) (ag (cj (Wv cQ (Wo 1) (cv T.QS) (bu _)) (az (aX (cH (C4 T) T.wH (hr.mono VW) aS.passes (aa (Wo 0) (aa (bp (Wr K) (Wo 2) aK (λ_ _=>rfl)) ai))))) bo) (ag (cj (Wv cQ (Wo 1) (cv T.GW) (bu _)) (az (aX (cH (y8 T) T.qo (hr.mono VW) aS.passes (aa (Wo 0) (aa (bp (Wr K) (Wo 2) aK (λ_ _=>rfl)) (aa (Wo 3) ai)))))) bo) (az (aX (cH (A6 T) T.uV (hr.mono VW) bF (aa (Wo 0) ai)))))))))))))),?_⟩;cases c with
  |vars b=>
   simp only[lU]at hm;lia
  |add b=>
   simp only[lU]at hm;lia
  |both k i j=>
   simp only[lU]at hm;lia
  |not i=>
   simp only[lU]at hm;lia
  |choose i j k=>
   simp only[lU]at hm;lia
  |set i v b=>
   simp only[lU]at hm;lia
  |some_ i v=>
   simp only[lU]at hm;lia
  |every i v=>
   simp only[lU]at hm;lia
  |put i v j=>
   simp only[lU]at hm;lia
  |chance i=>
   have e:Vaprbg.step ⟨us,s0⟩ (.chance i)=CW [i] ⟨us,s0⟩:=by
    unfold Vaprbg.step;dsimp only;rw[ah hne,ah (λz=>nomatch z)];rfl
   rw[e]at q;refine⟨rfl,d4 ?_⟩;exact⟨.int i,Wt hN rfl,x,L,us,s0,D,[i],rfl,rfl,hX,hz,q⟩
  |given i j=>
   have e:Vaprbg.step ⟨us,s0⟩ (.given i j)=Jy [i,j] ⟨us,s0⟩:=by
    unfold Vaprbg.step;dsimp only;rw[ah hne,ah (λz=>nomatch z)];rfl
   rw[e]at q;refine⟨rfl,cq ?_⟩;refine⟨rfl,d4 ?_⟩;exact⟨.int i,Wt hN rfl,.int j,Wt hN rfl,W1 x L us s0 D ⟨[i,j],rfl,rfl,hX,hz,q⟩⟩
  |ways i=>
   have e:Vaprbg.step ⟨us,s0⟩ (.ways i)=Oe [i] ⟨us,s0⟩:=by
    unfold Vaprbg.step;dsimp only;rw[ah hne,ah (λz=>nomatch z)];rfl
   rw[e]at q;refine⟨rfl,cq ?_⟩;refine⟨rfl,cq ?_⟩;refine⟨rfl,d4 ?_⟩;exact⟨.int i,Wt hN rfl,x,L,us,s0,D,[i],rfl,rfl,hX,hz,q⟩
  |node i=>
   have e:Vaprbg.step ⟨us,s0⟩ (.node i)=Of [i] ⟨us,s0⟩:=by
    unfold Vaprbg.step;dsimp only;rw[ah hne,ah (λz=>nomatch z)];rfl
   rw[e]at q;refine⟨rfl,cq ?_⟩;refine⟨rfl,cq ?_⟩;refine⟨rfl,cq ?_⟩;refine⟨rfl,d4 ?_⟩;exact⟨.int i,Wt hN rfl,x,L,us,s0,D,[i],rfl,rfl,hX,hz,q⟩
  |nodes i=>
   have e:Vaprbg.step ⟨us,s0⟩ (.nodes i)=Jz [i] ⟨us,s0⟩:=by
    unfold Vaprbg.step;dsimp only;rw[ah hne,ah (λz=>nomatch z)];rfl
   rw[e]at q;refine⟨rfl,cq ?_⟩;refine⟨rfl,cq ?_⟩;refine⟨rfl,cq ?_⟩;refine⟨rfl,cq ?_⟩;refine⟨rfl,d4 ?_⟩;exact⟨.int i,Wt hN rfl,x,L,us,s0,D,[i],rfl,rfl,hX,hz,q⟩
  |hangs i=>
   have e:Vaprbg.step ⟨us,s0⟩ (.hangs i)=CY [i] ⟨us,s0⟩:=by
    unfold Vaprbg.step;dsimp only;rw[ah hne,ah (λz=>nomatch z)];rfl
   rw[e]at q;refine⟨rfl,cq ?_⟩;refine⟨rfl,cq ?_⟩;refine⟨rfl,cq ?_⟩;refine⟨rfl,cq ?_⟩;refine⟨rfl,cq ?_⟩;refine⟨rfl,d4 ?_⟩;exact⟨.int i,Wt hN rfl,x,L,us,s0,D,[i],rfl,rfl,hX,hz,q⟩
  |says i l=>
   have e:Vaprbg.step ⟨us,s0⟩ (.says i l)=Oj i l ⟨us,s0⟩:=by
    unfold Vaprbg.step;dsimp only;rw[ah hne,ah (λz=>nomatch z)];rfl
   rw[e]at q;refine⟨rfl,cq ?_⟩;refine⟨rfl,cq ?_⟩;refine⟨rfl,cq ?_⟩;refine⟨rfl,cq ?_⟩;refine⟨rfl,cq ?_⟩;refine⟨rfl,cq ?_⟩;refine⟨rfl,d4 ?_⟩;exact⟨.int i,Wt hN rfl,W3 x rl L us s0 D i l ⟨rfl,hX,hz,hR,q⟩⟩
  |list i n=>
   have e:Vaprbg.step ⟨us,s0⟩ (.list i n)=Oh [i,n] ⟨us,s0⟩:=by
    unfold Vaprbg.step;dsimp only;rw[ah hne,ah (λz=>nomatch z)];rfl
   rw[e]at q;refine⟨rfl,cq ?_⟩;refine⟨rfl,cq ?_⟩;refine⟨rfl,cq ?_⟩;refine⟨rfl,cq ?_⟩;refine⟨rfl,cq ?_⟩;refine⟨rfl,cq ?_⟩;refine⟨rfl,cq ?_⟩;refine⟨rfl,d4 ?_⟩;exact⟨.int i,Wt hN rfl,.int n,Wt hN rfl,W1 x L us s0 D ⟨[i,n],rfl,rfl,hX,hz,q⟩⟩
  |best i=>
   have e:Vaprbg.step ⟨us,s0⟩ (.best i)=Og [i] ⟨us,s0⟩:=by
    unfold Vaprbg.step;dsimp only;rw[ah hne,ah (λz=>nomatch z)];rfl
   rw[e]at q;refine⟨rfl,cq ?_⟩;refine⟨rfl,cq ?_⟩;refine⟨rfl,cq ?_⟩;refine⟨rfl,cq ?_⟩;refine⟨rfl,cq ?_⟩;refine⟨rfl,cq ?_⟩;refine⟨rfl,cq ?_⟩;refine⟨rfl,cq ?_⟩;refine⟨rfl,d4 ?_⟩;exact⟨.int i,Wt hN rfl,x,L,us,s0,D,[i],rfl,rfl,hX,hz,q⟩
  |sizeBy i l=>
   have e:Vaprbg.step ⟨us,s0⟩ (.sizeBy i l)=F1 i l ⟨us,s0⟩:=by
    unfold Vaprbg.step;dsimp only;rw[ah hne,ah (λz=>nomatch z)];rfl
   rw[e]at q;refine⟨rfl,cq ?_⟩;refine⟨rfl,cq ?_⟩;refine⟨rfl,cq ?_⟩;refine⟨rfl,cq ?_⟩;refine⟨rfl,cq ?_⟩;refine⟨rfl,cq ?_⟩;refine⟨rfl,cq ?_⟩;refine⟨rfl,cq ?_⟩;refine⟨rfl,cq ?_⟩;refine⟨rfl,d4 ?_⟩;exact⟨.int i,Wt hN rfl,W3 x rl L us s0 D i l ⟨rfl,hX,hz,hR,q⟩⟩
  |sizes=>
   have e:Vaprbg.step ⟨us,s0⟩ (.sizes)=Oi [] ⟨us,s0⟩:=by
    unfold Vaprbg.step;dsimp only;rw[ah hne,ah (λz=>nomatch z)];rfl
   rw[e]at q;refine⟨rfl,cq ?_⟩;refine⟨rfl,cq ?_⟩;refine⟨rfl,cq ?_⟩;refine⟨rfl,cq ?_⟩;refine⟨rfl,cq ?_⟩;refine⟨rfl,cq ?_⟩;refine⟨rfl,cq ?_⟩;refine⟨rfl,cq ?_⟩;refine⟨rfl,cq ?_⟩;refine⟨rfl,cq ?_⟩;exact⟨x,L,us,s0,D,[],rfl,rfl,hX,hz,q⟩
end
theorem Ot{us:List Var}{s:c4}(h:us≠[])(b:VaprbBase.Bytes):Vaprbg.step ⟨us,s⟩ (.add b)=Ss b ⟨us,s⟩:=by
 unfold Vaprbg.step;dsimp only;rw[ah h,ah (λz=>nomatch z)];rfl
theorem Hz{us:List Var}{s:c4}(h:us≠[]){c:Call}(hc:Vaprbg.isMaking c=true):Vaprbg.step ⟨us,s⟩ c=making ⟨us,s⟩ c:=by
 cases c<;>first|(exact absurd hc aj)|(unfold Vaprbg.step;dsimp only;rw[ah h,ao hc])
theorem LL{c:Call}(h0:lU c≠0)(h1:lU c≠1)(h8:lU c<=8):Vaprbg.isMaking c=true:=by
 cases c<;>first|rfl|(simp only[lU]at h0 h1 h8;lia)
section
include T
theorem tO(hPa:AN P w K mg "PARTS" gN)(hH:dQ P w K mg base 18 t.jD ["store","diagram"] (jZ t 1 CY)):dQ P w K mg base 57 t.gm ["self","call"] (Oq K t):=by
 refine T.kX.ok tJ (λvs H Q E h=>?_) (λcdv A outer s H vs Q E hr h=>?_)
 ·revert h;refine W7 λk ca st F=>W6 λc b=>W9 λe0_ _=>?_;subst e0_;rfl
 ·revert h;refine W7 λk ca st F=>W6 λc b=>Xe λe0_ hK hC h0 q=>?_;subst e0_;refine Xc (λdx nl v=>W8 λek hN hc=>?_) hK.ex;revert hC;refine Xc λdxc al rl=>W8 λec hA hR=>?_;refine⟨_,(ag (cj (Wv Rv (Wp K (Wo 0) rfl) Mf (bu _)) (az (ly (vT T) T.eB.lM T.eB.ma (hr.mono VW) aS)) bo) (ag (cj (Wv cQ (Wp K (Wo 1) rfl) (cv T.TR) (bu _)) (az (aX (cH (DQ T hPa) T.ym (hr.mono VW) aS.passes (aa (Wp K (Wo 0) rfl) (aa (Wp K (Wo 0) rfl) (aa (Wp K (Wo 1) rfl) ai)))))) bo) (ag (cj (Wv Mr.j (Wp K (Wo 1) rfl) (cv T.TX) (bu _)) (az (aX (cH (C7 T) T.wR (hr.mono VW) aS.passes (aa (Wp K (Wo 0) rfl) (aa (Wp K (Wo 1) rfl) (aa (Wp K (Wo 1) rfl) ai)))))) bo) (az (aX (cH (A8 T hH) T.u5 (hr.mono VW) aS.passes (aa (Wp K (Wo 0) rfl) (aa (Wp K (Wo 1) rfl) (aa (Wp K (Wo 1) rfl) (aa (Wp K (Wo 1) rfl) ai)))))))))),?_⟩;have hvs:∀b,c≠ .vars b:=λb z=>h0 (by rw[z];rfl);refine⟨_,Wq ek T.cU.cl (T.cU.no _ VW) rfl,rfl,?_⟩;rcases hc with⟨hv,rfl,hs,hF⟩|⟨hv,x,L,D,rfl,hF,hnm,hX⟩
  ·refine d4 ?_;have e:Vaprbg.step st c=(st,Vaprbg.refused (-1)):=by
    unfold Vaprbg.step;split
    ·exact absurd rfl (hvs _)
    ·rw[ao hv]
   rw[e]at q;exact cM (us:=[]) rfl (by show 0<=1000;decide) (Ju.r1 q rfl)
  ·refine cq ?_;obtain⟨us,s0⟩:=st;dsimp only at hv hX hN;have hz:s0.length<=3000:=hK.le;have hkeep:=Js ⟨us,s0⟩ c hvs;have due:Due t H x L us (Vaprbg.step ⟨us,s0⟩ c) Q E:=by
    unfold Due;by_cases hneg:(Vaprbg.step ⟨us,s0⟩ c).2.value<0
    ·rw[ao hneg]at q⊢;exact q
    ·rw[ah hneg]at q⊢;intro al' D' H' hal hX' hal' k';refine q al' H' hal ⟨⟨dx,nl,.ref x,hX.tE k' ek (λ_ z=>nomatch z) (λ_ z=>nomatch z),?_,.inr ⟨?_,WZ x L D' ⟨rfl,hF,hnm,?_⟩⟩⟩,hkeep.2 hz⟩ hal' (k'.mono λb hb=>?_)
     ·rw[hkeep.1];exact k' _ _ hN hnm
     ·rw[hkeep.1];exact hv
     ·rw[hkeep.1];exact hX'
     ·rw[hF];unfold SA.all;exact aL _ (aL _ (aL _ (aL _ hb)))
   refine⟨_,Wq ec T.dh.cl (T.dh.no _ VW) rfl,rfl,c6 (λh1=>?_) λh1=>?_⟩
   ·have h1':lU c=1:=by
     have z:=aD h1;injection z
    obtain⟨l,rfl⟩:∃l,c= .add l:=by cases c<;>first|exact⟨_,rfl⟩|cases h1'
    rw[Ot hv]at due;exact⟨_,Wq ek T.cU.cl (T.cU.no _ VW) rfl,_,Wq ek T.cU.cl (T.cU.no _ VW) rfl,_,Wq ec T.dh.cl (T.dh.no _ VW) rfl,x,nl,rl,L,us,s0,D,l,rfl,hX,hz,hN,hR,due⟩
   ·have h1':lU c≠1:=λz=>h1 (au (by rw[z]));refine⟨_,Wq ec T.dh.cl (T.dh.no _ VW) rfl,c6 (λh2=>?_) λh2=>?_⟩
    ·have h2':lU c<=8:=aD h2;have hm:=LL h0 h1' h2';rw[Hz hv hm]at due;exact⟨_,Wq ek T.cU.cl (T.cU.no _ VW) rfl,_,Wq ec T.dh.cl (T.dh.no _ VW) rfl,_,Wq ec T.dh.cl (T.dh.no _ VW) rfl,W2 x al L us s0 D c ⟨rfl,hX,hz,hA,hm,due⟩⟩
    ·have h2':¬lU c<=8:=λz=>h2 (au z);exact⟨_,Wq ek T.cU.cl (T.cU.no _ VW) rfl,_,Wq ec T.dh.cl (T.dh.no _ VW) rfl,_,Wq ec T.dh.cl (T.dh.no _ VW) rfl,_,Wq ec T.dh.cl (T.dh.no _ VW) rfl,W3 x al rl L us s0 D c ⟨rfl,hX,hz,hA,hR,hv,VX,due⟩⟩
end
end TS
namespace TS
open PySem PySem.Spec PyProof.Rows L2 TM
open Vaprbg (Node put build Var says nodeOf index State Answer made making withOne withVar)
theorem Ou{n:Nat}{s:c4}(w:WF n s){d:Nat}(hd:d<s.length+2):(∀x∈Vaprbg.nodes s d,∃m,nodeOf s x=some m)/\(Vaprbg.nodes s d).length<=s.length+2:=by
 obtain⟨h1,h2,h3⟩:=CC w (s.length+3) 0 [d] (FU hd) (λj a m hj=>absurd hj VX) VX (by simp);unfold Vaprbg.nodes;refine⟨λx hx=>?_,be (dj _ _) h1.len⟩;obtain⟨a,b⟩:=List.mem_filter.mp hx;have b':=aD b;exact si (h1.lt x a) VX
theorem Ov{α β:Type}(f:α->Option β)(g:α->β):∀{l:List α},(∀x∈l,f x=some (g x))->l.filterMap f=l.map g
 |[],_=>rfl
 |x::l,h=>by rw[List.filterMap_cons_some (h x aV),Ov f g λy hy=>h y (aL _ hy),bW]
noncomputable def JB(s:c4)(x:Nat):Nat:=((nodeOf s x).map λm=>m.var).getD 0
section
include T
theorem A9:dQ P w K mg base 18 t.jD ["store","diagram"] (jZ t 1 CY):=by
 refine T.uS.ok iQ (λvs H Q E h=>?_) (λcdv A outer s H vs Q E hr h=>?_)
 ·obtain⟨x,L,us,s0,D,is,hl,rfl,_⟩:=h;simp[hl]
 ·obtain⟨x,L,us,s0,D,is,hl,rfl,hX,hz,q⟩:=h;obtain⟨i,rfl⟩:=WR hl;obtain⟨dx,ex⟩:=hX.ex;refine⟨_,(ag (bw (bR (a5 T) T.aw.cl T.a7 (hr.mono VW) aS.passes (Wo 0) (aa (Wo 1) ai))) (ag (a9 (i:=2) iQ.nd rfl (Or.inl rfl) (b6 (IL rfl) rfl T.Fo PyProof.Rows.boot_sorted (aa (j1 (Ld rfl) rfl T.TK PyProof.Rows.boot_set (aa (D6 (own:=[("number",3)]) rfl iQ.nd (jt (bR (oG T) T.aw.cl T.km (hr.mono VW) bF (Wo 0) (aa (Wo 1) ai))) (show t6 ["store","diagram","variables","number"] (aI jw) _ _ from⟨rfl,VY,VY,VY,VY⟩) (λ_ _ _ _ _=>fu (i:=3) iQ.nd rfl (Or.inl rfl)) (λ_ _ _ _ _=>xT) (λ_ _ _ _ _=>(bp (Ww K) (bR (iC T) T.aw.cl T.gA (hr.mono VW) bF (Wo 0) (aa (Wo 3) ai)) aK (λ_ _=>rfl)))) ai)) ai))) (az (aX (bI Io (cI (aa (b6 cD rfl T.gP bf (aa (Wo 2) ai)) ai)) (Wo 2)))))),?_⟩;unfold CY withOne Vaprbg.diagram at q;dsimp only at q;refine⟨Ws ex rfl,W0 x L us s0 D i ⟨rfl,hX,?_⟩⟩;cases hi:index i (s0.length+2)with
  |none=>
   rw[hi]at q;exact(cC q VW).r2 rfl
  |some d=>
   rw[hi]at q;dsimp only at q;obtain⟨rfl,ld⟩:=cw hi;obtain⟨hnode,hnl⟩:=Ou hX.wf ld;have hho:=@N4 us s0 d;have hqa:Vaprbg.looked ⟨us,s0⟩ d (.hangs d)=Vaprbg.listed (Vaprbg.hangs us s0 d):=rfl;rw[hqa]at q;have hhl:=Ho us s0 d;have hn:=hX.vb.le;refine⟨Ws ex rfl,W0 x L us s0 D d ⟨rfl,hX,hz,ld,λnl H1 nnl hnl1 s1=>⟨nl,rfl,⟨_,cN.of hnl1⟩,λR nR=>?_⟩⟩⟩;have fR:H R=none:=s1.no nR;have nRl:nl≠R:=aq hnl1 nR;have hfm:(Vaprbg.nodes s0 d).filterMap (λx=>(nodeOf s0 x).map λm=>m.var)=(Vaprbg.nodes s0 d).map (JB s0):=Ov _ _ λx hx=>by
    obtain⟨m,hm⟩:=hnode x hx;unfold JB;rw[hm];rfl
   rw[hfm]at hho;generalize Vaprbg.nodes s0 d=G at*
   refine xU (xs:=bx G) (λj H'=>H' R=some (.lst (((G.take j).map λx=>((JB s0 x:Nat):Int)).map V.int))/\bq H H'/\H' nl=some (.lst (bx G))) ⟨aC,λb o e=>ak (s1 b o e) (aq e fR),ak hnl1 nRl⟩ (λj H' _ z=>cN.of z.2.2) ?_ ?_
   ·rintro j y H' hy ⟨z1,z2,z3⟩;unfold bx at hy;rw[aR]at hy;obtain⟨c,hc,rfl⟩:=Option.map_eq_some_iff.mp hy;obtain⟨hlt',hd'⟩:=List.getElem?_eq_some_iff.mp hc;have et:G.take (j+1)=G.take j++[c]:=by
     rw[bB hlt',hd']
    obtain⟨m,hm⟩:=hnode c (bE hc);have hX':=hX.same z2;obtain⟨dx',ex'⟩:=hX'.ex;refine⟨rfl,?_⟩;unfold KU;show(if true=true then _ else _);rw[ao rfl];refine⟨Ws ex' rfl,W2 x L us s0 D c m ⟨rfl,hX',hm,λb hb=>⟨.int (m.var:Nat),Wt (iK.of hb) rfl,_,z1,?_,?_,λb o e=>ak (z2 b o e) (aq e fR),ak z3 nRl⟩⟩⟩
    ·rw[ay,ay,cz,aM];lia
    ·have ev:JB s0 c=m.var:=by
      unfold JB;rw[hm];rfl
     rw[aC,et,<-ev];simp
   ·rintro H2 ⟨r2,s2,n2⟩;rw[cA,cO]at r2;have el:(G.map λx=>((JB s0 x:Nat):Int)).length=G.length:=ay _;refine⟨R,_,rfl,cN.of r2,by rw[el];lia,λse nse=>⟨se,_,rfl,aC,vA _ _,be (firstMet_length_le _ _) (by rw[el];lia),λns l p1 p2 nl2=>?_⟩⟩;have s3:∀o:HO,bq H2 (upd H2 se o):=λo b u e=>ak e (aq e nse);have hns:=hho (ns:=ns) rfl (λy hy=>?_) (p1.nodup_iff.mpr (vA _ _)) p2 (λy=>?_)
    ·subst hns;refine⟨_,_,rfl,.inl ⟨_,cN.of aC,rfl⟩,(by show 1<=sizeLine;rw[aM];decide),λc nc=>?_⟩;have s4:∀o:HO,bq _ (upd _ l o):=λo b u e=>ak e (aq e nl2);have s04:=s2.trans ((s3 _).trans (s4 (.lst (((Vaprbg.hangs us s0 d).map λx:Nat=>(x:Int)).map V.int))));refine WY c l _ _ ⟨rfl,rfl,aC,ak aC (aq aC nc),?_,λal nal=>?_⟩
     ·show 1+(((Vaprbg.hangs us s0 d).map λx:Nat=>(x:Int)).map V.int).length<=_;rw[ay,ay,aM];lia
     ·have s6:∀o:HO,bq _ (upd _ c o):=λo b u e=>ak e (aq e nc);have s5:=s04.trans (s6 (.lst [.int ((((Vaprbg.hangs us s0 d).map λx:Nat=>(x:Int)).map V.int).length:Nat)]));refine vn q hX (by show(0:Int)<=((Vaprbg.hangs us s0 d).length:Int);lia) (s5.no nal) (s5.trans λc o e=>ak e (aq e nal)) ?_;rw[aC];show some (HO.lst (V.int ((((Vaprbg.hangs us s0 d).map λx:Nat=>(x:Int)).map V.int).length:Nat)::((Vaprbg.hangs us s0 d).map λx:Nat=>(x:Int)).map V.int))=_;rw[ay,ay];rfl
    ·obtain⟨z,hz2,rfl⟩:=List.mem_map.mp hy;obtain⟨m,hm⟩:=hnode z hz2;unfold JB;rw[hm];exact(hX.wf.node hm).1
    ·rw[p1.mem_iff,Pr,List.mem_map];constructor
     ·rintro⟨z,hz2,rfl⟩;exact⟨_,List.mem_map.mpr ⟨z,hz2,rfl⟩,rfl⟩
     ·rintro⟨z,hz2,rfl⟩;obtain⟨z',hz3,rfl⟩:=List.mem_map.mp hz2;exact⟨z',hz3,rfl⟩
end
end TS
namespace TS
open PySem PySem.Spec PyProof.Rows L2 TM
def zb(P:Program)(w:World)(K:PySem.W.Frag)(mg:Str->Option Value):Prop:=∃(a:Addr)(kvs:List (Key×V)),GV mg "FORMS" (.ref a)/\AM P w K a kvs/\∀(p:Int)(n k:Nat),PyVaprbg.shape p=some (n,k)->∃b,fv kvs (.inl p)=some (.ref b)/\∀H,iK K H b [.int n,.int k]
theorem HA(l:List Int){i j:Nat}(hij:i<=j)(hj:j<=l.length):BJ (l.map V.int) (some (i:Int)) (some (j:Int))=((l.drop i).take (j-i)).map V.int:=by
 unfold BJ;rw[ay,HT.Bj,HT.Bj,Dj hj,Dj (be hij hj)];rw[<-HU,<-HV]
theorem EO{l r:List Int}{i:Nat}{p:Int}(h:l.drop i=p::r):l[i]?=some p/\l.drop (i+1)=r/\l.length=i+1+r.length:=by
 have h1:l[i]?=some p:=by
  have:=bJ (λz=>z[0]?) h;simpa using this
 refine⟨h1,?_,?_⟩
 ·have:=bJ (λz=>List.drop 1 z) h;simp only[b9]at this;simpa using this
 ·have:=bJ List.length h;rw[bU,aT]at this;lia
def Qp(t:Ad)(H:Hp)(ca:Addr)(p:Int)(ns row:List Int)(b:Nat):Prop:=∃dx nl rl,H ca=some (.ins t.jI dx (R7 [.int p,.ref nl,.ref rl,.int b]))/\H nl=some (.lst (ns.map V.int))/\H rl=some (.lst (row.map V.int))
def Ow(K:PySem.W.Frag)(t:Ad):Sp:=λvs H Q _=>∃(cs:Addr)(l:List Int)(i:Nat)(p:Int)(r:List Int)(n k:Nat)(row:List Int)(b:Nat),vs=[.ref cs,.int i]/\cN K H cs (l.map V.int)/\l.drop i=p::r/\PyVaprbg.shape p=some (n,k)/\n<=r.length/\
 ((k=0/\row=[]/\b=i+1+n)\/(k=1/\∃(m:Nat)(r':List Int),r.drop n=(m:Int)::r'/\m<=r'.length/\row=r'.take m/\b=i+1+n+1+m))/\∀ca H',Qp t H' ca p (r.take n) row b->bq H H'->Q (.ref ca) H'
section
include T
theorem F3:dQ P w K mg base 1 t.zM ["self","number","numbers","row","behind"] (Br t.jI 4 R7):=by
 refine T.AF.ok Fm (λvs H Q E h=>?_) (λcdv A outer s H vs Q E hr h=>?_)
 ·obtain⟨x,dx,us,rfl,hl,_⟩:=h;exact bJ Nat.succ hl
 ·obtain⟨x,dx,us,rfl,hl,hx,q⟩:=h;obtain⟨k,h,p,b,rfl⟩:=WX hl;refine⟨_,(ag (dz (Wo 0) (Wo 1) rfl) (ag (dz (Wo 0) (Wo 2) rfl) (ag (dz (Wo 0) (Wo 3) rfl) (az (dz (Wo 0) (Wo 4) rfl))))),?_⟩;refine WY x t.jI dx _ ⟨rfl,hx,T.dh.cl,T.dh.no _ VW,(by show 0<1000;decide),?_⟩;refine WY x t.jI dx _ ⟨rfl,aC,T.dh.cl,T.dh.no _ VW,(by show 1<1000;decide),?_⟩;refine WY x t.jI dx _ ⟨rfl,aC,T.dh.cl,T.dh.no _ VW,(by show 2<1000;decide),?_⟩;refine WY x t.jI dx _ ⟨rfl,aC,T.dh.cl,T.dh.no _ VW,(by show 3<1000;decide),?_⟩;exact q _ aC λb o e n=>by rw[bt n,bt n,bt n,bt n];exact e
theorem JC(hFo:zb P w K mg):dQ P w K mg base 3 t.Ft ["calls","place"] (Ow K t):=by
 revert hFo;refine W6 λaF kvs=>W8 λgFORMS hKD hsh=>?_;refine T.Es.ok gh (λvs H Q E h=>?_) (λcdv A outer s H vs Q E hr h=>?_)
 ·revert h;refine W7 λcs l i p=>W7 λr n k row=>Xa λb=>W9 λe0_ _=>?_;subst e0_;rfl
 ·revert h;refine W7 λcs l i p=>W7 λr n k row=>Xa λb=>Xb λe0_ hS hl hp hn=>W9 λhk q=>?_;subst e0_;refine W8 (λh1 h2 h3=>?_) (EO hl);refine Xa (λfa=>W9 λhv hT=>?_) (hsh p n k hp);refine⟨_,(ag (a9 (i:=2) gh.nd rfl (Or.inl rfl) (bp (Wr K) (Wo 0) (Wo 1) (λ_ _=>rfl))) (ag (a9 (i:=3) gh.nd rfl (Or.inl rfl) (Ha (cv gFORMS) (Wo 2) (λ_ _=>rfl))) (ag (a9 (i:=4) gh.nd rfl (Or.inl rfl) (bI fH.j (bI fH.j (Wo 1) aK) (bp (Ww K) (Wo 3) aK (λ_ _=>rfl)))) (ag (a9 (i:=5) gh.nd rfl (Or.inl rfl) (BI E3 (Wo 0) (vq (bI fH.j (Wo 1) aK)) (vq (Wo 4)))) (ag (a9 (i:=6) gh.nd rfl (Or.inl rfl) (cI ai)) (ag (cj (Wv cQ (bp (Ww K) (Wo 3) aK (λ_ _=>rfl)) aK (bu _)) (ag (a9 (i:=7) gh.nd rfl (Or.inl rfl) (bI fH.j (Wo 4) aK)) (ag (a9 (i:=4) gh.nd rfl (Or.inl rfl) (bI fH.j (Wo 7) (bp (Wr K) (Wo 0) (Wo 4) (λ_ _=>rfl)))) (az (a9 (i:=6) gh.nd rfl (Or.inl rfl) (BI E3 (Wo 0) (vq (Wo 7)) (vq (Wo 4))))))) bo) (az (aX (oj (F3 T) T.dh.lM T.dh.ma (hr.mono VW) bF (aa (Wo 2) (aa (Wo 5) (aa (Wo 6) (aa (Wo 4) ai))))))))))))),?_⟩;refine⟨.int p,Wt hS (cx (by rw[aR,h1];rfl)),?_⟩;refine WY aF kvs (.inl p) _ ⟨rfl,hKD,rfl,hv,?_⟩;refine⟨.int n,Wt (i:=0) (hT H) rfl,?_⟩;have e1:((i:Int)+1:Int)=((i+1:Nat):Int):=VX;have e2:((i:Int)+1+(n:Int):Int)=((i+1+n:Nat):Int):=VX;refine⟨_,rfl,_,rfl,cs,_,rfl,hS,λnl nnl=>?_⟩;have ec:BJ (l.map V.int) (some ((i:Int)+1)) (some ((i:Int)+1+(n:Int)))=(r.take n).map V.int:=by
   rw[e2,e1,HA l VX VX,h2,show i+1+n-(i+1)=n by lia]
  rw[ec];have s1:bq H (upd H nl (.lst ((r.take n).map V.int))):=λc o e=>ak e (aq e nnl);have n1:upd H nl (.lst ((r.take n).map V.int)) nl=some (.lst ((r.take n).map V.int)):=aC;revert s1 n1;generalize upd H nl (.lst ((r.take n).map V.int))=H1;intro s1 n1;refine⟨(by show 0<=sizeLine;lia),λrl nrl=>?_⟩;have s2:bq H1 (upd H1 rl (.lst [])):=λc o e=>ak e (aq e nrl);have r2:upd H1 rl (.lst []) rl=some (.lst []):=aC;revert s2 r2;generalize upd H1 rl (.lst [])=H2;intro s2 r2;have s12:=s1.trans s2;have hS2:=s12.seq hS;refine⟨.int k,Wt (hT H2) rfl,rfl,?_⟩;rcases hk with⟨rfl,rfl,rfl⟩|⟨rfl,m,r',hm,hmr,rfl,rfl⟩
  ·refine cq (kL rfl λx H3 nx hx s3=>?_);obtain⟨dx3,e3⟩:=hx;dsimp only at e3;rw[e2]at e3;exact q x H3 ⟨dx3,nl,rl,e3,s3 _ _ (s2 _ _ n1),s3 _ _ r2⟩ (s12.trans s3)
  ·obtain⟨g1,g2,g3⟩:=EO (l:=l) (i:=i+1+n) (p:=(m:Int)) (r:=r') (by rw[<-h2,b9]at hm;exact hm);have e4:((i:Int)+1+(n:Int)+1:Int)=((i+1+n+1:Nat):Int):=VX;have e5:((i:Int)+1+(n:Int)+1+(m:Int):Int)=((i+1+n+1+m:Nat):Int):=VX;refine d4 ?_;refine⟨.int m,Wt hS2 (by rw[e2];exact cx (by rw[aR,g1];rfl)),?_⟩;refine⟨_,rfl,_,rfl,cs,_,rfl,hS2,λrl2 nrl2=>?_⟩;have ec2:BJ (l.map V.int) (some ((i:Int)+1+(n:Int)+1)) (some ((i:Int)+1+(n:Int)+1+(m:Int)))=(r'.take m).map V.int:=by
    rw[e5,e4,HA l VX VX,g2,show i+1+n+1+m-(i+1+n+1)=m by lia]
   rw[ec2];have s3:bq H2 (upd H2 rl2 (.lst ((r'.take m).map V.int))):=λc o e=>ak e (aq e nrl2);have r3:upd H2 rl2 (.lst ((r'.take m).map V.int)) rl2=some (.lst ((r'.take m).map V.int)):=aC;revert s3 r3;generalize upd H2 rl2 (.lst ((r'.take m).map V.int))=H3;intro s3 r3;refine kL rfl λx H4 nx hx s4=>?_;obtain⟨dx4,e6⟩:=hx;dsimp only at e6;rw[e5]at e6;exact q x H4 ⟨dx4,nl,rl2,e6,s4 _ _ (s3 _ _ (s2 _ _ n1)),s4 _ _ r3⟩ ((s12.trans s3).trans s4)
end
end TS
namespace TS
open TM
open Vaprbg (Call State Answer)
theorem V6{P:List Int->List (List Int)->Prop}(h1:P [] [])(h2:∀x,P [] [x])(h3:∀x y s,P [] (x::y::s))(h4:∀a,P [a] [])(h5:∀a x,P [a] [x])(h6:∀a x y s,P [a] (x::y::s))(h7:∀a b,P [a,b] [])(h8:∀a b x,P [a,b] [x])(h9:∀a b x y s,P [a,b] (x::y::s))(h10:∀a b c,P [a,b,c] [])(h11:∀a b c x,P [a,b,c] [x])(h12:∀a b c x y s,P [a,b,c] (x::y::s))(h13:∀a b c d r,P (a::b::c::d::r) [])(h14:∀a b c d r x,P (a::b::c::d::r) [x])(h15:∀a b c d r x y s,P (a::b::c::d::r) (x::y::s)):∀ns xs,P ns xs
 |[],[]=>h1
 |[],[x]=>h2 x
 |[],x::y::s=>h3 x y s
 |[a],[]=>h4 a
 |[a],[x]=>h5 a x
 |[a],x::y::s=>h6 a x y s
 |[a,b],[]=>h7 a b
 |[a,b],[x]=>h8 a b x
 |[a,b],x::y::s=>h9 a b x y s
 |[a,b,c],[]=>h10 a b c
 |[a,b,c],[x]=>h11 a b c x
 |[a,b,c],x::y::s=>h12 a b c x y s
 |a::b::c::d::r,[]=>h13 a b c d r
 |a::b::c::d::r,[x]=>h14 a b c d r x
 |a::b::c::d::r,x::y::s=>h15 a b c d r x y s
theorem Ox:∀c:List (List Int),PyVaprbg.whole c=c
 |[]=>rfl
 |[]::_=>rfl
 |(p::ns)::xs=>by
  rcases p with n|n
  ·iterate 20
    rcases n with _|n
    ·revert ns xs;refine V6 ?_ ?_ ?_ ?_ ?_ ?_ ?_ ?_ ?_ ?_ ?_ ?_ ?_ ?_ ?_<;>intros<;>rfl
   rfl
  ·rfl
theorem ER(cs:List (List (List Int))):cs.map PyVaprbg.whole=cs:=by
 have:∀c∈cs,PyVaprbg.whole c=c:=λc _=>Ox c;rw[eQ this,List.map_id']
theorem HB{l:List Int}(h:NeutralIO.bytes l=true):tx (VaprbgNeutral.bytesOf l)=l:=by
 unfold tx VaprbgNeutral.bytesOf;rw[cS];have:∀z∈l,((λb:UInt8=>(b.toNat:Int))∘λb:Int=>UInt8.ofNat b.toNat) z=z:=λz hz=>by
  have hb:=List.all_eq_true.mp h z hz;simp at hb;show((UInt8.ofNat z.toNat).toNat:Int)=z;rw[nJ];have:z.toNat%2^8=z.toNat:=sq VX;rw[this];lia
 rw[eQ this,List.map_id']
theorem qO{l:List Int}(h:(l.all λz=>VaprbgNeutral.natural z 8)=true):NeutralIO.bytes l=true:=by
 unfold NeutralIO.bytes;refine List.all_eq_true.mpr λz hz=>?_;have hb:=List.all_eq_true.mp h z hz;unfold VaprbgNeutral.natural at hb;simp at hb⊢;lia
theorem JD{p:Int}{ns:List Int}{xs:List (List Int)}:VaprbgNeutral.asked1 ((p::ns)::xs)=true->∃c,VaprbgNeutral.callOf ((p::ns)::xs)=some c/\lU c=p/\KH c=ns/\Sv c=xs.headD []:=by
 rcases p with n|n
 ·iterate 20
   rcases n with _|n
   ·revert ns xs;refine @V6 _ ?_ ?_ ?_ ?_ ?_ ?_ ?_ ?_ ?_ ?_ ?_ ?_ ?_ ?_ ?_<;>intros<;>first|exact⟨_,rfl,rfl,rfl,rfl⟩|exact absurd ‹_› aj|exact⟨.vars _,ao (qO (Bool.and_eq_true_iff.mp ‹_›).1),rfl,rfl,HB (qO (Bool.and_eq_true_iff.mp ‹_›).1)⟩|exact⟨.add _,ao (qO (Bool.and_eq_true_iff.mp ‹_›).1),rfl,rfl,HB (qO (Bool.and_eq_true_iff.mp ‹_›).1)⟩
  exact λh=>absurd h aj
 ·exact λh=>absurd h aj
theorem JE{f:Nat}{p:Int}{r:List Int}{cs:List (List (List Int))}(h:PyFlat.calls PyVaprbg.shape f (p::r)=some cs):∃f' n k xs u cs',f=f'+1/\PyVaprbg.shape p=some (n,k)/\n<=r.length/\PyFlat.rows k (r.drop n)=some (xs,u)/\cs=((p::r.take n)::xs)::cs'/\PyFlat.calls PyVaprbg.shape f' u=some cs':=by
 cases f with
 |zero=>cases h
 |succ f=>
  rw[PyFlat.calls]at h;unfold PyFlat.call at h;dsimp only at h;cases hs:PyVaprbg.shape p with
  |none=>
   rw[hs]at h;cases h
  |some nk=>
   obtain⟨n,k⟩:=nk;rw[hs]at h;dsimp only at h;by_cases hl:r.length<n
   ·rw[ao hl]at h;cases h
   ·rw[ah hl]at h;cases hr:PyFlat.rows k (r.drop n)with
    |none=>
     rw[hr]at h;cases h
    |some q=>
     obtain⟨xs,u⟩:=q;rw[hr]at h;dsimp only at h;cases hc:PyFlat.calls PyVaprbg.shape f u with
     |none=>
      rw[hc]at h;cases h
     |some cs'=>
      rw[hc]at h;cases h;exact⟨f,n,k,xs,u,cs',rfl,rfl,VX,hr,rfl,hc⟩
theorem Oy{c:Prop}[Decidable c]{x:Nat×Nat}{e:Option (Nat×Nat)}{n k:Nat}(hx:x.2<=1)(he:e=some (n,k)->k<=1)(h:(if c then some x else e)=some (n,k)):k<=1:=by
 by_cases hc:c
 ·rw[ao hc]at h;cases h;exact hx
 ·rw[ah hc]at h;exact he h
theorem Oz{p:Int}{n k:Nat}(h:PyVaprbg.shape p=some (n,k)):k<=1:=by
 revert h;unfold PyVaprbg.shape
 iterate 20 refine Oy VW ?_
 intro h;cases h
theorem OA{r:List Int}{xs:List (List Int)}{u:List Int}(h:PyFlat.rows 1 r=some (xs,u)):∃(m:Nat)(r':List Int),r=(m:Int)::r'/\m<=r'.length/\xs=[r'.take m]/\u=r'.drop m:=by
 rw[PyFlat.rows]at h;cases r with
 |nil=>cases h
 |cons z r'=>
  rw[PyFlat.row]at h;by_cases hz:0<=z/\z.toNat<=r'.length
  ·rw[ao hz]at h;dsimp only at h;rw[PyFlat.rows]at h;cases h;refine⟨z.toNat,r',?_,hz.2,rfl,rfl⟩;rw[Int.toNat_of_nonneg hz.1]
  ·rw[ah hz]at h;cases h
end TS
namespace L2
open PySem PySem.Spec PyProof.Rows
def HC(P:Program)(w:World)(e:DictEntry)(kv:Key×V):Prop:=(dG P w).is kv.1 e.key=true/\e.hash=(dG P w).hash kv.1/\RelV kv.2 e.val
theorem KI{P:Program}{w:World}:∀{es:List DictEntry}{kvs:List (Key×V)},Paired (HC P w) es kvs->∃vs:List (Key×Value),KV kvs vs/\Pairs (dG P w) es vs/\vs.map (·.1)=kvs.map (·.1)/\∀e∈es,∃k,(dG P w).is k e.key=true/\e.hash=(dG P w).hash k
 |_,_,.nil=>⟨[],.nil,.nil,rfl,λe h=>absurd h Bh⟩
 |_,_,.cons (a:=e) (b:=kv) h t=>by
  obtain⟨vs,h1,h2,h3,h4⟩:=KI t;refine⟨(kv.1,e.val)::vs,.cons ⟨rfl,h.2.2⟩ h1,.cons h.1 rfl h2,by rw[bW,bW,h3],λy hy=>?_⟩;rcases List.mem_cons.mp hy with rfl|hy
  ·exact⟨kv.1,h.1,h.2.1⟩
  ·exact h4 y hy
theorem AM.of{P:Program}{w:World}{K:PySem.W.Frag}{a:Addr}{o:Obj}{es:Array DictEntry}{ep:Nat}{kvs:List (Key×V)}(hl:List.lookup a K=some o)(hx:o.ExactDict)(hd:o.data= .dict es ep)(ha:(a==sysModules)=false)(hp:Paired (HC P w) es.toList kvs)(nd:(kvs.map (·.1)).Nodup):AM P w K a kvs:=by
 obtain⟨vs,h1,h2,h3,h4⟩:=KI hp;exact⟨o,vs,hl,ha,h1,λh hg=>⟨o,es,ep,hg,hx,hd,λe he=>h4 e (by simpa using he),h2,by rw[h3];exact nd⟩⟩
theorem Bx{P:Program}{w:World}(x:Str)(t:Tok)(i:Int)(u:Tok):HC P w {hash:=PyData.keyHash w.params x,key:= .str x t,val:= .int i u} (.inr x,.int i):=⟨Gc P w x t,rfl,⟨u,rfl⟩⟩
theorem Qq{P:Program}{w:World}(n:Int)(h:Int)(t:Tok)(b:Addr)(e:h=(dG P w).hash (.inl n)):HC P w {hash:=h,key:= .int n t,val:= .ref b} (.inl n,.ref b):=⟨Al P w n t,e,rfl⟩
example {P:Program} {w:World}:(19:Int)=(dG P w).hash (.inl 19):=by
 show(19:Int)=OP w (.inl 19);unfold OP;rfl
end L2
namespace TS
open PySem PySem.Spec PyProof.Rows L2 TM
open Vaprbg (State Call)
theorem fW.vars{t:Ad}{H:Hp}{k:Addr}{st:State}{F:List Addr}(h:fW t H k st F):st.vars.length<=12:=by
 refine Xc (λdx nl v=>W8 λe n c=>?_) h.ex;rcases c with⟨h1,_⟩|⟨_,x,L,D,_,_,_,hX⟩
 ·rw[h1];decide
 ·exact hX.vb.le
theorem fW.Uj{t:Ad}{H:Hp}{k fl:Addr}{st:State}{F:List Addr}{xs ys:List V}(h:fW t H k st F)(hf:H fl=some (.lst xs))(hn:fl∉F):fW t (upd H fl (.lst ys)) k st F:=by
 obtain⟨dx,nl,v,e,n,c⟩:=h.ex;have k1:∀{b:Addr}{o:HO},H b=some o->(∀zs,o≠ .lst zs)->upd H fl (.lst ys) b=some o:=λe h2=>ak e (cn e hf (h2 _));have k2:∀{b:Addr}{o:HO},H b=some o->b∈F->upd H fl (.lst ys) b=some o:=λe h2=>ak e λz=>hn (z▸h2);refine⟨⟨dx,nl,v,k1 e (λ_ z=>nomatch z),?_,?_⟩,h.le⟩
 ·refine k2 n ?_;rcases c with⟨_,_,_,rfl⟩|⟨_,x,L,D,_,rfl,_,_⟩<;>simp[SA.all]
 ·rcases c with c|⟨hv,x,L,D,hx,hF,hm,hX⟩
  ·exact .inl c
  ·refine .inr ⟨hv,WZ x L D ⟨hx,hF,hm,?_⟩⟩;obtain⟨dx',ex⟩:=hX.ex;obtain⟨ps,ec,hpl,hpa⟩:=hX.ch;obtain⟨dxs,es⟩:=hX.vx;obtain⟨vts,hV⟩:=hX.vt;obtain⟨qs,e0,hql,hqa⟩:=hX.N5;have m:∀b∈[L.cl,L.vl,L.no,L.nd,L.tl,L.wl,L.yl],b∈F:=λb hb=>by
    rw[hF];unfold SA.all;exact aL _ (aL _ hb)
   exact⟨⟨dx',k1 ex (λ_ z=>nomatch z)⟩,⟨ps,k2 ec (m _ (by simp)),hpl,λi p v h1 h2=>k1 (hpa i p v h1 h2) (λ_ z=>nomatch z)⟩,⟨dxs,k1 es (λ_ z=>nomatch z)⟩,⟨vts,k2 hV.at_ (m _ (by simp)),hV.len,hV.ok⟩,⟨qs,k2 e0 (m _ (by simp)),hql,λi p m h1 h2=>k1 (hqa i p m h1 h2) (λ_ z=>nomatch z)⟩,k1 hX.Jt (λ_ z=>nomatch z),k2 hX.xK (m _ (by simp)),k2 hX.HQ (m _ (by simp)),k2 hX.KD (m _ (by simp)),hX.ne,hX.ta,hX.wa,hX.ya,hX.wf,hX.vb⟩
theorem fW.Uk{t:Ad}{H:Hp}{k ca C dc:Addr}{st:State}{F:List Addr}{fs:List (Str×V)}(h:fW t H k st F)(e:H ca=some (.ins C dc fs))(hl:fs.length≠2):ca∉F:=by
 obtain⟨dx,nl,v,ek,n,c⟩:=h.ex;have n1:ca≠k:=cn e ek λz=>by
  injection z with _ _ z
  exact hl (by rw[z];rfl)
 have n2:ca≠nl:=cn e n λz=>nomatch z;rcases c with⟨_,_,_,rfl⟩|⟨_,x,L,D,_,rfl,_,hX⟩
 ·simp;exact⟨n1,n2⟩
 ·obtain⟨ps,ec,_⟩:=hX.ch;obtain⟨vts,hV⟩:=hX.vt;obtain⟨qs,e0,_⟩:=hX.N5;simp[SA.all,SA.mu];exact⟨n1,n2,cn e ec (λz=>nomatch z),cn e hV.at_ (λz=>nomatch z),cn e e0 (λz=>nomatch z),cn e hX.Jt (λz=>nomatch z),cn e hX.xK (λz=>nomatch z),cn e hX.HQ (λz=>nomatch z),cn e hX.KD (λz=>nomatch z)⟩
theorem Sx{l:List Int}{i n kk:Nat}{p:Int}{xs:List (List Int)}{u:List Int}(hdr:l.drop i=p::l.drop (i+1))(hil:i<l.length)(hk:kk<=1)(hnr:n<=(l.drop (i+1)).length)(hrows:PyFlat.rows kk ((l.drop (i+1)).drop n)=some (xs,u)):
 ∃(row:List Int)(b:Nat),((kk=0/\row=[]/\b=i+1+n)\/(kk=1/\∃(m:Nat)(r':List Int),(l.drop (i+1)).drop n=(m:Int)::r'/\m<=r'.length/\row=r'.take m/\b=i+1+n+1+m))/\xs.headD []=row/\u=l.drop b/\i<b/\b<=l.length:=by
 rw[bU]at hnr;have:kk=0\/kk=1:=VX;rcases this with rfl|rfl
 ·rw[PyFlat.rows]at hrows;cases hrows;exact⟨[],i+1+n,.inl ⟨rfl,rfl,rfl⟩,rfl,by rw[b9],VX,VX⟩
 ·obtain⟨m,r',e,hm,rfl,rfl⟩:=OA hrows;have e2:r'=l.drop (i+1+n+1):=by
   rw[b9]at e;have:=bJ List.tail e;rw[List.tail_drop]at this;exact this.symm
  refine⟨r'.take m,i+1+n+1+m,.inr ⟨rfl,m,r',e,hm,rfl,rfl⟩,rfl,by rw[e2,b9],VX,?_⟩;rw[e2,bU]at hm;have h3:=bJ List.length e;rw[b9,bU,aT]at h3;lia
def vG(K:PySem.W.Frag):Sp:=λvs H Q _=>∃(cs:Addr)(l:List Int),vs=[.ref cs]/\cN K H cs (l.map V.int)/\PyVaprbg.answers_asked l=true/\∀fl H',H fl=none->H' fl=some (.lst ((PyVaprbg.answers l).map V.int))->bq H H'->Q (.ref fl) H'
def Ul(K:PySem.W.Frag)(t:Ad)(H:Hp)(l:List Int)(cs k fl:Addr)(i:Nat)(σ:L2.St)(H':Hp):Prop:=∃(f:Nat)(rest:List (List (List Int)))(st:State)(F:List Addr)(out:List Int)(dn:Nat)(v4 v5:Option V),
 σ=[some (.ref cs),some (.ref k),some (.ref fl),some (.int i),v4,v5]/\fW t H' k st F/\H' fl=some (.lst (out.map V.int))/\fl∉F/\(∀b∈F,H b=none)/\bq H H'/\i<=l.length/\PyFlat.calls PyVaprbg.shape f (l.drop i)=some rest/\
 (rest.all VaprbgNeutral.asked1)=true/\dn+rest.length<=400/\out.length<=dn*20000/\PyVaprbg.answers l=out++PyFlat.told (PyFlat.played VaprbgNeutral.step st rest)
section
include T
theorem JF(hFo:zb P w K mg){j:Nat}(hj:4<=j)(F0:dQ P w K mg base j t.kH ["self","call"] (Hy K t)):∀fd,OM K "answers" "answers" qc t.answers fd->lq P w K mg base (Ar P w) (j+1) t.answers fd ["calls"] (vG K):=by
 refine λfd F=>F.Vu i5 (λvs H Q E h=>?_) (λcdv A outer s H vs Q E hr h=>?_)
 ·revert h;refine W6 λcs l=>W9 λe0_ _=>?_;subst e0_;rfl
 ·obtain⟨cs,l,rfl,hS,hask,q⟩:=h;refine⟨_,(ag (a9 (i:=1) i5.nd rfl (Or.inl rfl) (R1 (C5 T) T.cU.lM T.cU.ma (hr.mono VX) bF)) (ag (a9 (i:=2) i5.nd rfl (Or.inl rfl) (cI ai)) (ag (a9 (i:=3) i5.nd rfl (Or.inl rfl) aK) (ag (d5 (gy bN (Wv kK.j (Wo 3) (b6 cD rfl T.gP bf (aa (Wo 0) ai)) (bu _)) (ag (a9 (i:=4) i5.nd rfl (Or.inl rfl) (cH (JC T hFo) T.Et (hr.mono VX) bF (aa (Wo 0) (aa (Wo 3) ai)))) (ag (a9 (i:=5) i5.nd rfl (Or.inl rfl) (bR F0 T.cU.cl T.sY (hr.mono VX) bF (Wo 1) (aa (Wo 4) ai))) (ag (bw (jj bj bL bM dY (Wo 2) (aa (b6 cD rfl T.gP bf (aa (Wo 5) ai)) ai))) (ag (bw (jj bj PySem.F.slot_list_extend PySem.F.type_list_extend D5 (Wo 2) (aa (Wo 5) ai))) (az (a9 (i:=3) i5.nd rfl (Or.inl rfl) (Wp K (Wo 4) rfl))))))))) (az (aX (Wo 2))))))),?_⟩;intro k dx nk nd ne;refine⟨k,dx,rfl,aC,λnl0 H1 fnl0 hK1 kp1=>?_⟩;have s1:bq H H1:=bq.made nk nd kp1;refine⟨rfl,(by show 0<=sizeLine;lia),λfl nfl=>?_⟩;have s2':bq H1 (upd H1 fl (.lst [])):=λc o e=>ak e (aq e nfl);have f2:upd H1 fl (.lst []) fl=some (.lst []):=aC;have hK2:=hK1.same s2';have s2:=s1.trans s2';have ffl:H fl=none:=s1.no nfl;have nk0:H nl0=none:=(bq.made nk nd λb o e _=>e:bq H _).no fnl0;have nflk:fl∉[k,nl0]:=by
   refine Xc (λ_ nl1 _=>W8 λe e2 c=>?_) hK1.ex;rcases c with⟨_,_,_,hF⟩|⟨hv,_⟩
   ·injection hF with _ hF
    injection hF with hF _
    subst hF;simp;exact⟨bh (aq e nfl),bh (aq e2 nfl)⟩
   ·exact absurd rfl hv
  revert f2 hK2 s2;generalize upd H1 fl (.lst [])=H2;intro f2 hK2 s2;unfold PyVaprbg.answers_asked at hask;unfold PyVaprbg.answers at q;cases hc:PyVaprbg.calls l with
  |none=>
   rw[hc]at hask;cases hask
  |some rest=>
   rw[hc]at hask q;dsimp only at hask q;simp only[bP]at hask;obtain⟨h400,hask⟩:=hask;unfold VaprbgNeutral.asked at hask;simp only[bP]at hask;unfold PyVaprbg.calls at hc;cases hc':PyFlat.calls PyVaprbg.shape l.length l with
   |none=>
    rw[hc']at hc;cases hc
   |some rest'=>
    rw[hc']at hc;dsimp only at hc;rw[ER]at hc;cases hc;have ea:PyVaprbg.answers l=PyFlat.told (PyFlat.played VaprbgNeutral.step VaprbgNeutral.start rest):=by
     unfold PyVaprbg.answers PyVaprbg.calls;rw[hc'];dsimp only;rw[ER]
    rw[<-ea]at q;refine⟨λσ H'=>∃v3 v4 v5,σ=[some (.ref cs),some (.ref k),some (.ref fl),v3,v4,v5]/\H' fl=some (.lst ((PyVaprbg.answers l).map V.int))/\bq H H',⟨λm σ H'=>∃i,m=l.length-i/\Ul K t H l cs k fl i σ H',⟨_,0,rfl,WZ l.length rest _ ⟨[k,nl0],[],0,none,none,rfl,hK2,f2,nflk,(λb hb=>by simp at hb;rcases hb with rfl|rfl;exact nk;exact nk0),s2,br _,by rw[fw];exact hc',hask.1,?_,by simp,by rw[ea];rfl⟩⟩,?_⟩,?_⟩
    ·have:=aD h400;lia
    ·intro m σ H';refine Xa λi=>W9 λe0_=>W7 λf rest st F=>W7 λout dn v4 v5=>Xb λe1_ hK hfl hnF hF=>Xb λsH hi hcs hall hdn=>W9 λhout etot=>?_;subst e0_;subst e1_;have hS':=sH.seq hS;refine⟨_,_,rfl,.inl ⟨_,hS',rfl⟩,?_⟩;rw[ay];refine c6 (λh1=>?_) λh1=>?_
     ·have h1':i<l.length:=by
       have z:=aD h1;lia
      obtain⟨p,hp⟩:∃p,l[i]?=some p:=⟨_,af h1'⟩;have hdr:l.drop i=p::l.drop (i+1):=TM.rW hp;rw[hdr]at hcs;refine W7 (λf' n kk xs=>W6 λu rest'=>Xb λe0_ hsh hnr hrows e1_ hcs'=>?_) (JE hcs);subst e0_;subst e1_;rw[tw,bP]at hall;refine Xa (λc=>Xd λhco hc1 hc2 hc3=>?_) (JD hall.1);rw[aT]at hdn;obtain⟨row,b,hcase,hrow,rfl,hib,hbl⟩:=Sx hdr h1' (Oz hsh) hnr hrows;rw[hrow]at hc3;refine⟨λσ' H''=>∃i',l.length-i'<l.length-i/\Ul K t H l cs k fl i' σ' H'',?_,?_⟩
      ·rintro σ' H'' ⟨i',z1,z2⟩;exact⟨_,z1,i',rfl,z2⟩
      refine WY cs l i p ⟨l.drop (i+1),WY n kk row b ⟨rfl,hS',hdr,hsh,hnr,hcase,λca H1' hCO s1'=>?_⟩⟩;revert hCO;refine Xc λdxc nlc rlc=>W8 λec enl erl=>?_;have hKa:=hK.same s1';refine Xc (λdxk nlk vk=>W9 λek _=>?_) hKa.ex;have hfa:=s1' _ _ hfl;have sHa:=sH.trans s1';have hcf:=hKa.Uk ec (by show(4:Nat)≠2;decide);refine⟨Ws ek rfl,k,ca,st,F,c,(b:Int),rfl,hKa,⟨dxc,nlc,rlc,by rw[hc1];exact ec,by rw[hc2];exact cN.of enl,by rw[hc3];exact cN.of erl⟩,λal H2' F' nal hKb hal2 Mb hF'=>?_⟩;have hfb:=Mb _ _ hfa hnF;have ecb:=Mb _ _ ec hcf;have sHb:bq H H2':=Mb.same sHa hF;have nalf:al≠fl:=bh (aq hfa nal);have hnF':fl∉F':=λz=>by
       rcases hF' fl z with z|z
       ·exact hnF z
       ·rw[hfa]at z;cases z
      have hlen:=LB st c hK.le hK.vars;have hdn4:dn<=400:=VX;have hal3:(za (Vaprbg.step st c).2).length=(Vaprbg.step st c).2.rest.length+1:=by
       unfold za;rw[ay,aT]
      have hout8:out.length<=8000000:=be hout (Nat.mul_le_mul_right 20000 hdn4);refine⟨.inl ⟨rfl,_,cN.of hfb⟩,_,_,rfl,.inl ⟨_,cN.of hal2,rfl⟩,WZ fl _ _ ⟨rfl,rfl,hfb,?_,?_⟩⟩
      ·rw[ay,aM];lia
      have hfc:upd H2' fl (.lst (out.map V.int++[.int ((za (Vaprbg.step st c).2).length:Nat)])) fl=some (.lst (out.map V.int++[.int ((za (Vaprbg.step st c).2).length:Nat)])):=aC;have hac:=ak (o:= .lst (out.map V.int++[.int ((za (Vaprbg.step st c).2).length:Nat)])) hal2 nalf;have ecc:=ak (o:= .lst (out.map V.int++[.int ((za (Vaprbg.step st c).2).length:Nat)])) ecb (cn ecb hfb λz=>nomatch z);have hKc:=hKb.Uj (ys:=out.map V.int++[.int ((za (Vaprbg.step st c).2).length:Nat)]) hfb hnF';have sHc:bq H (upd H2' fl (.lst (out.map V.int++[.int ((za (Vaprbg.step st c).2).length:Nat)]))):=λb o e=>ak (sHb b o e) (aq e ffl);revert hfc hac ecc hKc sHc;generalize upd H2' fl (.lst (out.map V.int++[.int ((za (Vaprbg.step st c).2).length:Nat)]))=H3';intro hfc hac ecc hKc sHc;refine⟨.inl ⟨rfl,_,cN.of hfc⟩,WY fl al _ _ ⟨rfl,rfl,hfc,hac,?_,?_⟩⟩
      ·rw[aE,ay,hal3,aM];show out.length+1+_<=_;lia
      have ecd:=ak (o:= .lst (out.map V.int++[.int ((za (Vaprbg.step st c).2).length:Nat)]++za (Vaprbg.step st c).2)) ecc (cn ecc hfc λz=>nomatch z);refine⟨_,Wq ecd T.dh.cl (T.dh.no _ VW) rfl,b,VX,f',rest',(Vaprbg.step st c).1,F',out++(((Vaprbg.step st c).2.rest.length+1:Nat):Int)::VaprbgNeutral.encode (Vaprbg.step st c).2,dn+1,_,_,rfl,hKc.Uj hfc hnF',?_,hnF',?_,λb o e=>ak (sHc b o e) (aq e ffl),hbl,hcs',hall.2,VX,?_,?_⟩
      ·rw[aC,hal3,cb,bK];rfl
      ·intro b' hb';rcases hF' b' hb' with z|z
       ·exact hF b' z
       ·exact sHa.no z
      ·rw[aE];show out.length+((Vaprbg.step st c).2.rest.length+1+1)<=_;rw[Nat.succ_mul];lia
      ·rw[etot,bK]
       congr 1
       have e:VaprbgNeutral.step st ((p::(l.drop (i+1)).take n)::xs)=((Vaprbg.step st c).1,VaprbgNeutral.encode (Vaprbg.step st c).2):=by
        unfold VaprbgNeutral.step;rw[hco]
       unfold PyFlat.told;rw[PyFlat.played,e,Ma];rfl
     ·have h1':¬i<l.length:=λz=>h1 (au VX);have hil:i=l.length:=VX;subst hil;rw[List.drop_length]at hcs;have er:rest=[]:=by
       cases f<;>(rw[PyFlat.calls]at hcs;cases hcs;rfl)
      subst er;refine WZ _ _ _ ⟨rfl,?_,sH⟩;rw[etot];show H' fl=some (.lst ((out++[]).map V.int));rw[bD];exact hfl
    ·rintro σ H' ⟨v3,v4,v5,rfl,hfl,sH⟩;exact q fl H' ffl hfl sH
end
end TS
namespace TS
open PySem PySem.Spec PyProof.Rows L2 TM
open PySem.W (Codec OpenSpec)
theorem Wj{α:Type}{P:List α->Prop}(h:P []):∀us:List α,us.length=0->P us
 |[],_=>h
theorem Wk{α:Type}{P:List α->Prop}(h:∀a,P [a]):∀us:List α,us.length=1->P us
 |[a],_=>h a
theorem ln2{α:Type}{P:List α->Prop}(h:∀a b,P [a,b]):∀us:List α,us.length=2->P us
 |[a,b],_=>h a b
theorem Wl{α:Type}{P:List α->Prop}(h:∀a b c,P [a,b,c]):∀us:List α,us.length=3->P us
 |[a,b,c],_=>h a b c
theorem Wm{α:Type}{P:List α->Prop}(h:∀a b c d,P [a,b,c,d]):∀us:List α,us.length=4->P us
 |[a,b,c,d],_=>h a b c d
theorem Wn{α:Type}{P:List α->Prop}(h:∀a b c d e,P [a,b,c,d,e]):∀us:List α,us.length=5->P us
 |[a,b,c,d,e],_=>h a b c d e
theorem bQ{K:PySem.W.Frag}{x qual:Str}{st:Stmt}{f:Addr}{ps:List Str}{oc:Value}{od an:Option Addr}{osl:Array (Option Value)}{kV doc pm cdv ct:Value}(l:K.lookup f=some ⟨oc,od,.func (PySem.W.fnOf x qual (vy st) (kE st) (aI st) .none kV doc pm an cdv ct),osl⟩)
 (c:PySem.W.codeIn K cdv qual=true) (k:PySem.W.keepIn K (.ref f)=true) (hb:∀(kV doc pm:Value)(an:Option Addr)(cdv ct:Value)(us:List Value),us.length=ps.length->bindArgs (PySem.W.fnOf x qual (vy st) (kE st) (aI st) .none kV doc pm an cdv ct) ⟨us,[]⟩=pure (ps.zip us)):Dn K x qual st f ps:=⟨_,MN l c k,(MN l c k).binds hb⟩
theorem OB{K:PySem.W.Frag}{h:Heap}{mg:Str->Option Value}{x:Str}{a:Addr}{od:Option Addr}{its:Array Value}{n:Nat}{sl:Array (Option Value)}{xs:List V}(X:K.In h)(G:h.Ns mainGlobals mg)(e:PySem.W.nsIn K mainGlobals x=some (some (.ref a)))(l:K.lookup a=some ⟨.type "tuple",od,.seq its n,sl⟩)(hz:its.size<=1000)(r:cE xs its.toList):∃a,GV mg x (.ref a)/\∀H,iK K H a xs:=
 ⟨a,⟨_,aJ X G e,rfl⟩,λH=>.inr ⟨_,its,n,l,rfl,rfl,be hz (by rw[aM];decide),r⟩⟩
theorem qQ{K:PySem.W.Frag}{h:Heap}{mg:Str->Option Value}{x:Str}{n:Int}{t:Tok}(X:K.In h)(G:h.Ns mainGlobals mg)(e:PySem.W.nsIn K mainGlobals x=some (some (.int n t))):GV mg x (.int n):=⟨_,aJ X G e,t,rfl⟩
theorem Qr{K:PySem.W.Frag}{h:Heap}{mg:Str->Option Value}{x y:Str}{t:Tok}(X:K.In h)(G:h.Ns mainGlobals mg)(e:PySem.W.nsIn K mainGlobals x=some (some (.str y t))):GV mg x (.str y):=⟨_,aJ X G e,t,rfl⟩
noncomputable def shapes:List (Int×Nat×Nat):=[(0,0,1),(1,0,1),(2,3,0),(3,1,0),(4,3,0),(5,3,0),(6,2,0),(7,2,0),(8,3,0),(9,1,0),(10,2,0),(11,1,0),(12,1,0),(13,1,0),(14,1,0),(15,1,1),(16,2,0),(17,1,0),(18,1,1),(19,0,0)]
noncomputable def UB(es:List DictEntry):List (Key×V):=es.filterMap λe=>match e.key,e.val with
 | .int n _,.ref b=>some (.inl n,.ref b)
 |_,_=>none
noncomputable def Sy(w:World)(e:DictEntry):Bool:=match e.key,e.val with
 | .int n _,.ref _=>decide (e.hash=OP w (.inl n))
 |_,_=>false
theorem OC{P:Program}{w:World}:∀{es:List DictEntry},es.all (Sy w)=true->Paired (HC P w) es (UB es)
 |[],_=>.nil
 |e::es,h=>by
  rw[tw,bP]at h;obtain⟨hs,k,v⟩:=e;have h1:=h.1;unfold Sy at h1;dsimp only at h1;split at h1
  ·rename_i n t b;exact .cons (Qq n _ t b (aD h1)) (OC h.2)
  ·cases h1
noncomputable def OD(K:PySem.W.Frag)(b:Addr)(n k:Nat):Bool:=match K.lookup b with
 |some ⟨.type "tuple",_,.seq its _,_⟩=>(match its.toList with
  |[.int x _,.int y _]=>decide (x=(n:Int))&&decide (y=(k:Int))
  |_=>false)
 |_=>false
theorem OE{K:PySem.W.Frag}{b:Addr}{n k:Nat}(h:OD K b n k=true):∀H,iK K H b [.int n,.int k]:=λH=>by
 unfold OD at h;split at h
 ·rename_i od its c sl hl;split at h
  ·rename_i x t y u hi;rw[bP]at h;have e1:=aD h.1;have e2:=aD h.2;subst e1 e2;refine .inr ⟨_,its,c,hl,rfl,rfl,?_,by rw[hi];exact .cons ⟨_,rfl⟩ (.cons ⟨_,rfl⟩ .nil)⟩;rw[<-bY,hi,aM];show 2<=16777216;decide
  ·cases h
 ·cases h
noncomputable def Sz(K:PySem.W.Frag)(es:List DictEntry):Bool:=shapes.all λz=>(UB es).any λkv=>match kv with
 |(.inl p,.ref b)=>decide (p=z.1)&&OD K b z.2.1 z.2.2
 |_=>false
theorem OF{c:Prop}[Decidable c]{x:Nat×Nat}{e:Option (Nat×Nat)}{n k:Nat}{R:Prop}(h1:c->x=(n,k)->R)(h2:e=some (n,k)->R)(h:(if c then some x else e)=some (n,k)):R:=by
 by_cases z:c
 ·rw[ao z]at h;exact h1 z (bX h)
 ·rw[ah z]at h;exact h2 h
theorem LN{p:Int}{n k:Nat}(h:PyVaprbg.shape p=some (n,k)):(p,n,k)∈shapes:=by
 revert h;unfold PyVaprbg.shape
 iterate 20 refine OF (by rintro rfl z;cases z;decide) ?_
 intro h;cases h
theorem Qs{kvs:List (Key×V)}(nd:(kvs.map (·.1)).Nodup):∀{k:Key}{v:V},(k,v)∈kvs->fv kvs k=some v:=by
 induction kvs with
 |nil=>exact λh=>absurd h Bh
 |cons a r ih=>
  intro k v h;rw[bW,List.nodup_cons]at nd;obtain⟨k0,v0⟩:=a;rcases List.mem_cons.mp h with z|z
  ·cases z;exact mv rfl
  ·have hne:¬k0=k:=λe=>nd.1 (List.mem_map.mpr ⟨_,z,e.symm⟩);rw[mw hne];exact ih nd.2 z
theorem OG{P:Program}{w:World}{K:PySem.W.Frag}{h:Heap}{mg:Str->Option Value}{a:Addr}{es:Array DictEntry}{ep:Nat}(X:K.In h)(G:h.Ns mainGlobals mg)(e:PySem.W.nsIn K mainGlobals "FORMS"=some (some (.ref a)))(l:K.lookup a=some ⟨.type "dict",none,.dict es ep,#[]⟩)(ha:(a==sysModules)=false)(hk:es.toList.all (Sy w)=true)(nd:((UB es.toList).map (·.1)).Nodup)(hs:Sz K es.toList=true):zb P w K mg:=
 ⟨a,UB es.toList,⟨_,aJ X G e,rfl⟩,AM.of l ⟨rfl,rfl,rfl⟩ rfl ha (OC hk) nd,λp n k h=>by
   have h1:=List.all_eq_true.mp hs _ (LN h);obtain⟨kv,hm,h2⟩:=List.any_eq_true.mp h1;split at h2
   ·rename_i q b;rw[bP]at h2;obtain rfl:=aD h2.1;exact⟨b,Qs nd hm,OE h2.2⟩
   ·cases h2⟩
theorem OH{P:Program}{w:World}{K:PySem.W.Frag}{h:Heap}{mg:Str->Option Value}{a:Addr}{es:Array DictEntry}{ep:Nat}(X:K.In h)(G:h.Ns mainGlobals mg)(e:PySem.W.nsIn K mainGlobals "PARTS"=some (some (.ref a)))(l:K.lookup a=some ⟨.type "dict",none,.dict es ep,#[]⟩)(ha:(a==sysModules)=false)(hp:Paired (HC P w) es.toList gN):AN P w K mg "PARTS" gN:=
 ⟨a,⟨_,aJ X G e,rfl⟩,AM.of l ⟨rfl,rfl,rfl⟩ rfl ha hp VW⟩
noncomputable def V1(K:PySem.W.Frag)(C:Addr)(fs:List Str):Bool:=fs.all λf=>match PySem.W.findIn K (.ref C) f with
 |some none=>true
 |_=>false
theorem z9{K:PySem.W.Frag}{C:Addr}{fs:List Str}(h:V1 K C fs=true):∀f∈fs,df K C f:=λf hf=>by
 have h1:=List.all_eq_true.mp h f hf;unfold df;split at h1
 ·assumption
 ·cases h1
theorem VZ{K:PySem.W.Frag}{h:Heap}{mg:Str->Option Value}{x:Str}{C f:Addr}{fs:List Str}(X:K.In h)(G:h.Ns mainGlobals mg)(e:PySem.W.nsIn K mainGlobals x=some (some (.ref C)))(m:Mk K C f)(c:Dq K C)(n:V1 K C fs=true):GX K mg x C f fs:=⟨aJ X G e,c,m,z9 n⟩
theorem V0{K:PySem.W.Frag}{h:Heap}{mg:Str->Option Value}{x:Str}{C f:Addr}{fs:List Str}(X:K.In h)(G:h.Ns mainGlobals mg)(e:PySem.W.nsIn K mainGlobals x=some (some (.ref C)))(i:PySem.W.findIn K (.ref C) "__init__"=some (some (.ref f)))(m:v7 K C=true)(m2:PySem.W.isFn K (.ref f)=true)(m3:PySem.W.keepIn K (.ref C)=true)(c:vM K C)(o:j2 K C=true)(n:V1 K C fs=true):IQ K mg x C f fs:=⟨aJ X G e,c,⟨m,i,m2,m3⟩,o,z9 n⟩
theorem V2{K:PySem.W.Frag}{mg:Str->Option Value}{f0 f1 f2 f3 f4 f5 f6 f7 f8 f9 f10 f11 f12 f13 f14 f15 f16 f17 f18 f19 f20 f21 f22 f23 f24 f25 f26 f27 f28 f29 f30 f31 f32 f33 f34 f35 f36 f37 f38 f39 f40 f41 f42 f43 f44 f45 f46 f47 f48 f49 f50 f51 f52 f53 f54 f55 f56 f57 f58 f59 f60 f61 f62 f63 f64 f65 f66 f67 f68 f69 f70 f71 f72 f73 f74 f75 f76 f77 f78 f79 f80 f81 f82 f83 f84 f85 f86 f87 f88 f89 f90 f91 f92 f93 f94 f95 f96 f97 f98 f99 f100 f101 f102 f103 f104 f105 f106 f107 f108:Addr}(g:VN K mg)(h:VN K mg->Tx K mg ⟨f0,f1,f2,f3,f4,f5,f6,f7,f8,f9,f10,f11,f12,f13,f14,f15,f16,f17,f18,f19,f20,f21,f22,f23,f24,f25,f26,f27,f28,f29,f30,f31,f32,f33,f34,f35,f36,f37,f38,f39,f40,f41,f42,f43,f44,f45,f46,f47,f48,f49,f50,f51,f52,f53,f54,f55,f56,f57,f58,f59,f60,f61,f62,f63,f64,f65,f66,f67,f68,f69,f70,f71,f72,f73,f74,f75,f76,f77,f78,f79,f80,f81,f82,f83,f84,f85,f86,f87,f88,f89,f90,f91,f92,f93,f94,f95,f96,f97,f98,f99,f100,f101,f102,f103,f104,f105,f106,f107,f108⟩):∃t,Tx K mg t:=⟨_,h g⟩
theorem SD{P:Program}{w:World}{K:PySem.W.Frag}{mg:Str->Option Value}{t:Ad}(T:Tx K mg t)(hPa:AN P w K mg "PARTS" gN)(hFo:zb P w K mg)(fd:FuncData)(F:OM K "answers" "answers" qc t.answers fd)(base:Heap):lq P w K mg base (Ar P w) 59 t.answers fd ["calls"] (vG K):=
 JF T hFo VW (Ag T VW (tO T hPa (A9 T))) fd F
theorem SE{P:Program}{w:World}{K:PySem.W.Frag}{mg:Str->Option Value}{h:Heap}{fa:Addr}(X:K.In h)(G:h.Ns mainGlobals mg)(hmg:mg "answers"=some (.ref fa))(hFo:zb P w K mg)(hPa:AN P w K mg "PARTS" gN)(hT:∃t,Tx K mg t):
 ∃fd:FuncData,(∀(s:Shared)(us:List Value),us.length=(["calls"]:List Str).length->BindsTo s fd ⟨us,[]⟩ ((["calls"]:List Str).zip us))/\∀base:Heap,K.In base->base.Ns mainGlobals mg->lq P w K mg base (Ar P w) 59 fa fd ["calls"] (vG K):=by
 obtain⟨t,T⟩:=hT;refine Xa (λfd=>W9 λFn _=>?_) T.Eu.ex;have e:=hmg.symm.trans T.Ew;cases e;refine W7 (λoc od kV doc=>W7 λpm an cdv ct=>Xa λosl=>W8 λe0_ lk hcd=>?_) Fn.ex;subst e0_;exact⟨_,λs us hu=>match us,hu with|[_],_=>.of_eq rfl,λbase _ _=>SD T hPa hFo _ Fn base⟩
theorem JG{r:OpenSpec}{k:Nat}{q:Program}{loose:List Str}{XP:(Str->Option Value)->Heap->Prop}{YP:World->Heap->Prop}{d:DefRec}{K:Params->PySem.W.Frag}{ps:List Str}{sp:PySem.W.Frag->Sp}
 (hwell:r.wellSaid=true) (hdf:d.params.defaults=[]) (hlen:r.args.length=ps.length) (hr:fK k callerA) (hY:∀(w:World)(h:Heap),YP w h->(K w.params).In h)
 (F:∀(w:World)(mg:Str->Option Value)(fa:Addr)(h:Heap),YP w h->(K w.params).In h->h.Ns mainGlobals mg->mg d.name=some (.ref fa)->∃fd:FuncData,(∀(s:Shared)(us:List Value),us.length=ps.length->BindsTo s fd ⟨us,[]⟩ (ps.zip us))/\∀base:Heap,(K w.params).In base->base.Ns mainGlobals mg->lq r.prog w (K w.params) mg base (Ar r.prog w) k fa fd ps (sp (K w.params)))
 (hsp:∀(K:PySem.W.Frag)(H:Hp)(xs:List V)(a:Codec.denoteAll r.args),Gv H->Codec.withinAll r.args a=true->Codec.app r.args r.asked a=true->vY K H xs (Codec.encAll r.args a)->sp K xs H (λv H'=>Dw K H' v (r.ret.enc (Codec.app r.args r.f a))) λ_ _ _=>False):
 PySem.W.WalkOS q loose XP YP r d [] (λf vs=>PySem.call f vs):=
 K4 (K:=K) (CX:=λw=>Ar r.prog w) (sp:=λw=>sp (K w.params)) hwell hdf hlen hr hY F (λw H xs a h1 h2 h3 h4=>hsp (K w.params) H xs a h1 h2 h3 h4) λw H s e s' z=>by
  revert z;refine W7 λa C od H'=>Xb λ_ _ _ _ _ z=>?_;simp at z
end TS
end
set_option genSizeOf false in
set_option genInjectivity false in
structure PySem.W.Fast where(tw13837662548045522112 tw5539544685664074944 tw4812890533440155040 tw10130595665823929474 tw1810132469936003394 tw16397594040864174658 tw521378914389920642 tw2975241551601428003 tw1344099919592990852 tw15017321759099036260 tw6709411775713770340 tw7026097174170787685 tw2358177250151969894 tw15868298012666661223 tw15134744117447617352 tw7008963954255372168 tw8175524051879098089 tw6944258631992660394 tw8441117847210612298 tw15828204460736459498 tw8110381120302642795 tw5416164318638243563 tw4822370906375373707 tw11215984234750294348 tw7671221367228791981 tw12119459478519696206 tw13074675325539825103 tw2827148084803345840 tw11486919562091311600 tw17591252660497885872 tw8939564644119222160 tw2592502042096695185 tw11109653017780105236 tw6257658225812088404 tw15444998303196704885 tw608807087018841973 tw14580103917487696087 tw13989243420973080055 tw960664271083828088 tw7850676273080419769 tw18108932971044914937 tw6097256324603111289 tw8978728994368188314 tw18044042237446697403 tw12567366404036787739 tw15060364437754096060 tw7393550689643355068 tw13955181223340131901 tw16434632330463399613 tw9273897144296877087 tw5479976567678253353 tw11662383603653515285 tw15804448069207888756 tw13489335346218531426 tw370308722259522998 tw7723166820393010269 tw8512229794919423845 tw11338968394591783379 tw5984101205461204148 tw18131883772227318303 tw13375169882129810381 tw4251814451878354718 tw12180221648500725068 tw6063790993632205990 tw579595405197207718 tw10854349237342717908 tw6885095706248218901 tw784454327436346663 tw17010110034659056949 tw14735206203099300830 tw7770170970146238086 tw10512096382047286052 tw11959171260850163052 tw82389352099381086 tw14177050794693077290 tw17973094480224343894 tw10725206489431754197 tw13654775321965380946 tw15797545972543476175 tw11740131720502797244 tw16727807382818919444 tw9632576150023659997 tw9973058974466515177 tw3046380254285796543 tw11322726133537299116 tw6876607482919943383 tw4909179692612362107 tw6504252476643924325 tw8936890593477788193 tw14345607560519737338 tw10145452301988552490 tw9842947317763891819 tw7408736022422533801 tw3164346407323939998 tw8069690453432843305 tw9994236867724411360 tw5444709243474049590 tw9473681634359771447 tw2664960340774828187 tw973093529195445365 tw14730256755906069865 tw13865366605535224761 tw13255300575681596898 tw15969481168945628258 tw14229188714931028820 tw16633362396963847430 tw924199059021635727 tw38883191891834520 tw9961017002690394082 tw5584061590041403379 tw11199462752148254485 tw3890388095884099617 tw16786386147726808961 tw14006214680693031435 tw7257023530934900293 tw14474064458169188724 tw1398468925072741110 tw11809046047256254197 tw682377234525811136 tw11903544563025035819 tw5160216712593259955 tw10589016859032414958 tw414202828788982559 tw4742676179753519417 tw10896433687171955503 tw16376362265656608993 tw10492235538854266286 tw15669911088937927201 tw8574579176353864883 tw1996379789832889272 tw9989796059092524446 tw5684180686472253149 tw4227772306882690097 tw15679750118377918385 tw12041094280972889295 tw4399605068553720602 tw7397331333270647933 tw10078227085992339056 tw1166809222989034059 tw3193855080910885900 tw12038512028372457450 tw12868480315757238647 tw4968716447209636379 tw9381822777581737028 tw2802824050060596562 tw17062418323825121764 tw13989052624443396663 tw12533102752178427651 tw13459268409367904983 tw7778895100462328606 tw6662838223005753404 tw16803326845488937366 tw11507337710124020948 tw18072425622621193623 tw2391798925460678523 tw12231834764190078263 tw15248473650486667914 tw8664989525428733027 tw17734948239074222094 tw10705228633959044504 tw3502137469023984823 tw9618203941137626461 tw8823411858136831160 tw6531791686174623207 tw1013588970113563800 tw5652399022136462470 tw1285998136499724572 tw2215418345263346252 tw12139727114574737430 tw11157384302646477404 tw8271857884871761962 tw11041651559299939750 tw16778509043894337767 tw8033749701111884596 tw11896235054531810316 tw8688581514515498243 tw5155687549304244590 tw15457297227166741240 tw3883025995948514706 tw15762341021313787706 tw8124595301523587746 tw11140491018453561945 tw7653152522304461401 tw2911738660907117025 tw1516170653493331238 tw12906879859771994226 tw4199598969925472239 tw15770196385579104885 tw16807902215747228973 tw10693361095041497839 tw6530681089148547624 tw14769055939486528141 tw17051622903813151928 tw17175173255679867295 tw13080055693714086085 tw18123134497175319847 tw11152204295001000541 tw4881038597973706121 tw536407601275574665 tw5127024384264888385 tw8521803375643042231 tw6034427414799107668 tw12525809601199303857 tw10119889859285997669 tw10558666366052429801 tw10336945799138558693 tw10267981319569389910 tw14893793652300678134 tw8698100810939488904 tw185599310166940131 tw3104722709496172205 tw10018543151477629059 tw5410514424533881199 tw2819223616993662208 tw11077216221596209888 tw2004713524957402871 tw14495368865903161673 tw10110118916122541714 tw6414345287892889944 tw14418826061920439818 tw6849825056837729494 tw1814142237824476169 tw11516367322693984956 tw11461393822236160468 tw1192232341923595953 tw16550081041564727742 tw7267595092322387850 tw8552003558279907436 tw6623666211739005436 tw13113908893910293303 tw18188295630336464494 tw4633785106438723166 tw14595768810475828033 tw9151444082743413843 tw16111473111812639510 tw4966290361350817056 tw16828210939834953742 tw18367881596829649512 tw5214638417487113191 tw17340096420648426187 tw17742961047871519978 tw10126203305095215961 tw12844702869258369288 tw10490970868729560907 tw11168089485294512391 tw17254430896444997925 tw694293381402219513 tw4415614349889640134 tw5495683010114716564 tw8426515518486915230 tw5442549542018732226 tw12506079486537057798 tw15221970422456368997 tw15428888240277687857 tw808439945451998903 tw15588754758189670486 tw14126836617366764747 tw10848620535571672494 tw4335256317561954405 tw1763999514665253493 tw109750363306519100 tw6539979896652408581 tw12352429712844285851 tw3992396383167977607 tw1696140866972899857 tw6201395195221919348 tw7313214419042329957 tw564819922030851416 tw4231517185999933559 tw18274374079276875734 tw3180278863302304200 tw12778715520902716100 tw11838014913241379075 tw2078381711354862068 tw4274759521051036002 tw13020753161448716854 tw18072813548610713413 tw1392879533819414336 tw11249658374889185510 tw12671699058659756976 tw15323823801252886005 tw9282430223868866621:Unit)
open PySem PySem.W PyProof.Rows
set_option maxRecDepth 100000 in
set_option maxHeartbeats 0 in
theorem PySem.Challenge.cw_truthstore_s01_answers_holds : PySem.Challenge.rw_truthstore_s01_answers.Holds := by
 w_on;k_headS;(case hw=>exact⟨[.list [.int 19]],VY,VY⟩)
 k_fillS
 refine TS.JG (r:=PySem.Challenge.rw_truthstore_s01_answers) (k:=59) (ps:=["calls"]) (sp:=TS.vG) VY rfl rfl ⟨rfl,VW,VW⟩ (λw h Y=>PySem.W.kIn_of Y) ?F ?S
 case F=>
  intro w mg fa h Y KX G hmg;refine TS.SE KX G hmg ?hF ?hP ?hT
  case hF=>
   refine' TS.OG KX G ?z1 ?z2 ?z3 ?z4 ?z5 ?z6;(case z1=>k_is);(case z2=>k_is);(case z3=>rfl);(case z4=>kernel_rfl);(case z5=>decide);(case z6=>kernel_rfl)
  case hP=>
   refine' TS.OH KX G ?z1 ?z2 ?z3 ?z4;(case z1=>k_is);(case z2=>k_is);(case z3=>rfl);(case z4=>exact .cons (L2.Bx _ _ _ _) (.cons (L2.Bx _ _ _ _) (.cons (L2.Bx _ _ _ _) (.cons (L2.Bx _ _ _ _) (.cons (L2.Bx _ _ _ _) .nil)))))
  case hT=>
   refine' TS.V2 ?g ?h
   (case g=>constructor<;>first|((with_reducible refine' PySem.W.mg_none_of KX G ?z1);(case z1=>k_is))|((with_reducible refine' TS.qQ KX G ?z1);(case z1=>k_is))|((with_reducible refine' TS.Qr KX G ?z1);(case z1=>k_is))|((with_reducible refine' TS.OB KX G ?z1 ?z2 ?z3 ?z4);(case z1=>k_is);(case z2=>k_is);(case z3=>decide);(case z4=>first|exact .cons ⟨_,rfl⟩ (.cons ⟨_,rfl⟩ (.cons ⟨_,rfl⟩ (.nil)))|exact .cons ⟨_,rfl⟩ (.cons ⟨_,rfl⟩ (.cons ⟨_,rfl⟩ (.cons ⟨_,rfl⟩ (.cons ⟨_,rfl⟩ (.cons ⟨_,rfl⟩ (.cons ⟨_,rfl⟩ (.cons ⟨_,rfl⟩ (.cons ⟨_,rfl⟩ (.cons ⟨_,rfl⟩ (.cons ⟨_,rfl⟩ (.cons ⟨_,rfl⟩ (.cons ⟨_,rfl⟩ (.cons ⟨_,rfl⟩ (.cons ⟨_,rfl⟩ (.cons ⟨_,rfl⟩ (.cons ⟨_,rfl⟩ (.cons ⟨_,rfl⟩ (.nil)))))))))))))))))))))
   (case h=>intro g;constructor;exact g;all_goals dsimp only;all_goals first|((with_reducible refine' aJ KX G ?z1);(case z1=>k_is))|((with_reducible refine' TS.VZ KX G ?z1 ?z2 ?z3 ?z4);(case z1=>k_is);(case z2=>constructor<;>k_is);(case z3=>constructor<;>k_is);(case z4=>kernel_rfl))|((with_reducible refine' TS.V0 KX G ?z1 ?z2 ?z3 ?z4 ?z5 ?z6 ?z7 ?z8);(case z1=>k_is);(case z2=>k_is);(case z3=>kernel_rfl);(case z4=>k_is);(case z5=>k_is);(case z6=>constructor<;>k_is);(case z7=>kernel_rfl);(case z8=>kernel_rfl))|((with_reducible refine' TS.bQ ?z1 ?z2 ?z3 ?z4);(case z1=>k_is);(case z2=>k_is);(case z3=>k_is);(case z4=>first|exact λ_ _ _ _ _ _=>TS.Wj rfl|exact λ_ _ _ _ _ _=>TS.Wk λ_=>rfl|exact λ_ _ _ _ _ _=>TS.ln2 λ_ _=>rfl|exact λ_ _ _ _ _ _=>TS.Wl λ_ _ _=>rfl|exact λ_ _ _ _ _ _=>TS.Wm λ_ _ _ _=>rfl|exact λ_ _ _ _ _ _=>TS.Wn λ_ _ _ _ _=>rfl))|((with_reducible refine' L2.c5.mk ?z1 ?z2 ?z3);(case z1=>k_is);(case z2=>k_is);(case z3=>k_is))|((with_reducible refine' L2.Pj.mk ?z1 ?z2 ?z3 ?z4);(case z1=>k_is);(case z2=>k_is);(case z3=>k_is);(case z4=>k_is))|k_is)
 case S=>
  intro K H xs a hO hwi hask hx;cases hx with
  |cons h1 h2=>
   cases h2;cases h1 with
   |lst hs ha=>
    have e:=L2.UC a.1 _ ha;subst e;exact⟨_,a.1,rfl,hs,hask,λfl H' _ hp _=>.lst (L2.cN.of hp) (L2.UD _)⟩
