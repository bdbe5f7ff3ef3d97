import PyProof.Rows.All
import Wide.All
import OpenK.AllK
import Wide.FinOn
import PyProof.EqAt
import PyProof.EqKinds
import PyProof.TupleCall
import KE.BitLaws
import Open.SpecLaws
import KE.OsHead
import KE.OsGo
import PySem.Challenge.RW_roadrest_s01_answers
set_option Elab.async false
set_option linter.all false
set_option maxRecDepth 100000
set_option maxHeartbeats 4000000
theorem Y{α:Sort u}{a:α}:a=a:=rfl
theorem U_:type_of%@Array.length_toList:=@Array.length_toList
theorem Yq:type_of%@Bool.and_eq_true:=@Bool.and_eq_true
theorem PU:type_of%@Bool.false_eq_true:=@Bool.false_eq_true
theorem Yz:type_of%@Bool.false_ne_true:=@Bool.false_ne_true
theorem Vz:type_of%@Eq.trans:=@Eq.trans
theorem MM:type_of%@Int.eq_ofNat_of_zero_le:=@Int.eq_ofNat_of_zero_le
theorem S6:type_of%@Int.le_of_lt:=@Int.le_of_lt
theorem U9:type_of%@Int.le_refl:=@Int.le_refl
theorem U8:type_of%@Int.mul_pos:=@Int.mul_pos
theorem ML:type_of%@List.Pairwise.filter:=@List.Pairwise.filter
theorem We:type_of%@List.all_eq_true:=@List.all_eq_true
theorem TQ:type_of%@List.any_cons:=@List.any_cons
theorem UR:type_of%@List.any_eq_true:=@List.any_eq_true
theorem Wc:type_of%@List.append_assoc:=@List.append_assoc
theorem XH:type_of%@List.append_nil:=@List.append_nil
theorem PR:type_of%@List.drop_eq_nil_of_le:=@List.drop_eq_nil_of_le
theorem UQ:type_of%@List.ext_getElem?:=@List.ext_getElem?
theorem Vt:type_of%@List.filter_append:=@List.filter_append
theorem YN:type_of%@List.filter_cons:=@List.filter_cons
theorem UP:type_of%@List.find?_cons:=@List.find?_cons
theorem Wb:type_of%@List.find?_eq_none:=@List.find?_eq_none
theorem TN:type_of%@List.flatMap_append:=@List.flatMap_append
theorem Wa:type_of%@List.flatMap_cons:=@List.flatMap_cons
theorem R6:type_of%@List.foldl_cons:=@List.foldl_cons
theorem ZX:type_of%@List.getD_eq_getElem?_getD:=@List.getD_eq_getElem?_getD
theorem V_:type_of%@List.getElem?_append_left:=@List.getElem?_append_left
theorem UO:type_of%@List.getElem?_append_right:=@List.getElem?_append_right
theorem ZU:type_of%@List.getElem?_eq_getElem:=@List.getElem?_eq_getElem
theorem YQ:type_of%@List.getElem?_eq_none:=@List.getElem?_eq_none
theorem ZC:type_of%@List.getElem?_eq_some_iff:=@List.getElem?_eq_some_iff
theorem Zf:type_of%@List.getElem?_map:=@List.getElem?_map
theorem XG:type_of%@List.getElem?_range:=@List.getElem?_range
theorem PQ:type_of%@List.getElem?_replicate:=@List.getElem?_replicate
theorem W6:type_of%@List.getElem_mem:=@List.getElem_mem
theorem ZI:type_of%@List.length_append:=@List.length_append
theorem Zj:type_of%@List.length_cons:=@List.length_cons
theorem XF:type_of%@List.length_eq_zero_iff:=@List.length_eq_zero_iff
theorem Wx:type_of%@List.length_filter_le:=@List.length_filter_le
theorem Z3:type_of%@List.length_map:=@List.length_map
theorem Zd:type_of%@List.length_range:=@List.length_range
theorem XE:type_of%@List.length_take:=@List.length_take
theorem Vs:type_of%@List.lookup_cons:=@List.lookup_cons
theorem Y1:type_of%@List.map_append:=@List.map_append
theorem V9:type_of%@List.map_congr_left:=@List.map_congr_left
theorem Y7:type_of%@List.map_cons:=@List.map_cons
theorem Yv:type_of%@List.map_map:=@List.map_map
theorem Zm:type_of%@List.mem_append:=@List.mem_append
theorem Yu:type_of%@List.mem_append_left:=@List.mem_append_left
theorem XD:type_of%@List.mem_append_right:=@List.mem_append_right
theorem ZH:type_of%@List.mem_cons:=@List.mem_cons
theorem Zh:type_of%@List.mem_cons_of_mem:=@List.mem_cons_of_mem
theorem YM:type_of%@List.mem_cons_self:=@List.mem_cons_self
theorem XX:type_of%@List.mem_filter:=@List.mem_filter
theorem X8:type_of%@List.mem_iff_getElem:=@List.mem_iff_getElem
theorem Zc:type_of%@List.mem_map:=@List.mem_map
theorem UN:type_of%@List.mem_map_of_mem:=@List.mem_map_of_mem
theorem Y9:type_of%@List.mem_of_getElem?:=@List.mem_of_getElem?
theorem YW:type_of%@List.mem_range:=@List.mem_range
theorem Zp:type_of%@List.mem_singleton:=@List.mem_singleton
theorem Ww:type_of%@List.nodup_cons:=@List.nodup_cons
theorem TM:type_of%@List.nodup_nil:=@List.nodup_nil
theorem R5:type_of%@List.nodup_range:=@List.nodup_range
theorem PN:type_of%@List.pairwise_iff_getElem:=@List.pairwise_iff_getElem
theorem UM:type_of%@List.pairwise_map:=@List.pairwise_map
theorem WU:type_of%@List.range_succ:=@List.range_succ
theorem R0:type_of%@List.replicate_succ:=@List.replicate_succ
theorem Y6:type_of%@List.size_toArray:=@List.size_toArray
theorem TL:type_of%@List.sum_cons:=@List.sum_cons
theorem X7:type_of%@List.take_length:=@List.take_length
theorem PM:type_of%@List.take_of_length_le:=@List.take_of_length_le
theorem Xp:type_of%@List.take_succ:=@List.take_succ
theorem RZ:type_of%@Nat.le_add_right:=@Nat.le_add_right
theorem Y5:type_of%@Nat.le_of_lt:=@Nat.le_of_lt
theorem ZM:type_of%@Nat.le_refl:=@Nat.le_refl
theorem ZE:type_of%@Nat.le_trans:=@Nat.le_trans
theorem Wu:type_of%@Nat.lt_irrefl:=@Nat.lt_irrefl
theorem YG:type_of%@Nat.lt_of_le_of_lt:=@Nat.lt_of_le_of_lt
theorem Zo:type_of%@Nat.lt_of_lt_of_le:=@Nat.lt_of_lt_of_le
theorem X6:type_of%@Nat.lt_succ_of_lt:=@Nat.lt_succ_of_lt
theorem V8:type_of%@Nat.lt_succ_self:=@Nat.lt_succ_self
theorem Za:type_of%@Nat.ne_of_lt:=@Nat.ne_of_lt
theorem TK:type_of%@Nat.pow_le_pow_right:=@Nat.pow_le_pow_right
theorem Zw:type_of%@Nat.zero_le:=@Nat.zero_le
theorem Xo:type_of%@Ne.symm:=@Ne.symm
theorem UL:type_of%@Option.map_eq_some_iff:=@Option.map_eq_some_iff
theorem Zb:type_of%@Option.some.inj:=@Option.some.inj
theorem PL:type_of%@PyProof.Rows.callWith_type1:=@PyProof.Rows.callWith_type1
theorem Yf:type_of%@PySem.F.plainAttrs_list:=@PySem.F.plainAttrs_list
theorem TJ:type_of%@PySem.F.plain_max_loop:=@PySem.F.plain_max_loop
theorem W5:type_of%@PySem.F.slot_list_append:=@PySem.F.slot_list_append
theorem TH:type_of%@PySem.F.slot_list_extend:=@PySem.F.slot_list_extend
theorem WT:type_of%@PySem.F.type_list_append:=@PySem.F.type_list_append
theorem RY:type_of%@PySem.F.type_list_extend:=@PySem.F.type_list_extend
theorem TF:type_of%@PySem.Heap.get?_push_ne:=@PySem.Heap.get?_push_ne
theorem YF:type_of%@PySem.Heap.get?_push_of_some:=@PySem.Heap.get?_push_of_some
theorem Xn:type_of%@PySem.Heap.get?_push_size:=@PySem.Heap.get?_push_size
theorem UK:type_of%@PySem.Heap.get?_update_other:=@PySem.Heap.get?_update_other
theorem Zr:type_of%@PySem.Heap.lt_size:=@PySem.Heap.lt_size
theorem Xm:type_of%@PySem.Heap.size_push:=@PySem.Heap.size_push
theorem Zl:type_of%@PySem.PassesOwn.never:=@PySem.PassesOwn.never
theorem YU:type_of%@PySem.boot_len:=@PySem.boot_len
theorem Yn:type_of%@PySem.mem_of_lookup:=@PySem.mem_of_lookup
theorem TC:type_of%@PySem.tupleKind_room_in1:=@PySem.tupleKind_room_in1
theorem UW:type_of%@PySem.wpAny_Call_Name_kw:=@PySem.wpAny_Call_Name_kw
theorem ZV:type_of%@PySem.wpAny_bind:=@PySem.wpAny_bind
theorem VQ:type_of%@PySem.wpAny_holding:=@PySem.wpAny_holding
theorem X':type_of%@PySem.wpAny_mono:=@PySem.wpAny_mono
theorem VP:type_of%@PySem.wpAny_passesOwn:=@PySem.wpAny_passesOwn
theorem Zt:type_of%@PySem.wpAny_pure:=@PySem.wpAny_pure
theorem WJ:type_of%@PySem.wpAny_truthy_bool:=@PySem.wpAny_truthy_bool
theorem Zn:type_of%@Rat.div_def:=@Rat.div_def
theorem XM:type_of%@Rat.intCast_add:=@Rat.intCast_add
theorem Q9:type_of%@Rat.intCast_le_intCast:=@Rat.intCast_le_intCast
theorem Q8:type_of%@Rat.intCast_lt_intCast:=@Rat.intCast_lt_intCast
theorem Zq:type_of%@Rat.intCast_mul:=@Rat.intCast_mul
theorem XJ:type_of%@Rat.intCast_natCast:=@Rat.intCast_natCast
theorem UU:type_of%@Rat.intCast_sub:=@Rat.intCast_sub
theorem TB:type_of%@Rat.inv_mul_cancel:=@Rat.inv_mul_cancel
theorem VO:type_of%@Rat.inv_mul_rev:=@Rat.inv_mul_rev
theorem YH:type_of%@Rat.le_of_lt:=@Rat.le_of_lt
theorem Ym:type_of%@Rat.le_refl:=@Rat.le_refl
theorem UT:type_of%@Rat.mul_assoc:=@Rat.mul_assoc
theorem XY:type_of%@Rat.mul_eq_zero:=@Rat.mul_eq_zero
theorem VN:type_of%@Rat.mul_inv_cancel:=@Rat.mul_inv_cancel
theorem Tz:type_of%@Rat.mul_nonneg:=@Rat.mul_nonneg
theorem VM:type_of%@Rat.mul_one:=@Rat.mul_one
theorem Tx:type_of%@Rat.num_nonneg:=@Rat.num_nonneg
theorem VL:type_of%@beq_eq_false_iff_ne:=@beq_eq_false_iff_ne
theorem Xl:type_of%@beq_iff_eq:=@beq_iff_eq
theorem ZF:type_of%@decide_eq_false:=@decide_eq_false
theorem ZR:type_of%@decide_eq_true:=@decide_eq_true
theorem Z8:type_of%@if_neg:=@if_neg
theorem Z7:type_of%@if_pos:=@if_pos
theorem ZG:type_of%@of_decide_eq_true:=@of_decide_eq_true
namespace L2
open PySem PySem.Spec PyProof.Rows
abbrev Key:=Sum Int Str
def Kh:Key->Value->Bool
 |.inl k,v=>Value.isInt k v
 |.inr x,v=>Value.isStrOf x v
def m_(w:World):Key->Int
 |.inl k=>hashInt k
 |.inr x=>hashStr w x
theorem XC:∀{k:Key}{v:Value},Kh k v=true->(∃i t,k=Sum.inl i/\v=Value.int i t)\/(∃x t,k=Sum.inr x/\v=Value.str x t)
 |.inl i,v,h=>by
  obtain⟨t,e⟩:=Value.isInt_shape (k:=i) (v:=v) h;exact .inl ⟨i,t,Y,e⟩
 |.inr x,v,h=>by
  obtain⟨t,e⟩:=Value.isStrOf_shape (x:=x) (v:=v) h;exact .inr ⟨x,t,Y,e⟩
theorem Cw(i:Int)(t:Tok):Kh (.inl i) (.int i t)=true:=by simp[Kh,Value.isInt]
theorem Cv(x:Str)(t:Tok):Kh (.inr x) (.str x t)=true:=by simp[Kh,Value.isStrOf]
theorem uH(a b:Int):decide ((Sum.inl a:Key)=Sum.inl b)=(a==b):=by
 by_cases e:a=b;·subst e;simp
 ·have h:¬(Sum.inl a:Key)=Sum.inl b:=fun q=>e (Sum.inl.inj q);rw[ZF h];exact(VL.mpr e).symm
theorem uG(a b:Str):decide ((Sum.inr a:Key)=Sum.inr b)=decide (a=b):=by
 by_cases e:a=b;·subst e;simp
 ·have h:¬(Sum.inr a:Key)=Sum.inr b:=fun q=>e (Sum.inr.inj q);rw[ZF h,ZF e]
theorem uF(a:Int)(b:Str):decide ((Sum.inl a:Key)=Sum.inr b)=false:=ZF (fun q=>nomatch q)
theorem uE(a:Str)(b:Int):decide ((Sum.inr a:Key)=Sum.inl b)=false:=ZF (fun q=>nomatch q)
def XB(prog:Program)(w:World):PySem.KeyKind prog w Key where
 is:=Kh
 hash:=m_ w
 inj:=fun v a b ha O=>by
  rcases XC ha with⟨i,t,rfl,rfl⟩|⟨x,t,rfl,rfl⟩
  ·rcases XC O with⟨j,u,rfl,e⟩|⟨y,u,rfl,e⟩;·injection e with e1 _;rw[e1]
   ·exact nomatch e
  ·rcases XC O with⟨j,u,rfl,e⟩|⟨y,u,rfl,e⟩;·exact nomatch e
   ·injection e with e1 _;rw[e1]
 byValue:=fun k v h=>by rcases XC h with⟨i,t,rfl,rfl⟩|⟨x,t,rfl,rfl⟩<;>rfl
 pyHash:=fun hv h=>by
  rcases XC hv with⟨i,t,rfl,rfl⟩|⟨x,t,rfl,rfl⟩;·exact wpAny_pyHash_int h
  ·exact wpAny_pyHash_str h
 eqBool:=fun hu hv h=>by
  rcases XC hu with⟨i,t,rfl,rfl⟩|⟨x,t,rfl,rfl⟩
  ·rcases XC hv with⟨j,u,rfl,rfl⟩|⟨y,u,rfl,rfl⟩;·rw[uH]at h;exact wpAny_eqBool_int h
   ·rw[uF]at h;exact SeqAt.EqAt.int_str i t y u _ _ _ _ h
  ·rcases XC hv with⟨j,u,rfl,rfl⟩|⟨y,u,rfl,rfl⟩;·rw[uE]at h;exact SeqAt.EqAt.str_int x t j u _ _ _ _ h
   ·rw[uG]at h;exact wpAny_eqBool_str h
 «strs»:=fun k x t v h=>by
  rcases XC h with⟨i,u,rfl,e⟩|⟨y,u,rfl,e⟩;·exact nomatch e
  ·injection e with e1 _
   subst e1;cases v<;>rfl
theorem Hx(prog:Program)(w:World)(i:Int)(t:Tok):(XB prog w).is (.inl i) (.int i t)=true:=Cw i t
theorem Hw(prog:Program)(w:World)(x:Str)(t:Tok):(XB prog w).is (.inr x) (.str x t)=true:=Cv x t
end L2
namespace L2
open PySem PySem.Spec PyProof.Rows
inductive V where
 |Xs|bl (b:Bool)|int (i:Int)|str (x:Str)|Fn (b:Array UInt8)|oE (b:UInt64)|ref (a:Addr)|ty (n:String)
 deriving DecidableEq
def RelV:V->Value->Prop
 |.Xs,u=>u=Value.none
 |.bl b,u=>u=Value.bool b
 |.int i,u=>∃t,u=Value.int i t
 |.str x,u=>∃t,u=Value.str x t
 |.Fn b,u=>∃t,u=Value.bytes b t
 |.oE b,u=>∃t,u=Value.float b t
 |.ref a,u=>u=Value.ref a
 |.ty n,u=>u=Value.type n
abbrev Vals:List V->List Value->Prop:=Paired RelV
theorem Vals.length{xs:List V}{us:List Value}(r:Vals xs us):xs.length=us.length:=Paired.length r
theorem Vals.get:∀{xs:List V}{us:List Value}{i:Nat}{x:V},Vals xs us->xs[i]?=some x->∃u,us[i]?=some u/\RelV x u
 |_,_,_,_,.nil,e=>by simp at e
 |_,_,0,_,.cons r _,e=>by simp at e;subst e;exact⟨_,Y,r⟩
 |_,_,i+1,x,.cons _ t,e=>by
  obtain⟨u,J,h2⟩:=Vals.get (i:=i) (x:=x) t (by simpa using e);exact⟨u,by simpa using J,h2⟩
theorem Vals.set{x:V}{u:Value}(r:RelV x u):∀{xs:List V}{us:List Value}(i:Nat),Vals xs us->Vals (xs.set i x) (us.set i u)
 |_,_,_,.nil=>.nil
 |_,_,0,.cons _ t=>.cons r t
 |_,_,i+1,.cons q t=>.cons q (Vals.set r i t)
theorem Vals.append:∀{xs ys:List V}{us ws:List Value},Vals xs us->Vals ys ws->Vals (xs++ys) (us++ws)
 |_,_,_,_,.nil,s=>s
 |_,_,_,_,.cons r t,s=>.cons r (Vals.append t s)
theorem Vals.take:∀{xs:List V}{us:List Value}(n:Nat),Vals xs us->Vals (xs.take n) (us.take n)
 |_,_,0,_=>.nil
 |_,_,_+1,.nil=>.nil
 |_,_,n+1,.cons r t=>.cons r (Vals.take n t)
theorem Vals.drop:∀{xs:List V}{us:List Value}(n:Nat),Vals xs us->Vals (xs.drop n) (us.drop n)
 |_,_,0,r=>r
 |_,_,_+1,.nil=>.nil
 |_,_,n+1,.cons _ t=>Vals.drop n t
def R_:Option V->Option Value->Prop
 |some v,some u=>RelV v u
 |none,none=>True
 |_,_=>False
def KV{κ:Type}:List (κ×V)->List (κ×Value)->Prop:=Paired fun(p:κ×V) (q:κ×Value)=>p.1=q.1/\RelV p.2 q.2
def kV:Key->V
 |.inl i=>.int i
 |.inr x=>.str x
inductive HO where
 |lst (xs:List V)
 |tup (xs:List V)
 |dK (Zs:List (Key×V))|dT (Zs:List (List Key×V))
 |set (S:Int->Bool) (n:Nat)
 |ins (C dx:Addr) (fs:List (Str×V))
 |own (x:Addr)
 |xd (fs:List (Str×V))
 |met (f x:Addr)
 |m8 (lo hi:Int)
 |Jl (o:Obj) (u:HO)
 |uD (ps:Array Value)
 |ext (φ:Heap->Prop)
abbrev Hp:=Addr->Option HO
def upd(H:Hp)(a:Addr)(o:HO):Hp:=fun b=>if b=a then some o else H b
theorem Z4{H:Hp}{a:Addr}{o:HO}:upd H a o a=some o:=by unfold upd;rw[Z7 rfl]
theorem ZW{H:Hp}{a b:Addr}{o:HO}(h:b≠a):upd H a o b=H b:=by unfold upd;rw[Z8 h]
theorem rB{H:Hp}{a b:Addr}{o u:HO}(h:H a=some o)(h':H b=some u)(d:o≠u):a≠b:=by intro e;subst e;rw[h]at h';exact d (Zb h')
theorem ZA{H:Hp}{a b:Addr}{o:HO}(h:H a=some o)(h':H b=none):a≠b:=by intro e;subst e;rw[h]at h';cases h'
section
variable(P:Program)(w:World)
def Xe(H:Hp)(h:Heap)(a:Addr):HO->Prop
 |.lst xs=>xs.length<=sizeLine/\∃(Y_:List Value) (n:Nat),Vals xs Y_/\h.get? a=some {cls:=.type "list",data:=.seq Y_.toArray n}
 |.tup xs=>xs.length<=sizeLine/\∃Y_:List Value,Vals xs Y_/\IsTup h a Y_.toArray
 |.dK Zs=>Zs.length<=sizeLine/\(a==sysModules)=false/\∃vs,KV Zs vs/\h.DictOf (XB P w) a vs
 |.dT Zs=>Zs.length<=sizeLine/\(a==sysModules)=false/\∃xs:List (List Key×Addr×Value),
  Paired (fun(p:List Key×V) (q:List Key×Addr×Value)=>p.1=q.1/\H q.2.1=some (.tup (p.1.map kV))/\RelV p.2 q.2.2) Zs xs/\
  ∃o es ep,h.get? a=some o/\o.ExactDict/\o.data=.dict es ep/\es.toList=xs.map (entryOfKey (tupleKind (XB P w)))/\(xs.map (·.1)).Nodup
 |.set S n=>h.SetOf (intKind P w) a S n
 |.ins C dx fs=>H dx=some (.own a)/\fs.length<=1000/\dx≠a/\h.get? a=some (W.instObj C dx)/\
  ∃mA,h.Ns1 dx mA/\(∀f,R_ (fs.lookup f) (mA f))/\PySem.Within mA (fs.map (·.1))
 |.own _=>∃o,h.get? a=some o
 |.xd fs=>∃mA,h.Ns1 a mA/\∀f,R_ (fs.lookup f) (mA f)
 |.m8 lo hi=>∃t u v,h.get? a=some {cls:=.type "range",data:=.fields #[.int lo t,.int hi u,.int 1 v]}
 |.Jl o u=>h.get? a=some o/\Xe H h a u
 |.uD ps=>h.get? a=some {cls:=.none,data:=.fields ps}
 |.met f x=>h.get? a=some (W.methodObj (.ref f) (.ref x))
 |.ext φ=>φ h/\(∃o,h.get? a=some o)/\∀J h2:Heap,φ J->(∀o,J.get? a=some o->h2.get? a=some o)->φ h2
def Tw(H:Hp)(h:Heap):Prop:=∀a o,H a=some o->Xe P w H h a o
end
section
variable{P:Program}{w:World}{H H':Hp}{h h':Heap}{a:Addr}{o:HO}
theorem Xe.lt(x:Xe P w H h a o):a<h.objs.size:=by
 cases o with
 |lst xs=>obtain ⟨_,_,_,_,e⟩:=x;exact Zr e
 |tup xs=>obtain ⟨_,_,_,p⟩:=x;exact p.lt
 |dK Zs=>obtain ⟨_,_,_,_,o,_,_,e,_⟩:=x;exact Zr e
 |dT Zs=>obtain ⟨_,_,_,_,o,_,_,e,_⟩:=x;exact Zr e
 |set S n=>obtain ⟨o,_,_,_,e,_⟩:=x;exact Zr e
 |ins C dx fs=>obtain ⟨_,_,_,e,_⟩:=x;exact Zr e
 |own y=>obtain ⟨_,e⟩:=x;exact Zr e
 |xd fs=>obtain ⟨_,⟨_,_,_,e,_⟩,_⟩:=x;exact Zr e
 |m8 lo hi=>obtain ⟨_,_,_,e⟩:=x;exact Zr e
 |Jl ob u=>obtain ⟨e,_⟩:=x;exact Zr e
 |uD ps=>exact Zr (show h.get? a=some _ from x)
 |met f y=>exact Zr (show h.get? a=some _ from x)
 |ext φ=>obtain ⟨_,⟨_,e⟩,_⟩:=x;exact Zr e
theorem Paired.uC{α β:Type}{F G:α->β->Prop}:∀{l₁:List α}{rq:List β},Paired F l₁ rq->(∀a b,F a b->G a b)->Paired G l₁ rq
 |_,_,.nil,_=>.nil
 |_,_,.cons r t,f=>.cons (f _ _ r) (Paired.uC t f)
theorem Xe.Fh(x:Xe P w H h a o)(k:∀b u,(b=a\/H b=some (.own a))->h.get? b=some u->h'.get? b=some u)(ho:∀b,H b=some (.own a)->H' b=some (.own a))(ht:∀b xs,H b=some (.tup xs)->H' b=some (.tup xs)):Xe P w H' h' a o:=by
 induction o with
 |lst xs=>obtain ⟨z,Y_,n,r,e⟩:=x;exact⟨z,Y_,n,r,k _ _ (.inl Y) e⟩
 |tup xs=>obtain ⟨z,Y_,r,ob,e,c⟩:=x;exact⟨z,Y_,r,ob,k _ _ (.inl Y) e,c⟩
 |dK Zs=>obtain ⟨z,y,vs,r,ob,es,ep,e,c⟩:=x;exact⟨z,y,vs,r,ob,es,ep,k _ _ (.inl Y) e,c⟩
 |dT Zs=>
  obtain⟨z,y,xs,r,ob,es,ep,e,c⟩:=x;exact⟨z,y,xs,Paired.uC r fun p q z=>⟨z.1,ht _ _ z.2.1,z.2.2⟩,ob,es,ep,k _ _ (.inl Y) e,c⟩
 |set S n=>obtain ⟨ob,es,ep,t,e,c⟩:=x;exact⟨ob,es,ep,t,k _ _ (.inl Y) e,c⟩
 |ins C dx fs=>
  obtain⟨d,z,ne,e,mA,⟨od,es,ep,e2,c⟩,r⟩:=x;exact⟨ho _ d,z,ne,k _ _ (.inl Y) e,mA,⟨od,es,ep,k _ _ (.inr d) e2,c⟩,r⟩
 |own y=>obtain ⟨ob,e⟩:=x;exact⟨ob,k _ _ (.inl Y) e⟩
 |xd fs=>obtain ⟨mA,⟨od,es,ep,e,c⟩,r⟩:=x;exact⟨mA,⟨od,es,ep,k _ _ (.inl Y) e,c⟩,r⟩
 |m8 lo hi=>obtain ⟨t,u,v,e⟩:=x;exact⟨t,u,v,k _ _ (.inl Y) e⟩
 |Jl ob u ih=>obtain ⟨e,q⟩:=x;exact⟨k _ _ (.inl Y) e,ih q⟩
 |uD ps=>
  have e:h.get? a=some {cls:=.none,data:=.fields ps}:=x;show h'.get? a=some {cls:=.none,data:=.fields ps};exact k a _ (.inl Y) e
 |met f y=>
  have e:h.get? a=some (W.methodObj (.ref f) (.ref y)):=x;show h'.get? a=some (W.methodObj (.ref f) (.ref y));exact k a _ (.inl Y) e
 |ext φ=>obtain ⟨p,⟨o,e⟩,st⟩:=x;exact⟨st _ _ p fun o q=>k _ _ (.inl Y) q,⟨o,k _ _ (.inl Y) e⟩,st⟩
theorem Tw.lt(x:Tw P w H h)(e:H a=some o):a<h.objs.size:=(x a o e).lt
theorem Tw.fresh(x:Tw P w H h)(e:h.objs.size<=a):H a=none:=by
 cases q:H a with
 |none=>rfl
 |some u=>exact absurd (Zo (x.lt q) e) (Wu _)
theorem Tw.kept(x:Tw P w H h)(k:∀b u,h.get? b=some u->h'.get? b=some u):Tw P w H h':=fun a o e=>
 (x a o e).Fh (fun b u _ q=>k b u q) (fun _ q=>q) fun _ _ q=>q
theorem Tw.laid(x:Tw P w H h)(k:∀b u,h.get? b=some u->h'.get? b=some u)(hp:h.objs.size<=a)(new:Xe P w (upd H a o) h' a o):Tw P w (upd H a o) h':=fun b u e=>by
 have hn:=x.fresh hp;by_cases O:b=a;·subst O;rw[Z4]at e;cases e;exact new
 ·rw[ZW O]at e;exact(x b u e).Fh (fun c v _ q=>k c v q) (fun c q=>by rw[ZW (ZA q hn)];exact q) fun c xs q=>by rw[ZW (ZA q hn)];exact q
end
def Rd(H:Hp)(a:Addr)(u:HO):Prop:=H a=some u\/∃o,H a=some (.Jl o u)
theorem Rd.of{H:Hp}{a:Addr}{u:HO}(h:H a=some u):Rd H a u:=.inl h
theorem Rd.ok{P:Program}{w:World}{H:Hp}{h:Heap}{a:Addr}{u:HO}(r:Rd H a u)(x:Tw P w H h):Xe P w H h a u:=by
 rcases r with r|⟨o,r⟩;·exact x a u r
 ·obtain⟨_,q⟩:=x a _ r;exact q
def rj:Option HO->Prop
 |some (.lst _)=>True
 |some (.dK _)=>True
 |some (.dT _)=>True
 |some (.set _ _)=>True
 |some (.ins _ _ _)=>True
 |some (.ext _)=>True
 |_=>False
section
variable{P:Program}{w:World}{H:Hp}{h h':Heap}{x e:Addr}{o':HO}
theorem Tw.write(ok:Tw P w H h)(mu:rj (H x))(he:e=x\/H e=some (.own x))(k:∀b u,b≠e->h.get? b=some u->h'.get? b=some u)(rW:∃u,h'.get? e=some u)(new:Xe P w (upd H x o') h' x o'):Tw P w (upd H x o') h':=fun b u q=>by
 have rf:∀c y,H c=some (.own y)->c≠x:=fun c y r z=>by subst z;rw[r]at mu;exact mu
 have m7:∀c xs,H c=some (.tup xs)->c≠x:=fun c xs r z=>by subst z;rw[r]at mu;exact mu
 by_cases O:b=x;·subst O;rw[Z4]at q;cases q;exact new
 ·rw[ZW O]at q;by_cases uB:b=e
  ·have q':H b=some (.own x):=by
    rcases he with z|z;·exact absurd (uB.trans z) O
    ·rw[uB];exact z
   rw[q]at q';cases q';obtain⟨v,hv⟩:=rW;exact⟨v,by rw[uB];exact hv⟩
  ·refine(ok b u q).Fh (fun c v hc r=>k c v ?_ r) (fun c r=>by rw[ZW (rf c b r)];exact r) fun c xs r=>by rw[ZW (m7 c xs r)];exact r
   rcases hc with rfl|hc;·exact uB
   ·rintro rfl;rcases he with z|z;·exact rf c b hc z
    ·rw[hc]at z;cases z;exact O rfl
end
structure Un(fs ex:List Addr)(H H':Hp)(h h':Heap):Prop where
 keep:∀b o,h.get? b=some o->H b=none->b∉fs->b∉ex->h'.get? b=some o
 slot:∀b o,h.get? b=some o->H b=none->b∈fs->b∉ex->∃sl,h'.get? b=some {o with slots:=sl}
 free:∀b o,h.get? b=some o->H b=none->b∉ex->H' b=none
 there:∀b o,h.get? b=some o->b∉ex->∃o',h'.get? b=some o'
 Hv:∀b xs,H b=some (.tup xs)->H' b=some (.tup xs)
 Jk:∀b o u,H b=some (.Jl o u)->H' b=some (.Jl o u)
 Hu:∀b ps,H b=some (.uD ps)->∃more,H' b=some (.uD (ps++more))
section
variable{fs q_ ex aT:List Addr}{H H1 H2:Hp}{h J h2 h':Heap}{a x e:Addr}{o:HO}
theorem Un.any(u:Un fs ex H H1 h J){b:Addr}{ob:Obj}(q:h.get? b=some ob)(n:H b=none)(hx:b∉ex):∃sl,J.get? b=some {ob with slots:=sl}:=by
 by_cases O:b∈fs;·exact u.slot b ob q n O hx
 ·exact⟨ob.slots,u.keep b ob q n O hx⟩
theorem Un.kept(k:∀b u,h.get? b=some u->h'.get? b=some u):Un fs ex H H h h':=
 ⟨fun b ob q _ _ _=>k b ob q,fun b ob q _ _ _=>⟨ob.slots,k b ob q⟩,fun _ _ _ n _=>n,fun b ob q _=>⟨ob,k b ob q⟩,fun _ _ q=>q,fun _ _ _ q=>q,fun _ ps q=>⟨#[],by rw[q];simp⟩⟩
theorem Un.refl:Un fs ex H H h h:=Un.kept fun _ _ q=>q
theorem Un.laid(k:∀b u,h.get? b=some u->h'.get? b=some u)(hp:h.objs.size<=a)(hn:H a=none):Un fs ex H (upd H a o) h h' where
 keep:=fun b u q _ _ _=>k b u q
 slot:=fun b u q _ _ _=>⟨u.slots,k b u q⟩
 free:=fun b u q n _=>by rw[ZW (Za (Zo (Zr q) hp))];exact n
 there:=fun b u q _=>⟨u,k b u q⟩
 Hv:=fun b xs q=>by rw[ZW (ZA q hn)];exact q
 Jk:=fun b u xs q=>by rw[ZW (ZA q hn)];exact q
 Hu:=fun b ps q=>⟨#[],by rw[ZW (ZA q hn),q];simp⟩
theorem Un.write(mu:rj (H x))(he:e=x\/H e=some (.own x))(k:∀b u,b≠e->h.get? b=some u->h'.get? b=some u)(rW:∃u,h'.get? e=some u):Un fs ex H (upd H x o) h h':=by
 have hx:∀b,H b=none->b≠x:=fun b n z=>by subst z;rw[n]at mu;exact mu
 have O:∀b,H b=none->b≠e:=fun b n z=>by
  subst z;rcases he with r|r;·exact hx b n r
  ·rw[n]at r;cases r
 have hm:∀b u,H b=some u->¬rj (some u)->b≠x:=fun b u q nm z=>by subst z;rw[q]at mu;exact nm mu
 refine⟨fun b u q n _ _=>k b u (O b n) q,fun b u q n _ _=>⟨u.slots,k b u (O b n) q⟩,fun b u q n _=>by rw[ZW (hx b n)];exact n,fun b u q _=>?_,
  fun b xs q=>by rw[ZW (hm b _ q fun z=>z)];exact q,fun b u xs q=>by rw[ZW (hm b _ q fun z=>z)];exact q,fun b ps q=>⟨#[],by rw[ZW (hm b _ q fun z=>z),q];simp⟩⟩
 by_cases uB:b=e;·subst uB;exact rW
 ·exact⟨u,k b u uB q⟩
end
def oC(h:Heap)(H:Hp):List Addr:=(List.range h.objs.size).filter fun a=>(H a).isSome
def Jj(h:Heap)(H:Hp):Heap:=W.hideAll h (oC h H)
theorem Cu(h:Heap)(H:Hp):(Jj h H).objs.size=h.objs.size:=W.hideAll_size _ _
theorem A_{h:Heap}{H:Hp}{b:Addr}{o:Obj}(e:h.get? b=some o)(n:H b=none):(Jj h H).get? b=some o:=
 W.hideAll_get _ e fun hm=>by
  have q:(H b).isSome=true:=(XX.mp hm).2;rw[n]at q;simp at q
theorem xY{h:Heap}{H:Hp}{b:Addr}{o:Obj}(e:(Jj h H).get? b=some o):h.get? b=some o/\H b=none:=by
 have e':h.get? b=some o:=W.of_hideAll (oC h H) e;refine⟨e',?_⟩;cases q:H b with
 |none=>rfl
 |some x=>
  have hm:b∈oC h H:=XX.mpr ⟨YW.mpr (Zr e'),by simp[q]⟩;have z:(Jj h H).get? b=none:=W.hideAll_none (oC h H) hm;rw[z]at e;cases e
end L2
namespace L2
open PySem PySem.Spec PyProof.Rows
structure Mod(K:W.Frag)(mg:Str->Option Value)(base:Heap):Prop where
 qZ:K.In base
 glob:base.Ns mainGlobals mg
 blt:∃mb,base.Ns builtinsNs mb/\∀x:Str,x≠"__name__"->mb x=bootBuiltins x
 nolimit:base.NoLimit
 seer:base.NoSeer
structure Cx where
 prog:Program
 w:World
 K:W.Frag
 mg:Str->Option Value
 base:Heap
 A:Around
 N:List Str
 Kg:Shared
 qY:Hp
 env:Env
 outer:List Env
 stack:List Env
 ex:List Addr
 fn:Str->Bool
 calm:Bool
 pn:List (Addr×Obj)
 xe:Value->Shared->Prop
def A9(l:List Env):List Addr:=l.filterMap (·.frame)
abbrev Cx.fs(X:Cx):List Addr:=A9 X.outer
def rV(sc:Scope)(x:Str):Prop:=sc.names.lookup x=some .local\/sc.names.lookup x=some .cell\/sc.names.lookup x=some .free
def Loc(sc:Scope)(x:Str):Prop:=sc.names.lookup x=some .local\/sc.names.lookup x=some .cell
def Look(env:Env)(h:Heap)(m:Str->Option Value)(x:Str)(u:Value):Prop:=
 (env.kindOf x=some .local/\m x=some u)\/((env.kindOf x=some .cell\/env.kindOf x=some .free)/\∃c,env.cells.lookup x=some c/\h.IsCell c (some u))
structure Cx.Ok(X:Cx):Prop where
 mod:Mod X.K X.mg X.base
 kind:X.env.scope.kind=.function
 glob:X.env.globals=mainGlobals
 blt:X.env.builtins=builtinsNs
 above:X.Kg.heap.objs.size<=X.env.locals
 inj:∀x y c,X.env.cells.lookup x=some c->X.env.cells.lookup y=some c->x=y
 has:∀x,(X.env.kindOf x=some .cell\/X.env.kindOf x=some .free)->∃c,X.env.cells.lookup x=some c
 qX:∀x c,X.fn x=true->X.env.cells.lookup x=some c->X.Kg.heap.objs.size<=c
 hd:X.calm=true->X.A.handled=none
 frames:X.A.frames=some X.stack
 oB:X.stack=X.outer\/(X.stack=X.env::X.outer/\X.env.frame=some X.env.locals)
 oA:∀b∈X.ex,b≠X.env.locals/\∀x c,X.env.cells.lookup x=some c->c≠b
 bs:∀b o,X.base.get? b=some o->X.Kg.heap.get? b=some o/\X.qY b=none
 ym:X.base.objs.size<=X.Kg.heap.objs.size
 A8:∀b o,X.base.get? b=some o->b∉X.ex
 A7:∀b∈X.ex,b∉X.fs
 M9:X.Kg.heap.FunFrames X.base X.outer
 uA:∀b∈X.fs,X.qY b=none
 tree:X.prog.given.tree=none
 top:∃env l,X.stack=env::l/\env.scope.isGenerator=false/\env.scope.isCoroutine=false/\env.builtins=builtinsNs/\env.globals=mainGlobals
structure Inv(X:Cx)(pins:List (Addr×Obj))(σ:List (Option V))(H:Hp)(s:Shared):Prop where
 ok:X.Ok
 os:s.os=X.Kg.os
 bare:AllBare s.gens
 base:Un X.fs X.ex X.qY H X.Kg.heap s.heap
 loc:∃m,s.heap.Ns X.env.locals m/\∀(i:Nat)(x:Str)(v:V),X.N[i]?=some x->σ[i]?=some (some v)->rV X.env.scope x->∃u,RelV v u/\Look X.env s.heap m x u
 cell:∀x c,X.env.cells.lookup x=some c->∃v,s.heap.IsCell c v
 free:H X.env.locals=none
 RX:∀x c,X.env.cells.lookup x=some c->H c=none
 pin:∀p∈X.pn++pins,s.heap.get? p.1=some p.2/\H p.1=none/\p.1≠X.env.locals/\p.1∉X.fs/\∀v,p.2.data≠.cell v
 Ya:Tw X.prog X.w H s.heap
 len:σ.length=X.N.length
section
variable{X:Cx}{pins:List (Addr×Obj)}{σ:List (Option V)}{H H':Hp}{s:Shared}{h':Heap}
theorem Cx.Ok.mZ(ok:X.Ok){b:Addr}{o:Obj}(e:X.base.get? b=some o):b∉X.fs:=fun O=>by
 have:=(ok.M9.mem O).1;rw[e]at this;cases this
theorem Inv.bs(I:Inv X pins σ H s):∀b o,X.base.get? b=some o->s.heap.get? b=some o/\H b=none:=fun b o e=>
 ⟨I.base.keep b o (I.ok.bs b o e).1 (I.ok.bs b o e).2 (I.ok.mZ e) (I.ok.A8 b o e),I.base.free b o (I.ok.bs b o e).1 (I.ok.bs b o e).2 (I.ok.A8 b o e)⟩
theorem Inv.bk(I:Inv X pins σ H s):∀b o,X.base.get? b=some o->s.heap.get? b=some o:=fun b o e=>(I.bs b o e).1
theorem Inv.mod(I:Inv X pins σ H s):Mod X.K X.mg X.base:=I.ok.mod
theorem Inv.Fm(I:Inv X pins σ H s):X.K.In s.heap:=I.ok.mod.qZ.keeps I.bk
theorem Inv.nolimit(I:Inv X pins σ H s):s.heap.NoLimit:=I.ok.mod.nolimit.keeps I.bk
theorem Inv.fr(I:Inv X pins σ H s):∃m,Fr X.base X.env.locals s.heap m:=
 let⟨m,hn,_⟩:=I.loc
 ⟨m,hn,I.bk,ZE I.ok.ym I.ok.above⟩
theorem Inv.lt(I:Inv X pins σ H s):X.env.locals<s.heap.objs.size:=let⟨_,hn,_⟩:=I.loc;hn.lt
theorem Inv.sz(I:Inv X pins σ H s):X.Kg.heap.objs.size<=s.heap.objs.size:=ZE I.ok.above (Y5 I.lt)
theorem Inv.mY(I:Inv X pins σ H s){a:Addr}(h:s.heap.objs.size<=a):a∉X.fs:=fun O=>by
 obtain⟨_,o,ho,_⟩:=I.ok.M9.mem O;exact absurd (Zo (Zr ho) (ZE I.sz h)) (Wu _)
theorem Inv.uz(I:Inv X pins σ H s):∀x c,X.env.cells.lookup x=some c->c≠X.env.locals:=fun x c e z=>by
 obtain⟨v,o,ho,hd⟩:=I.cell x c e;obtain⟨m,⟨o',es,ep,Fl,mX,_⟩,_⟩:=I.loc;rw[z,Fl]at ho;cases ho;rw[mX]at hd;cases hd
theorem Inv.M9(I:Inv X pins σ H s):s.heap.FunFrames X.base X.outer:=by
 have all:∀(l:List Env),(∀b∈A9 l,b∈X.fs)->X.Kg.heap.FunFrames X.base l->s.heap.FunFrames X.base l:=by
  intro l;induction l with
  |nil=>intro _ _;trivial
  |cons env r ih=>
   intro hs hl;obtain⟨hk,⟨L,o,hf,hn,ho,hd⟩,hr⟩:=hl;have hL:L∈X.fs:=hs L (by unfold A9;rw[List.filterMap_cons,hf];exact YM);obtain⟨sl,e⟩:=I.base.slot L o ho (I.ok.uA L hL) hL fun z=>I.ok.A7 L z hL;exact⟨hk,⟨L,_,hf,hn,e,hd⟩,ih (fun b O=>hs b (by unfold A9;rw[List.filterMap_cons,hf];exact Zh _ O)) hr⟩
 exact all X.outer (fun _ O=>O) I.ok.M9
theorem Inv.stack(I:Inv X pins σ H s):s.heap.FunFrames X.base X.stack:=by
 rcases I.ok.oB with e|⟨e,hf⟩;·rw[e];exact I.M9
 ·rw[e];obtain⟨m,hn,_⟩:=I.loc;refine .cons (by rw[I.ok.kind];decide) hf hn ?_ I.M9;exact Heap.get?_none_of_le (ZE I.ok.ym I.ok.above)
theorem Inv.Fg(I:Inv X pins σ H s):∀b∈A9 X.stack,b∈X.env.locals::X.fs:=fun b O=>by
 rcases I.ok.oB with e|⟨e,hf⟩;·rw[e]at O;exact Zh _ O
 ·rw[e]at O;unfold A9 at O;rw[List.filterMap_cons,hf]at O;exact O
theorem Inv.DR(I:Inv X pins σ H s):∀b∈A9 X.stack,H b=none:=fun b O=>by
 rcases ZH.mp (I.Fg b O)with e|O;·rw[e];exact I.free
 ·obtain⟨_,o,ho,_⟩:=I.ok.M9.mem O;exact I.base.free b o ho (I.ok.uA b O) fun z=>I.ok.A7 b z O
theorem Inv.step{g':Array GenState}{t':Nat}{d':Drawn}{ch:List Addr}(I:Inv X pins σ H s)(HA:∀b∈ch,(b∈X.ex\/X.Kg.heap.objs.size<=b)/\b≠X.env.locals/\(∀x c,X.env.cells.lookup x=some c->c≠b)/\∀p∈X.pn++pins,p.1≠b)(keep:∀b o,b≠X.env.locals->b∉X.fs->b∉ch->s.heap.get? b=some o->H b=none->h'.get? b=some o)(slot:∀b o,b≠X.env.locals->b∈X.fs->b∉ch->s.heap.get? b=some o->H b=none->∃sl,h'.get? b=some {o with slots:=sl})(free:∀b o,b∉ch->s.heap.get? b=some o->H b=none->H' b=none)(there:∀b o,b∉ch->s.heap.get? b=some o->∃o',h'.get? b=some o')(Hv:∀b xs,H b=some (.tup xs)->H' b=some (.tup xs))(Jk:∀b o u,H b=some (.Jl o u)->H' b=some (.Jl o u))(Hu:∀b ps,H b=some (.uD ps)->∃more,H' b=some (.uD (ps++more)))(ns:∀m,s.heap.Ns X.env.locals m->h'.Ns X.env.locals m)(Ya:Tw X.prog X.w H' h')(hg:AllBare g'):Inv X pins σ H' {s with heap:=h',gens:=g',drawn:=d',toks:=t'}:=by
 have jn:∀b o,X.Kg.heap.get? b=some o->b≠X.env.locals:=fun b o e=>Za (Zo (Zr e) I.ok.above);have oz:∀b o,X.Kg.heap.get? b=some o->b∉X.ex->b∉ch:=fun b o e hx O=>by
  rcases(HA b O).1 with z|z;·exact hx z
  ·exact absurd (Zo (Zr e) z) (Wu _)
 have cellK:∀x c,X.env.cells.lookup x=some c->∀v,s.heap.IsCell c v->h'.IsCell c v:=fun x c e v ⟨o,ho,hd⟩=>by
  have qW:c∉ch:=fun z=>(HA c z).2.2.1 x c e rfl;by_cases hc:c∈X.fs
  ·obtain⟨sl,q⟩:=slot c o (I.uz x c e) hc qW ho (I.RX x c e);exact⟨_,q,hd⟩
  ·exact⟨o,keep c o (I.uz x c e) hc qW ho (I.RX x c e),hd⟩
 refine⟨I.ok,I.os,hg,⟨fun b o e n O hx=>?_,fun b o e n O hx=>?_,fun b o e n hx=>?_,fun b o e hx=>?_,fun b xs e=>Hv b xs (I.base.Hv b xs e),fun b o xs e=>Jk b o xs (I.base.Jk b o xs e),fun b ps e=>?_⟩,?_,fun x c e=>?_,?_,fun x c e=>?_,fun p hp=>?_,Ya,I.len⟩;·exact keep b o (jn b o e) O (oz b o e hx) (I.base.keep b o e n O hx) (I.base.free b o e n hx)
 ·obtain⟨sl,e1⟩:=I.base.slot b o e n O hx;obtain⟨gv,e2⟩:=slot b _ (jn b o e) O (oz b o e hx) e1 (I.base.free b o e n hx);exact⟨gv,e2⟩
 ·obtain⟨o',e1⟩:=I.base.there b o e hx;exact free b o' (oz b o e hx) e1 (I.base.free b o e n hx)
 ·obtain⟨o',e1⟩:=I.base.there b o e hx;exact there b o' (oz b o e hx) e1
 ·obtain⟨m1,e1⟩:=I.base.Hu b ps e;obtain⟨m2,e2⟩:=Hu b _ e1;exact⟨m1++m2,by rw[e2,Array.append_assoc]⟩
 ·obtain⟨m,hn,hl⟩:=I.loc;refine⟨m,ns m hn,fun i x v e1 e2 e3=>?_⟩;obtain⟨u,r,l⟩:=hl i x v e1 e2 e3;refine⟨u,r,?_⟩;rcases l with l|⟨k,c,e,z⟩;·exact .inl l
  ·exact .inr ⟨k,c,e,cellK x c e _ z⟩
 ·obtain⟨v,z⟩:=I.cell x c e;exact⟨v,cellK x c e v z⟩
 ·obtain⟨m,⟨o,_,_,ho,_⟩,_⟩:=I.loc;exact free _ o (fun z=>(HA _ z).2.1 rfl) ho I.free
 ·obtain⟨v,o,ho,hd⟩:=I.cell x c e;exact free c o (fun z=>(HA c z).2.2.1 x c e Y) ho (I.RX x c e)
 ·obtain⟨e,n,ne,nf,d⟩:=I.pin p hp;have qW:p.1∉ch:=fun z=>(HA p.1 z).2.2.2 p hp rfl;exact⟨keep p.1 p.2 ne nf qW e n,free p.1 p.2 qW e n,ne,nf,d⟩
theorem Inv.un{t':Nat}(I:Inv X pins σ H s)(u:Un X.fs [] H H' s.heap h')(Ya:Tw X.prog X.w H' h'):Inv X pins σ H' {s with heap:=h',toks:=t'}:=by
 obtain⟨m,⟨o,es,ep,ho,r⟩,_⟩:=id I.loc;obtain⟨sl,hL⟩:=u.any ho I.free (by simp);exact I.step (g':=s.gens) (d':=s.drawn) (ch:=[]) (fun _ z=>nomatch z) (fun b o _ O _ e n=>u.keep b o e n O (by simp)) (fun b o _ O _ e n=>u.slot b o e n O (by simp)) (fun b o _ e n=>u.free b o e n (by simp)) (fun b o _ e=>u.there b o e (by simp)) u.Hv u.Jk u.Hu (fun m' hm=>by
  obtain⟨o',mW,mV,Fl,r'⟩:=hm;rw[ho]at Fl;cases Fl;exact⟨_,mW,mV,hL,r'⟩) Ya I.bare
theorem Inv.call{g':Array GenState}{t':Nat}{d':Drawn}{ch:List Addr}(I:Inv X pins σ H s)(u:Un (A9 X.stack) ch H H' s.heap h')(Ya:Tw X.prog X.w H' h')(hg:AllBare g')(HA:∀b∈ch,(b∈X.ex\/X.Kg.heap.objs.size<=b)/\b≠X.env.locals/\(∀x c,X.env.cells.lookup x=some c->c≠b)/\∀p∈X.pn++pins,p.1≠b):Inv X pins σ H' {s with heap:=h',gens:=g',drawn:=d',toks:=t'}:=by
 obtain⟨m,⟨o,es,ep,ho,r⟩,_⟩:=id I.loc;obtain⟨sl,hL⟩:=u.any ho I.free fun z=>(HA _ z).2.1 rfl;exact I.step (ch:=ch) HA (fun b o hL O hc e n=>u.keep b o e n (fun z=>(ZH.mp (I.Fg b z)).elim hL O) hc) (fun b o _ _ hc e n=>u.any e n hc) (fun b o hc e n=>u.free b o e n hc) (fun b o hc e=>u.there b o e hc) u.Hv u.Jk u.Hu (fun m' hm=>by
  obtain⟨o',mW,mV,Fl,r'⟩:=hm;rw[ho]at Fl;cases Fl;exact⟨_,mW,mV,hL,r'⟩) Ya hg
theorem Inv.turned{t':Nat}{it:Addr}(I:Inv X pins σ H s)(k:∀b o,b≠it->s.heap.get? b=some o->h'.get? b=some o)(hn:H it=none)(hL:it≠X.env.locals)(J:it∈X.ex\/X.Kg.heap.objs.size<=it)(h2:∀x c,X.env.cells.lookup x=some c->c≠it)(h3:∀p∈X.pn++pins,p.1≠it):Inv X pins σ H {s with heap:=h',toks:=t'}:=by
 have vB:∀b u,H b=some u->b≠it:=fun b u e z=>by rw[z,hn]at e;cases e
 refine I.step (g':=s.gens) (d':=s.drawn) (ch:=[it]) (fun b O=>?_) (fun b o _ _ hc e _=>k b o (fun z=>hc (by simp[z])) e) (fun b o _ _ hc e _=>⟨o.slots,k b o (fun z=>hc (by simp[z])) e⟩) (fun _ _ _ _ n=>n)
  (fun b o hc e=>⟨o,k b o (fun z=>hc (by simp[z])) e⟩) (fun _ _ e=>e) (fun _ _ _ e=>e) (fun b ps e=>⟨#[],by rw[e];simp⟩) (fun m hm=>?_) (fun b u e=>?_) I.bare
 ·have e:b=it:=by simpa using O
  subst e;exact⟨J,hL,h2,h3⟩
 ·obtain⟨o,es,ep,ho,r⟩:=hm;exact⟨o,es,ep,k _ o (Xo hL) ho,r⟩
 ·refine(I.Ya b u e).Fh (fun c v hc q=>k c v ?_ q) (fun _ q=>q) fun _ _ q=>q;rcases hc with z|z;·rw[z];exact vB b u e
  ·exact vB c _ z
theorem Inv.tok(I:Inv X pins σ H s)(t:Nat):Inv X pins σ H {s with toks:=t}:=I.un (h':=s.heap) (t':=t) Un.refl I.Ya
theorem Inv.kept{t':Nat}(I:Inv X pins σ H s)(k:∀b u,s.heap.get? b=some u->h'.get? b=some u):Inv X pins σ H {s with heap:=h',toks:=t'}:=I.un (Un.kept k) (I.Ya.kept k)
theorem Inv.laid{a:Addr}{o:HO}{t':Nat}(I:Inv X pins σ H s)(k:∀b u,s.heap.get? b=some u->h'.get? b=some u)(hp:s.heap.objs.size<=a)(new:Xe X.prog X.w (upd H a o) h' a o):Inv X pins σ (upd H a o) {s with heap:=h',toks:=t'}:=I.un (Un.laid k hp (I.Ya.fresh hp)) (I.Ya.laid k hp new)
theorem Inv.write{x e:Addr}{o:HO}{t':Nat}(I:Inv X pins σ H s)(mu:rj (H x))(he:e=x\/H e=some (.own x))(k:∀b u,b≠e->s.heap.get? b=some u->h'.get? b=some u)(rW:∃u,h'.get? e=some u)(new:Xe X.prog X.w (upd H x o) h' x o):Inv X pins σ (upd H x o) {s with heap:=h',toks:=t'}:=I.un (Un.write mu he k rW) (I.Ya.write mu he k rW new)
theorem Inv.weak{XQ:List (Option V)}(I:Inv X pins σ H s)(hl:XQ.length=σ.length)(w:∀(i:Nat) v,XQ[i]?=some (some v)->σ[i]?=some (some v)):Inv X pins XQ H s:=
 ⟨I.ok,I.os,I.bare,I.base,let⟨m,hn,mT⟩:=I.loc;⟨m,hn,fun i x v e1 e2 e3=>mT i x v e1 (w i v e2) e3⟩,I.cell,I.free,I.RX,I.pin,I.Ya,hl.trans I.len⟩
theorem Inv.DQ{vA:List (Addr×Obj)}(I:Inv X pins σ H s)(h:∀p∈vA,s.heap.get? p.1=some p.2/\H p.1=none/\p.1≠X.env.locals/\p.1∉X.fs/\∀v,p.2.data≠.cell v):Inv X vA σ H s:=
 ⟨I.ok,I.os,I.bare,I.base,I.loc,I.cell,I.free,I.RX,fun p hp=>(Zm.mp hp).elim (fun z=>I.pin p (Yu _ z)) (h p),I.Ya,I.len⟩
theorem Mz{N:List Str}(hN:N.Nodup){i j:Nat}{x:Str}(a:N[i]?=some x)(b:N[j]?=some x):i=j:=by
 obtain⟨J,e1⟩:=ZC.mp a;obtain⟨h2,e2⟩:=ZC.mp b;exact(List.getElem_inj hN).mp (e1.trans e2.symm)
theorem Kf{M:Model}{A:Around}{E:Value->Shared->Prop}{i:Nat}{x:Str}{v:V}{u:Value}{Q:Unit->Shared->Prop}(I:Inv X pins σ H s)(hN:X.N.Nodup)(hi:X.N[i]?=some x)(hx:Loc X.env.scope x)(r:RelV v u)(h:∀s',Inv X pins (σ.set i (some v)) H s'->(∃a,Heap.SameBut a s.heap s'.heap/\(a=X.env.locals\/X.env.cells.lookup x=some a))->Q () s')(hf:X.fn x=true\/X.env.scope.names.lookup x=some .local:=by first|exact .inl rfl|exact .inr rfl|assumption):wpAny M A (storeName X.env x u) Q E s:=by
 obtain⟨m,hn,hl⟩:=id I.loc;have mS:(X.env.scope.kind==.class||(X.env.scope.kind==.module&&X.env.locals !=X.env.globals))=false:=by rw[I.ok.kind];rfl
 have qV:i<σ.length:=by rw[I.len];exact(ZC.mp hi).1
 have uz:=I.uz;have tracked:∀{a:Addr}{h':Heap},(∃o,s.heap.get? a=some o/\H a=none)->Heap.SameBut a s.heap h'->Tw X.prog X.w H h':=fun{a h'} ha hs b ob e=>by
  obtain⟨_,_,Ke⟩:=ha;refine(I.Ya b ob e).Fh (fun c w' hc q=>(hs.2 c ?_).trans q) (fun _ q=>q) fun _ _ q=>q;rintro rfl;rcases hc with rfl|hc;·rw[Ke]at e;cases e
  ·rw[Ke]at hc;cases hc
 rcases hx with hk|hk
 ·refine wpAny_storeName_local hk hn (fun h' gu hs=>?_) mS;obtain⟨oL,_,_,gr,_⟩:=id hn;refine h _ ⟨I.ok,I.os,I.bare,⟨fun b o e n O hx=>?_,fun b o e n O hx=>?_,I.base.free,fun b o e hx=>?_,I.base.Hv,I.base.Jk,I.base.Hu⟩,⟨_,gu,fun j y v' e1 e2 e3=>?_⟩,fun y c e=>?_,I.free,I.RX,fun p hp=>?_,tracked ⟨oL,gr,I.free⟩ hs,by simpa using I.len⟩ ⟨_,hs,.inl Y⟩;·exact(hs.2 b (Za (Zo (Zr e) I.ok.above))).trans (I.base.keep b o e n O hx)
  ·obtain⟨sl,e1⟩:=I.base.slot b o e n O hx;exact⟨sl,(hs.2 b (Za (Zo (Zr e) I.ok.above))).trans e1⟩
  ·obtain⟨o',e1⟩:=I.base.there b o e hx;exact⟨o',(hs.2 b (Za (Zo (Zr e) I.ok.above))).trans e1⟩
  ·by_cases hj:j=i
   ·subst hj;rw[hi]at e1;cases e1;rw[List.getElem?_set_self qV]at e2;cases e2;exact⟨u,r,.inl ⟨hk,by simp⟩⟩
   ·rw[List.getElem?_set_ne (Xo hj)]at e2;obtain⟨u',r',q⟩:=hl j y v' e1 e2 e3;refine⟨u',r',?_⟩;rcases q with⟨k,e⟩|⟨k,c,e,z⟩
    ·refine .inl ⟨k,?_⟩;have:y≠x:=fun e=>hj (Mz hN e1 (e▸hi));simp[this,e]
    ·exact .inr ⟨k,c,e,z.sameBut hs (uz y c e)⟩
  ·obtain⟨w',z⟩:=I.cell y c e;exact⟨w',z.sameBut hs (uz y c e)⟩
  ·obtain⟨e,n,ne,nf,d⟩:=I.pin p hp;exact⟨(hs.2 p.1 ne).trans e,n,ne,nf,d⟩
 ·have mR:X.fn x=true:=by
   rcases hf with z|z;·exact z
   ·rw[z]at hk;cases hk
  obtain⟨c,hc⟩:=I.ok.has x (.inl hk);obtain⟨w',z⟩:=I.cell x c hc;refine wpAny_storeName_cell I.ok.kind hk hc z (fun h' jk hs=>?_);obtain⟨oc,jj,mQ⟩:=id z;refine h {s with heap:=h'} ⟨I.ok,I.os,I.bare,⟨fun b o e n O hx=>?_,fun b o e n O hx=>?_,I.base.free,fun b o e hx=>?_,I.base.Hv,I.base.Jk,I.base.Hu⟩,⟨m,hn.sameBut hs (Xo (uz x c hc)),fun j y v' e1 e2 e3=>?_⟩,fun y c' e=>?_,I.free,I.RX,fun p hp=>?_,tracked ⟨oc,jj,I.RX x c hc⟩ hs,by simpa using I.len⟩ ⟨c,hs,.inr hc⟩;·exact(hs.2 b (Za (Zo (Zr e) (I.ok.qX x c mR hc)))).trans (I.base.keep b o e n O hx)
  ·obtain⟨sl,e1⟩:=I.base.slot b o e n O hx;exact⟨sl,(hs.2 b (Za (Zo (Zr e) (I.ok.qX x c mR hc)))).trans e1⟩
  ·obtain⟨o',e1⟩:=I.base.there b o e hx;exact⟨o',(hs.2 b (Za (Zo (Zr e) (I.ok.qX x c mR hc)))).trans e1⟩
  ·by_cases hj:j=i
   ·subst hj;rw[hi]at e1;cases e1;rw[List.getElem?_set_self qV]at e2;cases e2;exact⟨u,r,.inr ⟨.inl hk,c,hc,jk⟩⟩
   ·rw[List.getElem?_set_ne (Xo hj)]at e2;obtain⟨u',r',q⟩:=hl j y v' e1 e2 e3;refine⟨u',r',?_⟩;rcases q with q|⟨k,c',e,z'⟩;·exact .inl q
    ·refine .inr ⟨k,c',e,z'.sameBut hs ?_⟩;rintro rfl;exact hj (Mz hN e1 (I.ok.inj _ _ _ e hc▸hi))
  ·by_cases jh:c'=c;·subst jh;exact⟨_,jk⟩
   ·obtain⟨w2,z2⟩:=I.cell y c' e;exact⟨w2,z2.sameBut hs jh⟩
  ·obtain⟨e,n,ne,nf,d⟩:=I.pin p hp;refine⟨(hs.2 p.1 ?_).trans e,n,ne,nf,d⟩;intro q;rw[q,jj]at e;have q':oc=p.2:=Zb e;exact d w' (by rw[<-q'];exact mQ)
theorem My{M:Model}{A:Around}{E:Value->Shared->Prop}{i:Nat}{x:Str}{v:V}{u:Value}{Q:Unit->Shared->Prop}(I:Inv X pins σ H s)(hN:X.N.Nodup)(hi:X.N[i]?=some x)(hx:Loc X.env.scope x)(r:RelV v u)(h:∀s',Inv X pins (σ.set i (some v)) H s'->Q () s')(hf:X.fn x=true\/X.env.scope.names.lookup x=some .local:=by first|exact .inl rfl|exact .inr rfl|assumption):wpAny M A (storeName X.env x u) Q E s:=
 Kf I hN hi hx r (fun s' I' _=>h s' I') hf
theorem Inv.qU{s':Shared}{ch:List Addr}(I:Inv X pins σ H s)(ho:s'.os=s.os)(u:Un (A9 X.stack) ch H H' s.heap s'.heap)(Ya:Tw X.prog X.w H' s'.heap)(hg:AllBare s'.gens)(HA:∀b∈ch,(b∈X.ex\/X.Kg.heap.objs.size<=b)/\b≠X.env.locals/\(∀x c,X.env.cells.lookup x=some c->c≠b)/\∀p∈X.pn++pins,p.1≠b):Inv X pins σ H' s':=by
 obtain⟨h',g',d',t',o'⟩:=s';have e:o'=s.os:=ho;subst e;exact I.call (g':=g') (t':=t') (d':=d') u Ya hg HA
end
abbrev XK:=Value->Option Addr->Hp->Prop
abbrev St:=List (Option V)
abbrev VK:=V->Hp->Prop
abbrev TE:=St->Hp->VK->Prop
abbrev TT:=St->Hp->(Bool->Hp->Prop)->Prop
abbrev TA:=St->Hp->(List V->Hp->Prop)->Prop
structure Ends where
 nx:St->Hp->Prop
 rt:VK
 bk:St->Hp->Prop:=fun _ _=>False
 ct:St->Hp->Prop:=fun _ _=>False
abbrev TS:=Ends->St->Hp->Prop
def EP(X:Cx)(pins:List (Addr×Obj))(σ:St)(Q:VK)(u:Value)(s':Shared):Prop:=∃v H',Inv X pins σ H' s'/\RelV v u/\Q v H'
def TP(X:Cx)(pins:List (Addr×Obj))(σ:St)(Q:Bool->Hp->Prop)(b:Bool)(s':Shared):Prop:=∃H',Inv X pins σ H' s'/\Q b H'
def AP(X:Cx)(pins:List (Addr×Obj))(σ:St)(Q:List V->Hp->Prop)(us:List Value)(s':Shared):Prop:=∃vs H',Inv X pins σ H' s'/\Vals vs us/\Q vs H'
def SP(X:Cx)(pins:List (Addr×Obj))(D:Ends)(f:Flow)(s':Shared):Prop:=
 match f with
 |.next=>∃XQ H',Inv X pins XQ H' s'/\D.nx XQ H'
 |.brk=>∃XQ H',Inv X pins XQ H' s'/\D.bk XQ H'
 |.cont=>∃XQ H',Inv X pins XQ H' s'/\D.ct XQ H'
 |.ret u=>∃v XQ H',Inv X pins XQ H' s'/\RelV v u/\D.rt v H'
def PE(X:Cx)(e:Expr)(t:TE):Prop:=
 ∀(pins:List (Addr×Obj))(s:Shared)(σ:St)(H:Hp)(Q:VK),Inv X pins σ H s->t σ H Q->wpAny (model X.prog X.w) X.A (eval e X.env) (EP X pins σ Q) X.xe s
def PT(X:Cx)(e:Expr)(t:TT):Prop:=
 ∀(pins:List (Addr×Obj))(s:Shared)(σ:St)(H:Hp)(Q:Bool->Hp->Prop),Inv X pins σ H s->t σ H Q->wpAny (model X.prog X.w) X.A (isTrue e X.env (eval e X.env)) (TP X pins σ Q) X.xe s
def PW(X:Cx)(e:Expr)(t:TT):Prop:=
 ∀(whole:Sem Value)(pins:List (Addr×Obj))(s:Shared)(σ:St)(H:Hp)(Q:Bool->Hp->Prop),Inv X pins σ H s->t σ H Q->wpAny (model X.prog X.w) X.A (isTrue e X.env whole) (TP X pins σ Q) X.xe s
theorem PW.pt{X:Cx}{e:Expr}{t:TT}(h:PW X e t):PT X e t:=h _
def PA(X:Cx)(es:List Expr)(t:TA):Prop:=
 ∀(pos:Pos)(pins:List (Addr×Obj))(s:Shared)(σ:St)(H:Hp)(Q:List V->Hp->Prop),Inv X pins σ H s->t σ H Q->wpAny (model X.prog X.w) X.A (spliced (backTo pos (starEach es X.env))) (AP X pins σ Q) X.xe s
def PS(X:Cx)(st:Stmt)(t:TS):Prop:=
 ∀(pins:List (Addr×Obj))(s:Shared)(σ:St)(H:Hp)(D:Ends),Inv X pins σ H s->t D σ H->wpAny (model X.prog X.w) X.A (exec st X.env) (SP X pins D) X.xe s
def Ct(X:Cx)(st:List Stmt)(t:TS):Prop:=
 ∀(pins:List (Addr×Obj))(s:Shared)(σ:St)(H:Hp)(D:Ends),Inv X pins σ H s->t D σ H->wpAny (model X.prog X.w) X.A (execs st X.env) (SP X pins D) X.xe s
theorem Yg{α:Type}{t:Sem α}{Q Q':α->Shared->Prop}{M:Model}{A:Around}{E:Value->Shared->Prop}{s:Shared}(h:wpAny M A t Q E s)(hQ:∀a s,Q a s->Q' a s):wpAny M A t Q' E s:=X' h hQ fun _ _ x=>x
end L2
namespace L2
open PySem PySem.Spec PyProof.Rows
section
variable{X:Cx}
theorem bin{a b:Expr}{ta tb:TE}(ha:PE X a ta)(O:PE X b tb){pins:List (Addr×Obj)}{s:Shared}{σ:St}{H:Hp}{R:V->V->Hp->Prop}(I:Inv X pins σ H s)(h:ta σ H fun x H1=>tb σ H1 fun y H2=>R x y H2){α:Type}{Q:α->Shared->Prop}{f:Value->Value->Sem α}(hf:∀v u s2 x y H2,Inv X pins σ H2 s2->RelV x v->RelV y u->R x y H2->wpAny (model X.prog X.w) X.A (f v u) Q X.xe s2):wpAny (model X.prog X.w) X.A (eval a X.env) (fun v X5=>wpAny (model X.prog X.w) X.A (eval b X.env) (fun u Qs=>wpAny (model X.prog X.w) X.A (f v u) Q X.xe Qs) X.xe X5) X.xe s:=by
 refine Yg (ha pins s σ H _ I h) fun v s1 ⟨x,H1,I1,r1,q1⟩=>?_;refine Yg (O pins s1 σ H1 _ I1 q1) fun u s2 ⟨y,H2,I2,r2,q2⟩=>?_;exact hf v u s2 x y H2 I2 r1 r2 q2
def Hs(i:Nat):TE:=fun σ H Q=>∃v,σ[i]?=some (some v)/\Q v H
def tC(v:V):TE:=fun _ H Q=>Q v H
theorem uy{i:Nat}{x:Str}{pos:Pos}(hN:X.N[i]?=some x)(hv:rV X.env.scope x)(hd:(x==("__debug__":Str))=false:=by decide)(Bg:(x==("__classdict__":Str))=false:=by decide):PE X (.Name x pos) (Hs i):=by
 intro pins s σ H Q I h;obtain⟨v,e,h⟩:=h;obtain⟨m,hn,hl⟩:=I.loc;obtain⟨u,r,l⟩:=hl i x v hN e hv;have fin:EP X pins σ Q u s:=⟨v,H,I,r,h⟩;rcases l with⟨hk,hm⟩|⟨hk,c,hc,DP⟩;·exact wpAny_Name (wpAny_loadName_local I.ok.kind hk hn hm fin) hd
 ·rcases hk with hk|hk;·exact wpAny_Name (wpAny_loadName_cell I.ok.kind hk hc DP fin) hd
  ·exact wpAny_Name (wpAny_loadName_free I.ok.kind hk hc DP fin Bg) hd
theorem ZS{i j pos}:PE X (.Constant (.int i) j pos) (tC (.int i)):=fun _ _ _ H _ I h=>wpAny_Constant_int ⟨.int i,H,I.tok _,⟨_,Y⟩,h⟩
theorem Kd{b j pos}:PE X (.Constant (.bool b) j pos) (tC (.bl b)):=fun _ _ _ H _ I h=>Constant_bool ⟨.bl b,H,I,Y,h⟩
theorem XW{j pos}:PE X (.Constant .none j pos) (tC .Xs):=fun _ _ _ H _ I h=>Constant_none ⟨.Xs,H,I,Y,h⟩
def Gl(X:Cx)(x:Str):Prop:=X.env.kindOf x=some .globalImplicit
theorem MK{E:Value->Shared->Prop}{pins:List (Addr×Obj)}{s:Shared}{σ:St}{H:Hp}{x:Str}{u:Value}{pos:Pos}{Q:Value->Shared->Prop}(I:Inv X pins σ H s)(hg:Gl X x)(hm:X.mg x=some u)(h:Q u s)(hd:(x==("__debug__":Str))=false:=by decide):wpAny (model X.prog X.w) X.A (eval (.Name x pos) X.env) Q E s:=
 Calls.Name_function_global I.ok.kind hg (Calls.loadGlobal_global (by rw[I.ok.glob];exact I.mod.glob.keeps I.bk) hm h) hd
theorem OB{E:Value->Shared->Prop}{pins:List (Addr×Obj)}{s:Shared}{σ:St}{H:Hp}{x:Str}{u:Value}{pos:Pos}{Q:Value->Shared->Prop}(I:Inv X pins σ H s)(hg:Gl X x)(hm:X.mg x=none)(hv:bootBuiltins x=some u)(h:Q u s)(hn:x≠"__name__":=by decide)(hd:(x==("__debug__":Str))=false:=by decide):wpAny (model X.prog X.w) X.A (eval (.Name x pos) X.env) Q E s:=by
 obtain⟨mb,J,h2⟩:=I.mod.blt;exact Calls.Name_function_global I.ok.kind hg (Calls.loadGlobal_builtin (by rw[I.ok.glob];exact I.mod.glob.keeps I.bk) hm (by rw[I.ok.blt];exact J.keeps I.bk) ((h2 x hn).trans hv) h) hd
theorem xX{x:Str}{v:V}{u:Value}{pos:Pos}(hg:Gl X x)(hm:X.mg x=some u)(r:RelV v u)(hd:(x==("__debug__":Str))=false:=by decide):PE X (.Name x pos) (tC v):=
 fun _ _ _ H _ I h=>MK I hg hm ⟨v,H,I,r,h⟩ hd
variable{a b:Expr}{ta tb:TE}{pos:Pos}
def PC(X:Cx)(op:CmpOp)(a b:Expr)(t:TE):Prop:=
 ∀(pins:List (Addr×Obj))(s:Shared)(σ:St)(H:Hp)(Q:VK),Inv X pins σ H s->t σ H Q->
  wpAny (model X.prog X.w) X.A (eval a X.env) (fun v X5=>wpAny (model X.prog X.w) X.A (eval b X.env) (fun u Qs=>wpAny (model X.prog X.w) X.A (compareOp op v u) (EP X pins σ Q) X.xe Qs) X.xe X5) X.xe s
def tB(t:TE):TT:=fun σ H Q=>t σ H fun x H1=>∃c,x=.bl c/\Q c H1
theorem Vi{op:CmpOp}{t:TE}(h:PC X op a b t)(J:behindInMarks op b=false:=by first|exact qT _ (by decide) (by decide)|rfl):PT X (.Compare a [op] [b] pos) (tB t):=by
 intro pins s σ H Q I hw;refine wpAny_isTrue_Compare1 (Yg (h pins s σ H _ I hw) fun v s1 J=>Yg J fun u s2 h2=>Yg h2 fun c s3 ⟨x,H1,I1,r1,q1⟩=>?_) J;obtain⟨d,rfl,q⟩:=q1;cases r1;exact WJ ⟨H1,I1,q⟩
theorem T4{e:Expr}{t:TE}(h:PE X e t)(he:∀whole,isTrue e X.env whole=(do let v<-whole;standAt e.pos;holding [v] (truthy v)):=by intro _;rfl):PT X e (tB t):=by
 intro pins s σ H Q I hw;refine isTrue_plain (Yg (h pins s σ H _ I hw) fun v s1 ⟨x,H1,I1,r1,q1⟩=>?_) (he _);obtain⟨d,rfl,q⟩:=q1;cases r1;exact WJ ⟨H1,I1,q⟩
variable{tA oy:TT}{rest:List Expr}
def mP(t u:TT):TT:=fun σ H Q=>t σ H fun c H1=>if c=true then u σ H1 Q else Q false H1
def gq(t u:TT):TT:=fun σ H Q=>t σ H fun c H1=>if c=true then Q true H1 else u σ H1 Q
def mO(t:TT):TT:=fun σ H Q=>t σ H fun c H1=>Q (!c) H1
theorem Q7(ha:PT X a tA):PW X (.BoolOp .And [a] pos) tA:=by
 intro wh pins s σ H Q I h;refine isTrue_and (Yg (ha pins s σ H Q I h) fun c s1 e=>?_);cases c with
 |true=>exact isTrue_and_nil e
 |false=>exact e
theorem VJ(ha:PT X a tA):PW X (.BoolOp .Or [a] pos) tA:=by
 intro wh pins s σ H Q I h;refine isTrue_or (Yg (ha pins s σ H Q I h) fun c s1 e=>?_);cases c with
 |false=>exact isTrue_or_nil e
 |true=>exact e
theorem Qr(ha:PT X a tA)(O:PW X (.BoolOp .And (b::rest) pos) oy):PW X (.BoolOp .And (a::b::rest) pos) (mP tA oy):=by
 intro wh pins s σ H Q I h;refine isTrue_and (Yg (ha pins s σ H _ I h) fun c s1 ⟨H1,I1,q1⟩=>?_);cases c with
 |true=>exact O wh pins s1 σ H1 Q I1 q1
 |false=>exact ⟨H1,I1,q1⟩
theorem Vc(ha:PT X a tA)(O:PW X (.BoolOp .Or (b::rest) pos) oy):PW X (.BoolOp .Or (a::b::rest) pos) (gq tA oy):=by
 intro wh pins s σ H Q I h;refine isTrue_or (Yg (ha pins s σ H _ I h) fun c s1 ⟨H1,I1,q1⟩=>?_);cases c with
 |true=>exact ⟨H1,I1,q1⟩
 |false=>exact O wh pins s1 σ H1 Q I1 q1
theorem RW(ha:PT X a tA):PT X (.UnaryOp .Not a pos) (mO tA):=by
 intro pins s σ H Q I h;exact isTrue_not (ha pins s σ H (fun c H1=>Q (!c) H1) I h)
def qS(ta tb:TE):TE:=fun σ H Q=>ta σ H fun x H1=>∃c,x=.bl c/\if c=true then tb σ H1 Q else Q (.bl false) H1
theorem ux{op}{t:TE}(h:PE X a t):PE X (.BoolOp op [a] pos) t:=fun pins s σ H Q I hw=>BoolOp_one (h pins s σ H Q I hw)
theorem uw(ha:PE X a ta)(O:PE X (.BoolOp .And (b::rest) pos) tb):PE X (.BoolOp .And (a::b::rest) pos) (qS ta tb):=by
 intro pins s σ H Q I h;refine BoolOp_and (Yg (ha pins s σ H _ I h) fun v s1 ⟨x,H1,I1,r1,q1⟩=>?_);obtain⟨c,rfl,q1⟩:=q1;cases r1;refine WJ ?_;cases c with
 |true=>exact O pins s1 σ H1 Q I1 q1
 |false=>exact ⟨.bl false,H1,I1,Y,q1⟩
def gm(t:TT)(ta tb:TE):TE:=fun σ H Q=>t σ H fun c H1=>if c=true then ta σ H1 Q else tb σ H1 Q
theorem Mx{c:Expr}(hc:PT X c tA)(ha:PE X a ta)(O:PE X b tb):PE X (.IfExp c a b pos) (gm tA ta tb):=by
 intro pins s σ H Q I h;refine wpAny_IfExp (Yg (hc pins s σ H _ I h) fun d s1 ⟨H1,I1,q1⟩=>?_);cases d with
 |true=>exact ha pins s1 σ H1 Q I1 q1
 |false=>exact O pins s1 σ H1 Q I1 q1
end
end L2
namespace L2
open PySem PySem.Spec PyProof.Rows
def Zz(K:W.Frag)(H:Hp)(a:Addr)(xs:List V):Prop:=
 Rd H a (.lst xs)\/
  ∃(o:Obj) (Y_:Array Value) (n:Nat),K.lookup a=some o/\o.cls=.type "list"/\o.dict=none/\o.data=.seq Y_ n/\Y_.size<=sizeLine/\Vals xs Y_.toList
def Vj(K:W.Frag)(H:Hp)(a:Addr)(xs:List V):Prop:=
 Rd H a (.tup xs)\/
  ∃(o:Obj) (Y_:Array Value) (n:Nat),K.lookup a=some o/\o.cls=.type "tuple"/\o.data=.seq Y_ n/\Y_.size<=sizeLine/\Vals xs Y_.toList
def mN:Value->Option V
 |.none=>some .Xs
 |.bool b=>some (.bl b)
 |.int i _=>some (.int i)
 |.str x _=>some (.str x)
 |.bytes b _=>some (.Fn b)
 |.float b _=>some (.oE b)
 |.ref a=>some (.ref a)
 |.type n=>some (.ty n)
 |_=>none
theorem RelV.abs{x:V}{u:Value}(r:RelV x u):mN u=some x:=by
 cases x with
 |Xs=>cases r;rfl
 |bl _=>cases r;rfl
 |int _=>obtain ⟨t,rfl⟩:=r;rfl
 |str _=>obtain ⟨t,rfl⟩:=r;rfl
 |Fn _=>obtain ⟨t,rfl⟩:=r;rfl
 |oE _=>obtain ⟨t,rfl⟩:=r;rfl
 |ref _=>cases r;rfl
 |ty _=>cases r;rfl
theorem RelV.inj{x y:V}{u:Value}(r:RelV x u)(q:RelV y u):x=y:=Zb (r.abs.symm.trans q.abs)
theorem Vals.inj:∀{xs ys:List V}{us:List Value},Vals xs us->Vals ys us->xs=ys
 |_,_,_,.nil,.nil=>rfl
 |_,_,_,.cons r t,.cons r' t'=>by rw[r.inj r',Vals.inj t t']
section
variable{X:Cx}{pins:List (Addr×Obj)}{σ:St}{H:Hp}{s:Shared}{a:Addr}{xs ys:List V}
theorem Zz.of{K:W.Frag}(h:H a=some (.lst xs)):Zz K H a xs:=.inl (.inl h)
theorem Vj.of{K:W.Frag}(h:H a=some (.tup xs)):Vj K H a xs:=.inl (.inl h)
theorem Inv.list(I:Inv X pins σ H s)(h:Zz X.K H a xs):∃Y_:List Value,Vals xs Y_/\PlainL s.heap a Y_.toArray/\xs.length<=sizeLine:=by
 rcases h with h|⟨o,Y_,n,hk,hc,hd,hs,hz,r⟩
 ·obtain⟨z,Y_,n,r,e⟩:=h.ok I.Ya;exact⟨Y_,r,⟨_,n,e,Y,Y,Y⟩,z⟩
 ·refine⟨Y_.toList,r,⟨o,n,I.Fm a o hk,hc,hd,by simpa using hs⟩,?_⟩;have e:=r.length;simp only[U_]at e;omega
theorem Inv.tuple(I:Inv X pins σ H s)(h:Vj X.K H a xs):∃Y_:List Value,Vals xs Y_/\IsTup s.heap a Y_.toArray/\xs.length<=sizeLine:=by
 rcases h with h|⟨o,Y_,n,hk,hc,hs,hz,r⟩
 ·obtain⟨z,Y_,r,p⟩:=h.ok I.Ya;exact⟨Y_,r,p,z⟩
 ·refine⟨Y_.toList,r,⟨o,I.Fm a o hk,hc,n,by simpa using hs⟩,?_⟩;have e:=r.length;simp only[U_]at e;omega
theorem Inv.PJ(I:Inv X pins σ H s)(h:Zz X.K H a xs)(h':Zz X.K H a ys):xs=ys:=by
 obtain⟨Y_,r,⟨o,n,e,_,_,d⟩,_⟩:=I.list h;obtain⟨its',r',⟨o',n',e',_,_,d'⟩,_⟩:=I.list h';rw[e]at e';cases e';rw[d]at d';injection d' with d1 _
 have:Y_=its':=by simpa using congrArg Array.toList d1
 subst this;exact r.inj r'
end
abbrev Cx.KO(X:Cx)(E:Value->Shared->Prop):Cx:={X with xe:=E}
abbrev Cx.ox(X:Cx):Cx:=X.KO fun _ _=>False
theorem Cx.Ok.KO{X:Cx}(ok:X.Ok)(E:Value->Shared->Prop):(X.KO E).Ok:=
 ⟨ok.mod,ok.kind,ok.glob,ok.blt,ok.above,ok.inj,ok.has,ok.qX,ok.hd,ok.frames,ok.oB,ok.oA,ok.bs,ok.ym,ok.A8,ok.A7,ok.M9,ok.uA,ok.tree,ok.top⟩
theorem Cx.Ok.RV{X:Cx}{E:Value->Shared->Prop}(ok:(X.KO E).Ok):X.Ok:=
 ⟨ok.mod,ok.kind,ok.glob,ok.blt,ok.above,ok.inj,ok.has,ok.qX,ok.hd,ok.frames,ok.oB,ok.oA,ok.bs,ok.ym,ok.A8,ok.A7,ok.M9,ok.uA,ok.tree,ok.top⟩
section
variable{X:Cx}{pins:List (Addr×Obj)}{σ:St}{H:Hp}{s:Shared}{E:Value->Shared->Prop}
theorem Inv.KO(I:Inv X pins σ H s)(E:Value->Shared->Prop):Inv (X.KO E) pins σ H s:=⟨I.ok.KO E,I.os,I.bare,I.base,I.loc,I.cell,I.free,I.RX,I.pin,I.Ya,I.len⟩
theorem Inv.RV(I:Inv (X.KO E) pins σ H s):Inv X pins σ H s:=⟨I.ok.RV,I.os,I.bare,I.base,I.loc,I.cell,I.free,I.RX,I.pin,I.Ya,I.len⟩
theorem SP.RV{D:Ends}{f:Flow}{s':Shared}(h:SP (X.KO E) pins D f s'):SP X pins D f s':=by
 cases f with
 |next=>obtain ⟨XQ,H',I,q⟩:=h;exact⟨XQ,H',I.RV,q⟩
 |brk=>obtain ⟨XQ,H',I,q⟩:=h;exact⟨XQ,H',I.RV,q⟩
 |cont=>obtain ⟨XQ,H',I,q⟩:=h;exact⟨XQ,H',I.RV,q⟩
 |ret u=>obtain ⟨v,XQ,H',I,r,q⟩:=h;exact⟨v,XQ,H',I.RV,r,q⟩
theorem Ct.ox{st:List Stmt}{t:TS}(h:Ct X.ox st t):Ct X st t:=fun pins s σ H D I hw=>
 X' (h pins s σ H D (I.KO _) hw) (fun _ _ q=>q.RV) fun _ _ z=>False.elim z
end
section
variable{X:Cx}{st:Stmt}{rest:List Stmt}{t u:TS}{e:Expr}{te:TE}{pos:Pos}
def qR:TS:=fun D σ H=>D.nx σ H
def mM(t u:TS):TS:=fun D σ H=>t {D with nx:=u D} σ H
theorem Zv:Ct X [] qR:=fun _ _ σ H _ I h=>wpAny_execs_nil ⟨σ,H,I,h⟩
theorem Z5(J:PS X st t)(h2:Ct X rest u):Ct X (st::rest) (mM t u):=by
 intro pins s σ H D I h;refine wpAny_execs_cons (Yg (J pins s σ H {D with nx:=u D} I h) fun f s1 q=>?_);cases f with
 |next=>
  obtain⟨XQ,H',I',q⟩:=q;exact h2 pins s1 XQ H' D I' q
 |ret v=>exact q
 |brk=>exact q
 |cont=>exact q
theorem Z1(J:PS X st t):Ct X [st] t:=by
 intro pins s σ H D I h;refine wpAny_execs_cons (Yg (J pins s σ H D I h) fun f s1 q=>?_);cases f with
 |next=>exact wpAny_execs_nil q
 |ret v=>exact q
 |brk=>exact q
 |cont=>exact q
def qQ:TS:=fun D σ H=>D.ct σ H
theorem Wj:PS X (.Continue pos) qQ:=fun _ _ σ H _ I h=>wpAny_Continue ⟨σ,H,I,h⟩
theorem Inv.quiet{pins:List (Addr×Obj)}{σ:St}{H:Hp}{s:Shared}(I:Inv X pins σ H s):interactive X.env=false:=by simp[interactive,I.ok.kind]
def qP(te:TE):TS:=fun D σ H=>te σ H fun _ H1=>D.nx σ H1
theorem Xr(he:PE X e te)(hs:swapsWith e none pos.line X.env=pure false:=by rfl):PS X (.Expr e pos) (qP te):=by
 intro pins s σ H D I h;exact wpAny_Expr_any (Yg (he pins s σ H _ I h) fun v s1 ⟨x,H1,I1,r1,q1⟩=>⟨σ,H1,I1,q1⟩) I.quiet hs
def mL(te:TE):TS:=fun D σ H=>te σ H D.rt
theorem ZP(he:PE X e te):PS X (.Return (some e) pos) (mL te):=by
 intro pins s σ H D I h;exact wpAny_Return_some (Yg (he pins s σ H _ I h) fun v s1 ⟨x,H1,I1,r1,q1⟩=>⟨x,σ,H1,I1,r1,q1⟩)
def mK(c:TT)(t u:TS):TS:=fun D σ H=>c σ H fun b H1=>if b=true then t D σ H1 else u D σ H1
theorem YZ{c:Expr}{a b:List Stmt}{tc:TT}(hc:PT X c tc)(ha:Ct X a t)(O:Ct X b u):PS X (.If c a b pos) (mK tc t u):=by
 intro pins s σ H D I h;refine wpAny_If (Yg (hc pins s σ H _ I h) fun d s1 ⟨H1,I1,q1⟩=>?_);cases d with
 |true=>exact ha pins s1 σ H1 D I1 q1
 |false=>exact O pins s1 σ H1 D I1 q1
end
abbrev TG:=V->St->Hp->(St->Hp->Prop)->Prop
abbrev uu:=List V->St->Hp->(St->Hp->Prop)->Prop
def PG(X:Cx)(target:Expr)(t:TG):Prop:=
 ∀(pins:List (Addr×Obj))(s:Shared)(σ:St)(H:Hp)(v:V)(u:Value)(Q:St->Hp->Prop),Inv X pins σ H s->RelV v u->t v σ H Q->
  wpAny (model X.prog X.w) X.A (assign target X.env u) (fun _ s'=>∃XQ H',Inv X pins XQ H' s'/\Q XQ H') X.xe s
def ow(X:Cx)(ts:List Expr)(t:uu):Prop:=
 ∀(pins:List (Addr×Obj))(s:Shared)(σ:St)(H:Hp)(vs:List V)(us:List Value)(Q:St->Hp->Prop),Inv X pins σ H s->Vals vs us->t vs σ H Q->
  wpAny (model X.prog X.w) X.A (assignInOrder ((assignEach ts X.env).map (·.2)) us) (fun _ s'=>∃XQ H',Inv X pins XQ H' s'/\Q XQ H') X.xe s
abbrev A6:=V->V->V->Hp->(Hp->Prop)->Prop
def ur(X:Cx)(t:A6):Prop:=
 ∀(pins:List (Addr×Obj))(s:Shared)(σ:St)(H:Hp)(o i v:V)(ov iv u:Value)(Q:Hp->Prop),Inv X pins σ H s->RelV o ov->RelV i iv->RelV v u->t o i v H Q->
  wpAny (model X.prog X.w) X.A (setItem ov iv u) (fun _ s'=>∃H',Inv X pins σ H' s'/\Q H') X.xe s
abbrev rT:=V->V->Hp->VK->Prop
def ou(X:Cx)(op:Operator)(t:rT):Prop:=
 ∀(pins:List (Addr×Obj))(s:Shared)(σ:St)(H:Hp)(x y:V)(v u:Value)(Q:VK),Inv X pins σ H s->RelV x v->RelV y u->t x y H Q->
  wpAny (model X.prog X.w) X.A (inplaceOp op v u) (EP X pins σ Q) X.xe s
section
variable{X:Cx}{pos:Pos}
def Kc(i:Nat):TG:=fun v σ H Q=>Q (σ.set i (some v)) H
theorem ZD{i:Nat}{x:Str}(hN:X.N.Nodup)(hi:X.N[i]?=some x)(hx:Loc X.env.scope x)(hf:X.fn x=true\/X.env.scope.names.lookup x=some .local:=by first|exact .inl rfl|exact .inr rfl|assumption):PG X (.Name x pos) (Kc i):=by
 intro pins s σ H v u Q I r h;exact wpAny_assign_Name (My I hN hi hx r (fun s' I'=>⟨_,H,I',h⟩) hf)
def qO:uu:=fun vs σ H Q=>vs=[]/\Q σ H
def A5(t:TG)(u:uu):uu:=fun vs σ H Q=>∃v r,vs=v::r/\t v σ H fun XQ H'=>u r XQ H' Q
theorem WX:ow X [] qO:=by
 intro pins s σ H vs us Q I r h;obtain⟨e,h⟩:=h;subst e;cases r;exact assignInOrder_nil ⟨σ,H,I,h⟩
theorem Y0{e:Expr}{es:List Expr}{t:TG}{u:uu}(J:PG X e t)(h2:ow X es u)(hs:(assignEach (e::es) X.env).map (·.2)=assign e X.env::(assignEach es X.env).map (·.2):=by rfl):ow X (e::es) (A5 t u):=by
 intro pins s σ H vs us Q I r h;obtain⟨v,vr,e1,h⟩:=h;subst e1;cases r with
 |cons r rr=>
  rw[hs];refine assignInOrder_cons (Yg (J pins s σ H _ _ _ I r h) fun _ s1 ⟨rS,H1,I1,q1⟩=>?_);exact h2 pins s1 rS H1 _ _ Q I1 rr q1
def qN(K:W.Frag)(n:Nat)(t:uu):TG:=fun v σ H Q=>∃a xs,v=.ref a/\Vj K H a xs/\xs.length=n/\t xs σ H Q
theorem V7{es:List Expr}{k:Nat}{t:uu}{n:Nat}(hc:X.calm=true)(h:ow X es t)(hn:(assignEach es X.env).length=n:=by rfl)(A4:(assignEach es X.env).findIdx? (·.1)=none:=by rfl):PG X (.Tuple es k pos) (qN X.K n t):=by
 intro pins s σ H v u Q I r hw;obtain⟨a,xs,e1,hq,hl,hw⟩:=hw;subst e1;cases r;obtain⟨Y_,rv,ht,hz⟩:=I.tuple hq;refine assign_Tuple_tuple (I.ok.hd hc) ht (by simp[hn,<-hl,rv.length]) A4 fun h' hx=>?_;have I1:Inv X pins σ H {s with heap:=h'}:=I.kept (t':=s.toks) fun b o e=>hx b o (Za (Zr e)) e;exact h pins _ σ H xs _ Q I1 (by simpa using rv) hw
def mJ(to ti:TE)(t:A6):TG:=fun v σ H Q=>to σ H fun o H1=>ti σ H1 fun i H2=>t o i v H2 fun H3=>Q σ H3
theorem Qq{o i:Expr}{to ti:TE}{t:A6}(ho:PE X o to)(hi:PE X i ti)(hs:ur X t)
 (ha:∀v,assign (.Subscript o i pos) X.env v=(do
  let ov<-holding [v] (eval o X.env)
  let iv<-holding [v,ov] (eval i X.env)
  standAt pos
  holding [v,ov,iv] (setItem ov iv v)
  release [v,ov,iv] []):=by intro _;rfl):PG X (.Subscript o i pos) (mJ to ti t):=by
 intro pins s σ H v u Q I r h;rw[ha];refine ZV (VQ (Yg (ho pins s σ H _ I h) fun ov s1 ⟨x,H1,I1,r1,q1⟩=>?_));refine ZV (VQ (Yg (hi pins s1 σ H1 _ I1 q1) fun iv s2 ⟨y,H2,I2,r2,q2⟩=>?_));refine ZV (wpAny_standAt (ZV (VQ (Yg (hs pins s2 σ H2 x y v ov iv u _ I2 r1 r2 r q2) fun _ s3 ⟨H3,I3,q3⟩=>?_))));exact wpAny_release ⟨σ,H3,I3,q3⟩
def uq(te:TE)(g:TG):TS:=fun D σ H=>te σ H fun x H1=>g x σ H1 D.nx
theorem Qp{tg e:Expr}{te:TE}{g:TG}(he:PE X e te)(hg:PG X tg g)(hs:swapsWithSole [tg] e pos.line X.env=pure false:=by rfl)(hw:swappedStores [tg] e X.env=pure none:=by rfl)(J:(assignEach [tg] X.env).map (·.2)=[assign tg X.env]:=by rfl):PS X (.Assign [tg] e pos) (uq te g):=by
 intro pins s σ H D I h;refine wpAny_Assign_stores (Yg (he pins s σ H _ I h) fun v s1 ⟨x,H1,I1,r1,q1⟩=>?_) hs hw;rw[J];exact Yg (hg pins s1 σ H1 x v _ I1 r1 q1) fun _ s2 q=>q
theorem ZT{i:Nat}{x:Str}{e:Expr}{te:TE}{pos':Pos}(hN:X.N.Nodup)(hi:X.N[i]?=some x)(hx:Loc X.env.scope x)(he:PE X e te)(hs:swapsWith e (some (.Name x pos')) pos.line X.env=pure false:=by rfl)(hf:X.fn x=true\/X.env.scope.names.lookup x=some .local:=by first|exact .inl rfl|exact .inr rfl|assumption):PS X (.Assign [.Name x pos'] e pos) (uq te (Kc i)):=by
 intro pins s σ H D I h;refine wpAny_Assign_Name (Yg (he pins s σ H _ I h) fun v s1 ⟨y,H1,I1,r1,q1⟩=>?_) hs;exact My I1 hN hi hx r1 (fun s2 I2=>⟨_,H1,I2,q1⟩) hf
def mI(i:Nat)(te:TE)(ti:rT):TS:=fun D σ H=>∃x,σ[i]?=some (some x)/\te σ H fun y H1=>ti x y H1 fun z H2=>D.nx (σ.set i (some z)) H2
theorem uo{i:Nat}{x:Str}{e:Expr}{te:TE}{op:Operator}{ti:rT}{pos':Pos}(hN:X.N.Nodup)(hi:X.N[i]?=some x)(hx:Loc X.env.scope x)(he:PE X e te)(ho:ou X op ti)(hf:X.fn x=true\/X.env.scope.names.lookup x=some .local:=by first|exact .inl rfl|exact .inr rfl|assumption):PS X (.AugAssign (.Name x pos') op e pos) (mI i te ti):=by
 intro pins s σ H D I h;obtain⟨v,e1,h⟩:=h;obtain⟨m,hn,hl⟩:=I.loc;have gk:rV X.env.scope x:=by rcases hx with k|k;exact .inl k;exact .inr (.inl k)
 obtain⟨u,r,l⟩:=hl i x v hi e1 gk;refine wpAny_AugAssign_Name ?_;have go:wpAny (model X.prog X.w) X.A (eval e X.env) (fun w Qs=>wpAny (model X.prog X.w) X.A (inplaceOp op u w) (fun r Hr=>wpAny (model X.prog X.w) X.A (storeName X.env x r) (fun _=>SP X pins D .next) X.xe Hr) X.xe Qs) X.xe s:=by
  refine Yg (he pins s σ H _ I h) fun w s1 ⟨y,H1,I1,r1,q1⟩=>?_;refine Yg (ho pins s1 σ H1 v y u w _ I1 r r1 q1) fun z s2 ⟨zv,H2,I2,r2,q2⟩=>?_;exact My I2 hN hi hx r2 (fun s3 I3=>⟨_,H2,I3,q2⟩) hf
 rcases l with⟨hk,hm⟩|⟨hk,c,hc,DP⟩;·exact wpAny_loadName_local I.ok.kind hk hn hm go
 ·rcases hk with hk|hk;·exact wpAny_loadName_cell I.ok.kind hk hc DP go
  ·rcases hx with k|k
   ·have:X.env.scope.names.lookup x=some .free:=hk;rw[k]at this;cases this
   ·have:X.env.scope.names.lookup x=some .free:=hk;rw[k]at this;cases this
def qM(to ti te:TE)(xW:V->V->Hp->VK->Prop)(ot:rT)(xV:A6):TS:=fun D σ H=>to σ H fun o H1=>ti σ H1 fun i H2=>xW o i H2 fun x H3=>te σ H3 fun y H4=>ot x y H4 fun z H5=>xV o i z H5 fun H6=>D.nx σ H6
def qL(X:Cx)(t:V->V->Hp->VK->Prop):Prop:=
 ∀(pins:List (Addr×Obj))(s:Shared)(σ:St)(H:Hp)(o i:V)(ov iv:Value)(Q:VK),Inv X pins σ H s->RelV o ov->RelV i iv->t o i H Q->
  wpAny (model X.prog X.w) X.A (getItem ov iv) (EP X pins σ Q) X.xe s
theorem S5{o i e:Expr}{to ti te:TE}{xW:V->V->Hp->VK->Prop}{ot:rT}{xV:A6}{op:Operator}{Mw:Pos}(ho:PE X o to)(hi:PE X i ti)(hg:qL X xW)(he:PE X e te)(hp:ou X op ot)(hs:ur X xV)
 (ha:∀ov iv new,augStore i ov iv new=(do holding [new,ov,iv] (setItem ov iv new);release [new,ov,iv] [];pure .next):=by intros;rfl):PS X (.AugAssign (.Subscript o i Mw) op e pos) (qM to ti te xW ot xV):=by
 intro pins s σ H D I h;refine wpAny_AugAssign_SubscriptAny (Yg (ho pins s σ H _ I h) fun ov s1 ⟨x1,H1,I1,r1,q1⟩=>?_) ha;refine Yg (hi pins s1 σ H1 _ I1 q1) fun iv s2 ⟨x2,H2,I2,r2,q2⟩=>?_;refine Yg (hg pins s2 σ H2 x1 x2 ov iv _ I2 r1 r2 q2) fun old s3 ⟨x3,H3,I3,r3,q3⟩=>?_;refine Yg (he pins s3 σ H3 _ I3 q3) fun v s4 ⟨x4,H4,I4,r4,q4⟩=>?_;refine Yg (hp pins s4 σ H4 x3 x4 old v _ I4 r3 r4 q4) fun new s5 ⟨x5,H5,I5,r5,q5⟩=>?_;exact Yg (hs pins s5 σ H5 x1 x2 x5 ov iv new _ I5 r1 r2 r5 q5) fun _ s6 ⟨H6,I6,q6⟩=>⟨σ,H6,I6,q6⟩
def jg(f:Int->Int->Int):rT:=fun x y H Q=>∃i j,x=.int i/\y=.int j/\Q (.int (f i j)) H
theorem Mv:ou X .Add (jg fun i j=>i+j):=by
 intro pins s σ H x y v u Q I r1 r2 h;obtain⟨i,j,e1,e2,q⟩:=h;subst e1;subst e2;obtain⟨t,rfl⟩:=r1;obtain⟨t',rfl⟩:=r2;exact iadd_int ⟨.int _,H,I.tok _,⟨_,Y⟩,q⟩
theorem Ff:ou X .Sub (jg fun i j=>i-j):=by
 intro pins s σ H x y v u Q I r1 r2 h;obtain⟨i,j,e1,e2,q⟩:=h;subst e1;subst e2;obtain⟨t,rfl⟩:=r1;obtain⟨t',rfl⟩:=r2;exact isub_int ⟨.int _,H,I.tok _,⟨_,Y⟩,q⟩
end
section
variable{X:Cx}{pos:Pos}
def um(c:TT)(tb:TS):TS:=fun D σ H=>∃W:Nat->St->Hp->Prop,(∃m,W m σ H)/\∀m σ H,W m σ H->
 c σ H fun b H1=>if b=true then∃N:St->Hp->Prop,(∀XQ H',N XQ H'->∃m',m'<m/\W m' XQ H')/\tb {D with nx:=N,ct:=N,bk:=D.nx} σ H1 else D.nx σ H1
theorem Vr{c:Expr}{body:List Stmt}{tc:TT}{tb:TS}(hp:PassesOwn (model X.prog X.w) X.A X.env X.xe)(hc:PT X c tc)(O:Ct X body tb):PS X (.While c body [] pos) (um tc tb):=by
 intro pins s σ H D I h;obtain⟨W,⟨m0,w0⟩,turn⟩:=h;refine wpAny_While (codeAny_whileLoop (fun n s'=>∃XQ H',Inv X pins XQ H' s'/\W n XQ H') ?_ m0 ⟨σ,H,I,w0⟩);rintro n s1 ⟨rS,H1,I1,w1⟩;refine VP hp (Yg (hc pins s1 rS H1 _ I1 (turn n rS H1 w1)) fun b s2 ⟨H2,I2,q2⟩=>?_);cases b with
 |true=>
  obtain⟨N,hN,q2⟩:=q2;rw[Z7 rfl];refine VP hp (Yg (O pins s2 rS H2 _ I2 q2) fun f s3 q3=>?_);cases f with
  |next=>
   obtain⟨A3,H3,I3,n3⟩:=q3;obtain⟨m',hm,w3⟩:=hN A3 H3 n3;exact⟨m',hm,A3,H3,I3,w3⟩
  |cont=>
   obtain⟨A3,H3,I3,n3⟩:=q3;obtain⟨m',hm,w3⟩:=hN A3 H3 n3;exact⟨m',hm,A3,H3,I3,w3⟩
  |brk=>exact q3
  |ret v=>exact q3
 |false=>
  rw[Z8 Yz];exact wpAny_execs_nil ⟨rS,H2,I2,q2⟩
end
structure It where
 go:Nat->Hp->Prop
 Hq:Nat->Hp->V->Hp->Prop
 stop:Nat->Hp->Prop
def M8(X:Cx)(pins:List (Addr×Obj))(H:Hp)(b:Addr):Prop:=
 H b=none/\b≠X.env.locals/\b∉X.fs/\(b∈X.ex\/X.Kg.heap.objs.size<=b)/\(∀x c,X.env.cells.lookup x=some c->c≠b)/\∀p∈X.pn++pins,p.1≠b
theorem Inv.A2{X:Cx}{pins:List (Addr×Obj)}{σ:St}{H H':Hp}{s:Shared}{b:Addr}(I:Inv X pins σ H s)(O:s.heap.objs.size<=b)(hn:H' b=none):M8 X pins H' b:=by
 refine⟨hn,Nat.ne_of_gt (Zo I.lt O),I.mY O,.inr (ZE I.sz O),fun x c e z=>?_,fun p hp z=>?_⟩
 ·obtain⟨v,q⟩:=I.cell x c e;exact absurd (Zo q.lt (by rw[z];exact O)) (Wu _)
 ·exact absurd (Zo (Zr (I.pin p hp).1) (by rw[z];exact O)) (Wu _)
structure Turn(P:Program)(w:World)(K:W.Frag)(tg:Expr)(Z_:It)(fp:List Addr)(it:Addr)(tn:Nat->Heap->Prop):Prop where
 mem:it∈fp
 obj:∀i h,tn i h->∀b∈fp,∃o,h.get? b=some o/\∀v,o.data≠.cell v
 keep:∀i h h',tn i h->(∀b∈fp,∀o,h.get? b=some o->h'.get? b=some o)->tn i h'
 item:∀(X:Cx),X.prog=P->X.w=w->X.K=K->X.calm=true->∀(i:Nat)(pins:List (Addr×Obj))(s:Shared)(σ:St)(H:Hp)(E:Value->Shared->Prop),Inv X pins σ H s->(∀b∈fp,M8 X pins H b)->tn i s.heap->Z_.go i H->
  wpAny (model P w) X.A (pyNext (.ref it)) (fun r s1=>∃u,r=some u/\
   wpAny (model P w) X.A (letOwnedTupleGo tg (.ref it) u) (fun _ s2=>∃x H',Inv X pins σ H' s2/\RelV x u/\Z_.Hq i H x H'/\tn (i+1) s2.heap/\∀b∈fp,H' b=none) E s1) E s
 done:∀(X:Cx),X.prog=P->X.w=w->X.K=K->X.calm=true->∀(i:Nat)(pins:List (Addr×Obj))(s:Shared)(σ:St)(H:Hp)(E:Value->Shared->Prop),Inv X pins σ H s->(∀b∈fp,M8 X pins H b)->tn i s.heap->Z_.stop i H->
  wpAny (model P w) X.A (pyNext (.ref it)) (fun r s1=>r=none/\Inv X pins σ H s1) E s
 self:∀(A:Around)(i:Nat)(s:Shared)(Q:Value->Shared->Prop)(E:Value->Shared->Prop),tn i s.heap->Q (.ref it) s->wpAny (model P w) A (pyIter (.ref it)) Q E s
abbrev TI:=St->Hp->(It->Hp->Prop)->Prop
def jf(X:Cx)(pins:List (Addr×Obj))(σ:St)(tg:Expr)(R:It->Hp->Prop)(mH:Value)(s2:Shared):Prop:=
 ∃(it:Addr) (fp:List Addr) (tn:Nat->Heap->Prop) (Z_:It) (H':Hp),mH=.ref it/\Inv X pins σ H' s2/\Turn X.prog X.w X.K tg Z_ fp it tn/\tn 0 s2.heap/\(∀b∈fp,M8 X pins H' b)/\R Z_ H'
def PI(X:Cx)(tg iter:Expr)(wi:TI):Prop:=
 ∀(pins:List (Addr×Obj))(s:Shared)(σ:St)(H:Hp)(R:It->Hp->Prop),Inv X pins σ H s->wi σ H R->
  wpAny (model X.prog X.w) X.A (eval iter X.env) (fun v s1=>wpAny (model X.prog X.w) X.A (pyIter v) (jf X pins σ tg R) X.xe s1) X.xe s
theorem vz {M : Model} {A : Around} {E : Value -> Shared -> Prop} {s : Shared} {tg : Expr} {it : Addr} {u : Value} {o : Obj} {n : String} {vs : Array Value} {Q : Unit -> Shared -> Prop} (ho : s.heap.get? it = some o) (hc : o.cls = .type n) (hd : o.data = .fields vs)
    (hn : ["enumerate", "zip", "dict_itemiterator", "dict_reverseitemiterator", "odict_iterator", "itertools.zip_longest", "itertools.pairwise"].contains n = false) (hQ : Q () s) : wpAny M A (letOwnedTupleGo tg (.ref it) u) Q E s := by
  unfold letOwnedTupleGo
  cases tg <;> first
    | exact Zt hQ
    | (cases u <;> first
        | exact Zt hQ
        | (refine ZV (wpAny_load ho ?_)
           rw [hc, hd]
           show wpAny M A (if (["enumerate", "zip", "dict_itemiterator", "dict_reverseitemiterator", "odict_iterator", "itertools.zip_longest", "itertools.pairwise"].contains n && vs[0]? == some (rawInt _)) = true then _ else _) Q E s
           rw [Z8 (by intro h; rw [hn, Bool.false_and] at h; cases h)]
           exact Zt hQ))
def vy(K:W.Frag)(a:Addr):It:=
 ⟨fun i H=>∃xs x,Zz K H a xs/\xs[i]?=some x,fun i H x H'=>H'=H/\∀xs,Zz K H a xs->xs[i]?=some x,fun i H=>∃xs,Zz K H a xs/\xs.length<=i⟩
def Fe(lo:Int)(n:Nat):It:=⟨fun i _=>i<n,fun i H x H'=>H'=H/\x=.int (lo+i),fun i _=>n<=i⟩
theorem Cs{P:Program}{w:World}{K:W.Frag}{tg:Expr}(a it:Addr):Turn P w K tg (vy K a) [it] it (fun i h=>h.IsListIter it a i)where
 mem:=by simp
 obj:=fun i h st b O=>by
  have e:b=it:=by simpa using O
  subst e;obtain⟨o,e,c,d⟩:=st;exact⟨o,e,fun v z=>by rw[d]at z;cases z⟩
 keep:=fun i h h' st k=>st.at fun o e=>k it (by simp) o e
 item:=by
  intro X hP hw hK hc i pins s σ H E I hf st hg;subst hP hw hK;obtain⟨xs,x,hq,hx⟩:=hg;obtain⟨Y_,rv,p,hz⟩:=I.list hq;obtain⟨u,hu,ru⟩:=rv.get hx;obtain⟨f0,f1,f2,f3,f4,f5⟩:=hf it (by simp);refine wpAny_pyNext_list_item st p.isList (x:=u) (by simpa using hu) fun h' Bf sb=>?_;have I1:Inv X pins σ H {s with heap:=h'}:=I.turned (t':=s.toks) (fun b o O e=>(sb.2 b O).trans e) f0 f1 f3 f4 f5;obtain⟨o,e,c,d⟩:=id Bf;exact⟨u,Y,vz (s:={s with heap:=h'}) e c d (by decide) ⟨x,H,I1,ru,⟨Y,fun ys hy=>by rw[I.PJ hy hq];exact hx⟩,Bf,fun b O=>(hf b O).1⟩⟩
 done:=by
  intro X hP hw hK hc i pins s σ H E I hf st hg;subst hP hw hK;obtain⟨xs,hq,hx⟩:=hg;obtain⟨Y_,rv,p,hz⟩:=I.list hq;obtain⟨f0,f1,f2,f3,f4,f5⟩:=hf it (by simp);have hl:=rv.length;exact wpAny_pyNext_list_end (I.ok.hd hc) st p.isList (by simp;omega) fun h' eb=>⟨Y,I.turned (t':=s.toks) (fun b o O e=>eb b o O e) f0 f1 f3 f4 f5⟩
 self:=fun _ _ _ _ _ st h=>wpAny_pyIter_listiter st h
theorem Fd{P:Program}{w:World}{K:PySem.W.Frag}{tg:Expr}(it:Addr)(lo:Int)(n:Nat):Turn P w K tg (Fe lo n) [it] it (fun i h=>IsRangeIter h it (lo+(i:Nat)*1) ((n:Int)-(i:Nat)) 1)where
 mem:=by simp
 obj:=fun i h st b O=>by
  have e:b=it:=by simpa using O
  subst e;exact⟨_,st,fun v z=>by
   have z':Data.fields _=Data.cell v:=z;cases z'⟩
 keep:=fun i h h' st k=>k it (by simp) _ st
 item:=by
  intro X hP hw hK hc i pins s σ H E I hf st hg;subst hP hw hK;obtain⟨f0,f1,f2,f3,f4,f5⟩:=hf it (by simp);have W:=Walks.range (prog:=X.prog) (w:=X.w) (I.ok.hd hc) it lo 1 n;refine W.item i s _ _ hg st fun v h' tk hv Bf kk=>?_;obtain⟨t,rfl⟩:=hv;have I1:Inv X pins σ H {s with heap:=h',toks:=tk}:=I.turned (fun b o O e=>kk b o (by simpa using O) e) f0 f1 f3 f4 f5;refine⟨_,Y,vz (s:={s with heap:=h',toks:=tk}) (n:="range_iterator") Bf Y rfl (by decide) ⟨.int (lo+i),H,I1,⟨t,?_⟩,⟨Y,Y⟩,Bf,fun b O=>(hf b O).1⟩⟩;rw[Int.mul_one]
 done:=by
  intro X hP hw hK hc i pins s σ H E I hf st hg;subst hP hw hK;obtain⟨f0,f1,f2,f3,f4,f5⟩:=hf it (by simp);exact wpAny_pyNext_range_end (I.ok.hd hc) st (by have:n<=i:=hg;omega) fun h' eb=>⟨Y,I.turned (t':=s.toks) (fun b o O e=>eb b o O e) f0 f1 f3 f4 f5⟩
 self:=fun _ _ _ _ _ st h=>wpAny_pyIter_rangeiter st h
end L2
namespace L2
open PySem PySem.Spec PyProof.Rows
section
variable{X:Cx}{tg:Expr}
def qK(K:W.Frag)(tl:TE):TI:=fun σ H R=>tl σ H fun x H1=>∃a,x=.ref a/\(∃xs,Zz K H1 a xs)/\R (vy K a) H1
theorem Yy{l:Expr}{tl:TE}(hl:PE X l tl):PI X tg l (qK X.K tl):=by
 intro pins s σ H R I h;refine Yg (hl pins s σ H _ I h) fun v s1 ⟨x,H1,I1,r1,q1⟩=>?_;obtain⟨a,e,⟨xs,hq⟩,q⟩:=q1;subst e;cases r1;obtain⟨Y_,rv,p,hz⟩:=I1.list hq;refine wpAny_pyIter_list p.isList ?_;refine⟨s1.heap.objs.size,[s1.heap.objs.size],_,_,H1,Y,I1.kept (t':=s1.toks) fun b o e=>YF _ e,Cs a _,⟨_,Xn _ rfl,Y,Y⟩,fun b O=>?_,q⟩;have e:b=s1.heap.objs.size:=by simpa using O
 subst e;exact I1.A2 (ZM _) (I1.Ya.fresh (ZM _))
theorem A0{pins:List (Addr×Obj)}{σ:St}{H:Hp}{s:Shared}{R:It->Hp->Prop}{E:Value->Shared->Prop}{lo hi:Int}{t u v:Tok}{tk:Nat}(I:Inv X pins σ H s)(J:-(2^62)<=lo)(h2:lo<2^62)(h3:-(2^62)<=hi)(h4:hi<2^62)(q:R (Fe lo (hi-lo).toNat) H):wpAny (model X.prog X.w) X.A (pyIter (.ref s.heap.objs.size)) (jf X pins σ tg R) E {s with heap:=s.heap.push {cls:=.type "range",data:=.fields #[.int lo t,.int hi u,.int 1 v]},toks:=tk}:=by
 refine wpAny_pyIter_range (IsRange.new ..) (small_one J h2 h3 h4) ?_;have I1:Inv X pins σ H {s with heap:=s.heap.push {cls:=.type "range",data:=.fields #[.int lo t,.int hi u,.int 1 v]},toks:=tk}:=I.kept fun b o e=>YF _ e;refine⟨(s.heap.push {cls:=.type "range",data:=.fields #[.int lo t,.int hi u,.int 1 v]}).objs.size,[(s.heap.push {cls:=.type "range",data:=.fields #[.int lo t,.int hi u,.int 1 v]}).objs.size],_,_,H,Y,
  I1.kept (t':=tk) fun b o e=>YF _ e,Fd _ lo (hi-lo).toNat,?_,fun b O=>?_,q⟩
 ·have e1:lo+((0:Nat):Int)*1=lo:=by simp
  have e2:(((hi-lo).toNat:Nat):Int)-((0:Nat):Int)=Builtin.Range.rangeSize lo hi 1:=by rw[rangeSize_one];split<;>omega
  show IsRangeIter _ _ (lo+((0:Nat):Int)*1) ((((hi-lo).toNat:Nat):Int)-((0:Nat):Int)) 1;rw[e1,e2];exact Xn _ rfl
 ·have e:b=(s.heap.push {cls:=.type "range",data:=.fields #[.int lo t,.int hi u,.int 1 v]}).objs.size:=by simpa using O
  subst e;exact I1.A2 (ZM _) (I1.Ya.fresh (ZM _))
def qJ(ta:TA):TI:=fun σ H R=>ta σ H fun vs H1=>∃j:Int,vs=[.int j]/\-(2^62)<=j/\j<2^62/\R (Fe 0 j.toNat) H1
theorem Wi{a:Expr}{ta:TA}{p pos:Pos}(hg:Gl X "range")(hm:X.mg "range"=none)(ha:PA X [a] ta)(hs:starEach [a] X.env=[(false,eval a X.env)]:=by rfl):PI X tg (.Call (.Name "range" p) [a] [] pos) (qJ ta):=by
 intro pins s σ H R I h;refine Call_ (OB I hg hm boot_range (PL (Yg (ha pos pins s σ H _ I h) fun us s1 ⟨vs,H1,I1,r1,q1⟩=>?_) hs Y));obtain⟨j,e,q1,q2,q⟩:=q1;subst e;cases r1 with
 |cons r rr=>
  cases rr;obtain⟨t,rfl⟩:=r;exact call_range_1 (A0 I1 (by omega) (by omega) q1 q2 (by simpa using q))
def mG(wi:TI)(g:TG)(tb:TS):TS:=fun D σ H=>wi σ H fun Z_ H1=>∃W:Nat->Nat->St->Hp->Prop,(∃m,W 0 m σ H1)/\∀i m σ H,W i m σ H->
 (Z_.stop i H/\D.nx σ H)\/(Z_.go i H/\∃N:St->Hp->Prop,(∀XQ H',N XQ H'->∃m',m'<m/\W (i+1) m' XQ H')/\∀x H',Z_.Hq i H x H'->g x σ H' fun Wt H2=>tb {D with nx:=N,ct:=N,bk:=D.nx} Wt H2)
def Mu(fp:List Addr)(h:Heap):List (Addr×Obj):=fp.filterMap fun b=>(h.get? b).map fun o=>(b,o)
theorem Qo{fp:List Addr}{h:Heap}{b:Addr}{o:Obj}(O:b∈fp)(e:h.get? b=some o):(b,o)∈Mu fp h:=List.mem_filterMap.mpr ⟨b,O,by rw[e];rfl⟩
theorem Cr{fp:List Addr}{h:Heap}{p:Addr×Obj}(hp:p∈Mu fp h):p.1∈fp/\h.get? p.1=some p.2:=by
 obtain⟨b,O,e⟩:=List.mem_filterMap.mp hp;cases q:h.get? b with
 |none=>rw [q]at e;cases e
 |some o=>
  rw[q]at e;have e':(b,o)=p:=Zb e;subst e';exact⟨O,q⟩
theorem Inv.pinned{pins:List (Addr×Obj)}{σ:St}{H:Hp}{s:Shared}{fp:List Addr}(I:Inv X pins σ H s)(hf:∀b∈fp,M8 X pins H b)(ho:∀b∈fp,∃o,s.heap.get? b=some o/\∀v,o.data≠.cell v):Inv X (pins++Mu fp s.heap) σ H s:=
 I.DQ fun p hp=>(Zm.mp hp).elim (fun z=>I.pin p (XD _ z)) fun z=>by
  obtain⟨O,e⟩:=Cr z;obtain⟨f0,f1,f2,_⟩:=hf p.1 O;obtain⟨o,e',d⟩:=ho p.1 O;rw[e]at e';cases e';exact⟨e,f0,f1,f2,d⟩
theorem Inv.PH{pins pl:List (Addr×Obj)}{σ:St}{H:Hp}{s:Shared}(I:Inv X (pins++pl) σ H s):Inv X pins σ H s:=I.DQ fun p hp=>I.pin p (XD _ (Yu _ hp))
theorem YC{iter:Expr}{body:List Stmt}{wi:TI}{g:TG}{tb:TS}{pos:Pos}(hp:PassesOwn (model X.prog X.w) X.A X.env X.xe)(hc:X.calm=true)(hi:PI X tg iter wi)(hg:PG X tg g)(O:Ct X body tb)(hs:∀x,foldedSetIterable iter X.env x=pure x:=by intro _;rfl):PS X (.For tg iter body [] pos) (mG wi g tb):=by
 intro pins s σ H D I h;refine wpAny_For (Yg (hi pins s σ H _ I h) fun v s1 J=>Yg J fun mH s2 h2=>?_) hs;obtain⟨it,fp,tn,Z_,H2,e,I2,T,oq,f2,W,⟨m0,w0⟩,turn⟩:=h2;subst e;have Fc:∀{H':Hp},(∀b∈fp,H' b=none)->∀b∈fp,M8 X pins H' b:=fun hn b O=>⟨hn b O,(f2 b O).2⟩;refine codeAny_forLoop_any (fun n s'=>∃i XQ H',Inv X pins XQ H' s'/\tn i s'.heap/\(∀b∈fp,H' b=none)/\W i n XQ H') ?_ m0 ⟨0,σ,H2,I2,oq,fun b O=>(f2 b O).1,w0⟩;rintro n s3 ⟨i,A3,H3,I3,uk,qI,w3⟩;rcases turn i n A3 H3 w3 with⟨stop,qn⟩|⟨go,N,hN,step⟩
 ·refine VP hp (Yg (T.done X Y rfl rfl hc i pins s3 A3 H3 X.xe I3 (Fc qI) uk stop) fun r s4 ⟨hr,I4⟩=>?_);subst hr;exact wpAny_execs_nil ⟨A3,H3,I4,qn⟩
 ·refine VP hp (Yg (T.item X Y rfl rfl hc i pins s3 A3 H3 X.xe I3 (Fc qI) uk go) fun r s4 ⟨u,hr,h4⟩=>?_);subst hr;refine VP hp (Yg h4 fun _ s5 ⟨x,H5,I5,r5,y5,yj,gj⟩=>?_);have gi:=I5.pinned (Fc gj) (T.obj _ _ yj);refine VP hp (Yg (hg _ s5 A3 H5 x u _ gi r5 (step x H5 y5)) fun _ s6 ⟨gh,H6,I6,q6⟩=>?_);refine VP hp (Yg (O _ s6 gh H6 _ I6 q6) fun f s7 q7=>?_);have again:∀{AZ:St}{H7:Hp},Inv X (pins++Mu fp s5.heap) AZ H7 s7->N AZ H7->∃m,m<n/\∃i XQ H',Inv X pins XQ H' s7/\tn i s7.heap/\(∀b∈fp,H' b=none)/\W i m XQ H':=fun{AZ H7} I7 n7=>by
   obtain⟨m',hm,w7⟩:=hN AZ H7 n7;refine⟨m',hm,i+1,AZ,H7,I7.PH,T.keep _ _ _ yj fun b O o e=>(I7.pin (b,o) (XD _ (XD _ (Qo O e)))).1,fun b O=>?_,w7⟩;obtain⟨o,e,d⟩:=T.obj _ _ yj b O;exact(I7.pin (b,o) (XD _ (XD _ (Qo O e)))).2.1
  cases f with
  |next=>obtain ⟨AZ,H7,I7,n7⟩:=q7;exact again I7 n7
  |cont=>obtain ⟨AZ,H7,I7,n7⟩:=q7;exact again I7 n7
  |brk=>obtain ⟨AZ,H7,I7,q7⟩:=q7;exact⟨AZ,H7,I7.PH,q7⟩
  |ret v=>obtain ⟨x7,AZ,H7,I7,r7,q7⟩:=q7;exact⟨x7,AZ,H7,I7.PH,r7,q7⟩
end
theorem XA{K:PySem.W.Frag}{a:Addr}{xs:List V}{g:TG}{tb:TS}{D:Ends}{σ:St}{H:Hp}(Pv:Nat->St->Hp->Prop)(h0:Pv 0 σ H)(hl:∀i σ H,i<=xs.length->Pv i σ H->Zz K H a xs)(hs:∀i x σ H,xs[i]?=some x->Pv i σ H->g x σ H fun Wt H2=>tb {D with nx:=Pv (i+1),ct:=Pv (i+1),bk:=D.nx} Wt H2)(hd:∀σ H,Pv xs.length σ H->D.nx σ H):∃W:Nat->Nat->St->Hp->Prop,(∃m,W 0 m σ H)/\∀i m σ H,W i m σ H->((vy K a).stop i H/\D.nx σ H)\/((vy K a).go i H/\∃N:St->Hp->Prop,(∀XQ H',N XQ H'->∃m',m'<m/\W (i+1) m' XQ H')/\∀x H',(vy K a).Hq i H x H'->g x σ H' fun Wt H2=>tb {D with nx:=N,ct:=N,bk:=D.nx} Wt H2):=by
 refine⟨fun i m σ H=>m=xs.length-i/\i<=xs.length/\Pv i σ H,⟨xs.length,by simp,Zw _,h0⟩,?_⟩;rintro i m σ H ⟨rfl,hi,p⟩;have q:=hl i σ H hi p;by_cases Xd:i<xs.length
 ·refine .inr ⟨⟨xs,xs[i],q,by simp[Xd]⟩,Pv (i+1),fun XQ H' p'=>⟨xs.length-(i+1),by omega,Y,Xd,p'⟩,fun x H' y=>?_⟩;obtain⟨e,y⟩:=y;subst e;exact hs i x σ _ (y xs q) p
 ·have e:i=xs.length:=by omega
  subst e;exact .inl ⟨⟨xs,q,ZM _⟩,hd σ H p⟩
theorem Cq{lo:Int}{n:Nat}{g:TG}{tb:TS}{D:Ends}{σ:St}{H:Hp}(Pv:Nat->St->Hp->Prop)(h0:Pv 0 σ H)(hs:∀i σ H,i<n->Pv i σ H->g (.int (lo+i)) σ H fun Wt H2=>tb {D with nx:=Pv (i+1),ct:=Pv (i+1),bk:=D.nx} Wt H2)(hd:∀σ H,Pv n σ H->D.nx σ H):∃W:Nat->Nat->St->Hp->Prop,(∃m,W 0 m σ H)/\∀i m σ H,W i m σ H->((Fe lo n).stop i H/\D.nx σ H)\/((Fe lo n).go i H/\∃N:St->Hp->Prop,(∀XQ H',N XQ H'->∃m',m'<m/\W (i+1) m' XQ H')/\∀x H',(Fe lo n).Hq i H x H'->g x σ H' fun Wt H2=>tb {D with nx:=N,ct:=N,bk:=D.nx} Wt H2):=by
 refine⟨fun i m σ H=>m=n-i/\i<=n/\Pv i σ H,⟨n,by simp,Zw _,h0⟩,?_⟩;rintro i m σ H ⟨rfl,hi,p⟩;by_cases Xd:i<n
 ·refine .inr ⟨Xd,Pv (i+1),fun XQ H' p'=>⟨n-(i+1),by omega,Y,Xd,p'⟩,fun x H' y=>?_⟩;obtain⟨e,y⟩:=y;subst e y;exact hs i σ _ Xd p
 ·have e:i=n:=by omega
  subst e;exact .inl ⟨ZM _,hd σ H p⟩
end L2
namespace L2
open PySem PySem.Spec PyProof.Rows
abbrev R2:=V->V->Hp->VK->Prop
def PF(X:Cx)(f:Value->Value->Sem Value)(r:R2):Prop:=
 ∀(pins:List (Addr×Obj))(s:Shared)(σ:St)(H:Hp)(x y:V)(v u:Value)(Q:VK),Inv X pins σ H s->RelV x v->RelV y u->r x y H Q->
  wpAny (model X.prog X.w) X.A (f v u) (EP X pins σ Q) X.xe s
def mF(X:Cx)(f:Value->Sem Value)(r:V->Hp->VK->Prop):Prop:=
 ∀(pins:List (Addr×Obj))(s:Shared)(σ:St)(H:Hp)(x:V)(v:Value)(Q:VK),Inv X pins σ H s->RelV x v->r x H Q->
  wpAny (model X.prog X.w) X.A (f v) (EP X pins σ Q) X.xe s
def N4(X:Cx)(f:Value)(r:List V->Hp->VK->Prop):Prop:=
 ∀(pins:List (Addr×Obj))(s:Shared)(σ:St)(H:Hp)(xs:List V)(us:List Value)(Q:VK),Inv X pins σ H s->Vals xs us->r xs H Q->
  wpAny (model X.prog X.w) X.A (call f us) (EP X pins σ Q) X.xe s
def oo(r:R2)(ta tb:TE):TE:=fun σ H Q=>ta σ H fun x H1=>tb σ H1 fun y H2=>r x y H2 Q
def gf(r:V->Hp->VK->Prop)(ta:TE):TE:=fun σ H Q=>ta σ H fun x H1=>r x H1 Q
def rI(C:Int->Int->Prop)(g:Int->Int->V):R2:=fun x y H Q=>∃i j,x=.int i/\y=.int j/\C i j/\Q (g i j) H
def vx(g:Int->Int->V):R2:=fun x y H Q=>∃i j,x=.int i/\y=.int j/\Q (g i j) H
def rU(g:Int->V):V->Hp->VK->Prop:=fun x H Q=>∃i,x=.int i/\Q (g i) H
section
variable{X:Cx}{a b c:Expr}{ta tb tc:TE}{pos:Pos}
theorem uj(ha:PE X a ta)(O:PE X b tb){pins:List (Addr×Obj)}{s:Shared}{σ:St}{H:Hp}{R:V->V->Hp->Prop}(I:Inv X pins σ H s)(h:ta σ H fun x H1=>tb σ H1 fun y H2=>R x y H2){Q:Value->Shared->Prop}{f:Value->Value->Sem Value}(hf:∀v u s2 x y H2,Inv X pins σ H2 s2->RelV x v->RelV y u->R x y H2->wpAny (model X.prog X.w) X.A (f v u) Q X.xe s2):wpAny (model X.prog X.w) X.A (eval a X.env) (fun v X5=>wpAny (model X.prog X.w) X.A (eval b X.env) (fun u Qs=>wpAny (model X.prog X.w) X.A (f v u) Q X.xe Qs) X.xe X5) X.xe s:=by
 refine Yg (ha pins s σ H _ I h) fun v s1 ⟨x,H1,I1,r1,q1⟩=>?_;refine Yg (O pins s1 σ H1 _ I1 q1) fun u s2 ⟨y,H2,I2,r2,q2⟩=>?_;exact hf v u s2 x y H2 I2 r1 r2 q2
theorem Zg{op:Operator}{r:R2}(ho:PF X (binaryOp op) r)(ha:PE X a ta)(O:PE X b tb):PE X (.BinOp a op b pos) (oo r ta tb):=by
 intro pins s σ H Q I h;exact wpAny_BinOp (uj ha O I h fun v u s2 x y H2 I2 rx ry q=>ho pins s2 σ H2 x y v u Q I2 rx ry q)
theorem Ho{op:UnaryOp}{r:V->Hp->VK->Prop}(ho:mF X (unaryOp op) r)(ha:PE X a ta):PE X (.UnaryOp op a pos) (gf r ta):=by
 intro pins s σ H Q I h;exact UnaryOp_ (Yg (ha pins s σ H _ I h) fun v s1 ⟨x,H1,I1,r1,q1⟩=>ho pins s1 σ H1 x v Q I1 r1 q1)
theorem je{f:Value->Value->Sem Value}{C:Int->Int->Prop}{g:Int->Int->Int}(rule:∀(i j:Int)(t u:Tok)(s:Shared)(Q:Value->Shared->Prop)(E:Value->Shared->Prop),C i j->Q (.int (g i j) s.toks) {s with toks:=s.toks+1}->wpAny (model X.prog X.w) X.A (f (.int i t) (.int j u)) Q E s):PF X f (rI C fun i j=>.int (g i j)):=by
 intro pins s σ H x y v u Q I rx ry h;obtain⟨i,j,rfl,rfl,hc,q⟩:=h;obtain⟨t,rfl⟩:=rx;obtain⟨t',rfl⟩:=ry;exact rule i j t t' s _ _ hc ⟨.int (g i j),H,I.tok _,⟨_,Y⟩,q⟩
theorem qH{f:Value->Value->Sem Value}{g:Int->Int->Int}(rule:∀(i j:Int)(t u:Tok)(s:Shared)(Q:Value->Shared->Prop)(E:Value->Shared->Prop),Q (.int (g i j) s.toks) {s with toks:=s.toks+1}->wpAny (model X.prog X.w) X.A (f (.int i t) (.int j u)) Q E s):PF X f (vx fun i j=>.int (g i j)):=by
 intro pins s σ H x y v u Q I rx ry h;obtain⟨i,j,rfl,rfl,q⟩:=h;obtain⟨t,rfl⟩:=rx;obtain⟨t',rfl⟩:=ry;exact rule i j t t' s _ _ ⟨.int (g i j),H,I.tok _,⟨_,Y⟩,q⟩
theorem xU{f:Value->Value->Sem Value}{g:Int->Int->Bool}(rule:∀(i j:Int)(t u:Tok)(s:Shared)(Q:Value->Shared->Prop)(E:Value->Shared->Prop),Q (.bool (g i j)) s->wpAny (model X.prog X.w) X.A (f (.int i t) (.int j u)) Q E s):PF X f (vx fun i j=>.bl (g i j)):=by
 intro pins s σ H x y v u Q I rx ry h;obtain⟨i,j,rfl,rfl,q⟩:=h;obtain⟨t,rfl⟩:=rx;obtain⟨t',rfl⟩:=ry;exact rule i j t t' s _ _ ⟨.bl (g i j),H,I,Y,q⟩
theorem S4:PF X (binaryOp .Add) (vx fun i j=>.int (i+j)):=qH fun _ _ _ _ _ _ _ q=>add_int q
theorem Qn:PF X (binaryOp .Sub) (vx fun i j=>.int (i-j)):=qH fun _ _ _ _ _ _ _ q=>sub_int q
theorem ui:PF X (binaryOp .Mod) (rI (fun _ j=>0<j) fun i j=>.int (i%j)):=je fun i j _ _ _ _ _ hc q=>by
 have J:(0:Int)<j:=hc;exact mod_int' (by omega) (by rw[Int.fmod_eq_emod_of_nonneg i (by omega)];exact q)
theorem gc{f:Value->Sem Value}{g:Int->Int}(rule:∀(i:Int)(t:Tok)(s:Shared)(Q:Value->Shared->Prop)(E:Value->Shared->Prop),Q (.int (g i) s.toks) {s with toks:=s.toks+1}->wpAny (model X.prog X.w) X.A (f (.int i t)) Q E s):mF X f (rU fun i=>.int (g i)):=by
 intro pins s σ H x v Q I rx h;obtain⟨i,rfl,q⟩:=h;obtain⟨t,rfl⟩:=rx;exact rule i t s _ _ ⟨.int (g i),H,I.tok _,⟨_,Y⟩,q⟩
theorem Mt:mF X (unaryOp .USub) (rU fun i=>.int (-i)):=gc fun _ _ _ _ _ q=>neg_int q
end
def qG:V->V->Bool
 |.Xs,.Xs=>true|.Xs,.int _=>true|.int _,.Xs=>true|.Xs,.bl _=>true|.bl _,.Xs=>true|.Xs,.str _=>true|.str _,.Xs=>true
 |.int _,.int _=>true|.bl _,.bl _=>true|.str _,.str _=>true|.Fn _,.Fn _=>true
 |.int _,.str _=>true|.str _,.int _=>true|.bl _,.str _=>true|.str _,.bl _=>true
 |_,_=>false
def f_:R2:=fun x y H Q=>qG x y=true/\Q (.bl (decide (x=y))) H
def f6:R2:=fun x y H Q=>qG x y=true/\Q (.bl (!decide (x=y))) H
theorem DO{i j:Int}:decide (V.int i=V.int j)=(i==j):=by
 rw[Bool.eq_iff_iff];simp
theorem AY{i j:Bool}:decide (V.bl i=V.bl j)=(i==j):=by
 rw[Bool.eq_iff_iff];simp
theorem DN{i j:Str}:decide (V.str i=V.str j)=(i==j):=by
 rw[Bool.eq_iff_iff];simp
theorem DM{i j:Array UInt8}:decide (V.Fn i=V.Fn j)=(i.toList==j.toList):=by
 rw[Bool.eq_iff_iff];cases i;cases j;simp
section
variable{X:Cx}{a b c:Expr}{ta tb tc:TE}{pos:Pos}
theorem YE{pins:List (Addr×Obj)}{σ:St}{H:Hp}{s:Shared}{Q:VK}{k k':Bool}(I:Inv X pins σ H s)(q:Q (.bl k) H)(e:k=k'):EP X pins σ Q (.bool k') s:=by
 subst e;exact⟨.bl k,H,I,Y,q⟩
theorem Vb:PF X (compareOp .Eq) f_:=by
 intro pins s σ H x y v u Q I rx ry h;obtain⟨hs,q⟩:=h;cases x with
 |Xs=>
  cases rx;cases y with
  |Xs=>cases ry;exact PySem.EqNone.eq_none_none (YE I q (by simp))
  |bl j=>cases ry;exact PySem.EqNone.eq_none_bool (YE I q (by simp))
  |int j=>obtain ⟨t',rfl⟩:=ry;exact PySem.EqNone.eq_none_int (YE I q (by simp))
  |str j=>obtain ⟨t',rfl⟩:=ry;exact PySem.EqNone.eq_none_str (YE I q (by simp))
  |_=>exact absurd (show false=true from hs) Yz
 |bl i=>
  cases rx;cases y with
  |Xs=>cases ry;exact PySem.EqNone.eq_bool_none (YE I q (by simp))
  |bl j=>cases ry;exact eq_bool (YE I q AY)
  |str j=>obtain ⟨t',rfl⟩:=ry;exact PySem.EqMixed.eq_bool_str (YE I q (by simp))
  |_=>exact absurd (show false=true from hs) Yz
 |int i=>
  obtain⟨t,rfl⟩:=rx;cases y with
  |Xs=>cases ry;exact PySem.EqNone.eq_int_none (YE I q (by simp))
  |int j=>obtain ⟨t',rfl⟩:=ry;exact eq_int (YE I q DO)
  |str j=>obtain ⟨t',rfl⟩:=ry;exact PySem.EqMixed.eq_int_str (YE I q (by simp))
  |_=>exact absurd (show false=true from hs) Yz
 |str i=>
  obtain⟨t,rfl⟩:=rx;cases y with
  |Xs=>cases ry;exact PySem.EqNone.eq_str_none (YE I q (by simp))
  |bl j=>cases ry;exact PySem.EqMixed.eq_str_bool (YE I q (by simp))
  |int j=>obtain ⟨t',rfl⟩:=ry;exact PySem.EqMixed.eq_str_int (YE I q (by simp))
  |str j=>obtain ⟨t',rfl⟩:=ry;exact eq_str (YE I q DN)
  |_=>exact absurd (show false=true from hs) Yz
 |Fn i=>
  obtain⟨t,rfl⟩:=rx;cases y with
  |Fn j=>obtain ⟨t',rfl⟩:=ry;exact W.eq_bytes (YE I q DM)
  |_=>exact absurd (show false=true from hs) Yz
 |_=>cases y<;>exact absurd (show false=true from hs) Yz
theorem vw:PF X (compareOp .NotEq) f6:=by
 intro pins s σ H x y v u Q I rx ry h;obtain⟨hs,q⟩:=h;cases x with
 |Xs=>
  cases rx;cases y with
  |Xs=>cases ry;exact PySem.EqNone.ne_none_none (YE I q (by simp))
  |bl j=>cases ry;exact PySem.EqNone.ne_none_bool (YE I q (by simp))
  |int j=>obtain ⟨t',rfl⟩:=ry;exact PySem.EqNone.ne_none_int (YE I q (by simp))
  |str j=>obtain ⟨t',rfl⟩:=ry;exact PySem.EqNone.ne_none_str (YE I q (by simp))
  |_=>exact absurd (show false=true from hs) Yz
 |bl i=>
  cases rx;cases y with
  |Xs=>cases ry;exact PySem.EqNone.ne_bool_none (YE I q (by simp))
  |bl j=>cases ry;exact ne_bool (YE I q (congrArg not AY))
  |str j=>obtain ⟨t',rfl⟩:=ry;exact PySem.EqMixed.ne_bool_str (YE I q (by simp))
  |_=>exact absurd (show false=true from hs) Yz
 |int i=>
  obtain⟨t,rfl⟩:=rx;cases y with
  |Xs=>cases ry;exact PySem.EqNone.ne_int_none (YE I q (by simp))
  |int j=>obtain ⟨t',rfl⟩:=ry;exact ne_int (YE I q (congrArg not DO))
  |str j=>obtain ⟨t',rfl⟩:=ry;exact PySem.EqMixed.ne_int_str (YE I q (by simp))
  |_=>exact absurd (show false=true from hs) Yz
 |str i=>
  obtain⟨t,rfl⟩:=rx;cases y with
  |Xs=>cases ry;exact PySem.EqNone.ne_str_none (YE I q (by simp))
  |bl j=>cases ry;exact PySem.EqMixed.ne_str_bool (YE I q (by simp))
  |int j=>obtain ⟨t',rfl⟩:=ry;exact PySem.EqMixed.ne_str_int (YE I q (by simp))
  |str j=>obtain ⟨t',rfl⟩:=ry;exact ne_str (YE I q (congrArg not DN))
  |_=>exact absurd (show false=true from hs) Yz
 |Fn i=>
  obtain⟨t,rfl⟩:=rx;cases y with
  |Fn j=>obtain ⟨t',rfl⟩:=ry;exact W.ne_bytes (YE I q (congrArg not DM))
  |_=>exact absurd (show false=true from hs) Yz
 |_=>cases y<;>exact absurd (show false=true from hs) Yz
theorem Kb:PF X (compareOp .Lt) (vx fun i j=>.bl (decide (i<j))):=xU fun _ _ _ _ _ _ _ q=>lt_int q
theorem RU:PF X (compareOp .LtE) (vx fun i j=>.bl (decide (i<=j))):=xU fun _ _ _ _ _ _ _ q=>le_int q
theorem N3:PF X (compareOp .Gt) (vx fun i j=>.bl (decide (j<i))):=xU fun _ _ _ _ _ _ _ q=>gt_int q
theorem Ss:PF X (compareOp .GtE) (vx fun i j=>.bl (decide (j<=i))):=xU fun _ _ _ _ _ _ _ q=>ge_int q
theorem Vh:PF X (compareOp .Is) (fun x y H Q=>y=.Xs/\Q (.bl (decide (x=.Xs))) H):=by
 intro pins s σ H x y v u Q I rx ry h;obtain⟨rfl,q⟩:=h;cases ry;refine is_none_gen (YE I q ?_);cases x<;>first
  |(cases rx;rfl)
  |(obtain⟨t,rfl⟩:=rx;rfl)
theorem MJ:PF X (compareOp .IsNot) (fun x y H Q=>y=.Xs/\Q (.bl (!decide (x=.Xs))) H):=by
 intro pins s σ H x y v u Q I rx ry h;obtain⟨rfl,q⟩:=h;cases ry;refine isnot_none_gen (YE I q ?_);cases x<;>first
  |(cases rx;rfl)
  |(obtain⟨t,rfl⟩:=rx;rfl)
theorem Zu(b:Expr){op:CmpOp}(h:op≠.In:=by decide)(h2:op≠.NotIn:=by decide):behindInMarks op b=false:=by
 have e1:(op==CmpOp.In)=false:=by cases op<;>first|rfl|exact absurd rfl h
 have e2:(op==CmpOp.NotIn)=false:=by cases op<;>first|rfl|exact absurd rfl h2
 cases b<;>simp[behindInMarks,e1,e2]
theorem DK{op:CmpOp}{r:R2}(ho:PF X (compareOp op) r)(ha:PE X a ta)(O:PE X b tb)(hm:behindInMarks op b=false):PE X (.Compare a [op] [b] pos) (oo r ta tb):=by
 intro pins s σ H Q I h;exact wpAny_Compare1 (uj ha O I h fun v u s2 x y H2 I2 rx ry q=>ho pins s2 σ H2 x y v u Q I2 rx ry q) hm
def vv(t:TE):TT:=fun σ H Q=>t σ H fun x H'=>∃k,x=.bl k/\Q k H'
theorem ZJ{op:CmpOp}{r:R2}(ho:PF X (compareOp op) r)(ha:PE X a ta)(O:PE X b tb)(hm:behindInMarks op b=false):PT X (.Compare a [op] [b] pos) (vv (oo r ta tb)):=by
 intro pins s σ H Q I h;refine wpAny_isTrue_Compare1 (Yg (ha pins s σ H _ I h) fun v s1 ⟨x,H1,I1,r1,q1⟩=>Yg (O pins s1 σ H1 _ I1 q1) fun u s2 ⟨y,H2,I2,r2,q2⟩=>
  Yg (ho pins s2 σ H2 x y v u _ I2 r1 r2 q2) fun c s3 ⟨z,H3,I3,r3,k,e,q3⟩=>?_) hm
 subst e;cases r3;exact WJ ⟨H3,I3,q3⟩
def AX(r r':R2)(ta tb tc:TE):TE:=fun σ H Q=>ta σ H fun x H1=>tb σ H1 fun y H2=>r x y H2 fun z H3=>∃k,z=.bl k/\
 (if k=true then tc σ H3 fun w' H4=>r' y w' H4 Q else Q (.bl false) H3)
theorem Hn{op uh:CmpOp}{r r':R2}(ho:PF X (compareOp op) r)(Fl:PF X (compareOp uh) r')(ha:PE X a ta)(O:PE X b tb)(hc:PE X c tc)(hm:lastMarks [op,uh] [b,c]=false:=by with_unfolding_all rfl):PE X (.Compare a [op,uh] [b,c] pos) (AX r r' ta tb tc):=by
 intro pins s σ H Q I h;refine Compare_chain (Yg (ha pins s σ H _ I h) fun v s1 ⟨x,H1,I1,r1,q1⟩=>chain_link (Yg (O pins s1 σ H1 _ I1 q1) fun u s2 ⟨y,H2,I2,r2,q2⟩=>
  Yg (ho pins s2 σ H2 x y v u _ I2 r1 r2 q2) fun d s3 ⟨z,H3,I3,r3,k,e,q3⟩=>?_)) hm
 subst e;cases r3;refine WJ ?_;cases k with
 |false=>exact ite_ff ⟨.bl false,H3,I3,Y,q3⟩
 |true=>exact ite_tt (chain_last (Yg (hc pins s3 σ H3 _ I3 q3) fun w' s4 ⟨z',H4,I4,r4,q4⟩=>Fl pins s4 σ H4 y z' u w' Q I4 r2 r4 q4))
theorem Ms{op uh:CmpOp}{r r':R2}(ho:PF X (compareOp op) r)(Fl:PF X (compareOp uh) r')(ha:PE X a ta)(O:PE X b tb)(hc:PE X c tc)(hm:lastMarks [op,uh] [b,c]=false:=by with_unfolding_all rfl):PT X (.Compare a [op,uh] [b,c] pos) (vv (AX r r' ta tb tc)):=by
 intro pins s σ H Q I h;refine isTrue_chain (Yg (ha pins s σ H _ I h) fun v s1 ⟨x,H1,I1,r1,q1⟩=>test_link (Yg (O pins s1 σ H1 _ I1 q1) fun u s2 ⟨y,H2,I2,r2,q2⟩=>
  Yg (ho pins s2 σ H2 x y v u _ I2 r1 r2 q2) fun d s3 ⟨z,H3,I3,r3,k,e,q3⟩=>?_)) hm
 subst e;cases r3;refine WJ ?_;cases k with
 |false=>
  obtain⟨k',e',q'⟩:=q3;cases e';exact ite_ff ⟨H3,I3,q'⟩
 |true=>
  refine ite_tt (test_last (Yg (hc pins s3 σ H3 _ I3 q3) fun w' s4 ⟨z',H4,I4,r4,q4⟩=>Yg (Fl pins s4 σ H4 y z' u w' _ I4 r2 r4 q4) fun d' s5 ⟨z2,H5,I5,r5,k2,e2,q5⟩=>?_));subst e2;cases r5;exact WJ ⟨H5,I5,q5⟩
theorem Mr:(sizeLine:Nat)<2^63:=by rw[sizeLine_eq];decide
theorem vals1{x:V}{us:List Value}(r:Vals [x] us):∃u,us=[u]/\RelV x u:=by
 cases r with
 |cons r1 r2=>cases r2;exact⟨_,Y,r1⟩
theorem Hm:N4 X (.builtin "abs") (fun xs H Q=>∃i,xs=[.int i]/\Q (.int (if i<0 then-i else i)) H):=by
 intro pins s σ H xs us Q I r h;obtain⟨i,rfl,q⟩:=h;obtain⟨u,rfl,t,rfl⟩:=vals1 r;exact call_abs_int fun u tk=>⟨.int (if i<0 then-i else i),H,I.tok _,⟨_,Y⟩,q⟩
end
end L2
namespace L2
open PySem PySem.Spec PyProof.Rows
structure Fb(h:Heap)(x dx C:Addr)(mA:Str->Option Value):Prop where
 obj:h.get? x=some (W.instObj C dx)
 ns:h.Ns1 dx mA
 ne:dx≠x
theorem Cp{h:Heap}{dx:Addr}{mA:Str->Option Value}(n:h.Ns1 dx mA):∃od,h.get? dx=some od/\∀name,W.lookIn name od=some (mA name):=by
 obtain⟨o,es,ep,ho,hd,hk,_,hm⟩:=n;refine⟨o,ho,fun name=>?_⟩;have e:=hm name;unfold nsFind findBy at e;rw[<-Array.find?_toList]at e;unfold W.lookIn;rw[hd];dsimp only;split
 ·rename_i y q;rw[q]at e;exact congrArg some e
 ·rename_i q;rw[q]at e;have a:es.toList.any (·.refKey)=false:=by
   rw[List.any_eq_false];intro y hy;obtain⟨z,t,mE⟩:=hk y (Array.mem_toList_iff.mp hy);simp[DictEntry.refKey,mE]
  have a':¬es.toList.any (·.refKey)=true:=by rw[a];exact Yz
  rw[Z8 a'];exact congrArg some e
theorem Fb.look{h:Heap}{x dx C:Addr}{mA:Str->Option Value}(I:Fb h x dx C mA):∃od,W.InstAt h x (W.instObj C dx) C (some od)/\∀name,W.lookIn name od=some (mA name):=
 let⟨od,ho,hl⟩:=Cp I.ns
 ⟨od,⟨I.obj,Y,Y,ho⟩,hl⟩
section
variable{prog:Program}{w:World}{A:Around}{E:Value->Shared->Prop}{s:Shared}{K:W.Frag}{x dx C f:Addr}{mA:Str->Option Value}{name:Str}{v:Value}
theorem get_map{expr:Bool}{Q:Value->Shared->Prop}(X:K.In s.heap)(I:Fb s.heap x dx C mA)(hg:W.plainGet K C name=true)(hh:W.hasDictIn K C=true)(ha:W.findIn K (.ref C) name=some none)(hv:mA name=some v)(ug:W.handedIn v=true)(h:Q v {s with toks:=s.toks+1}):wpAny (model prog w) A (getAttr (.ref x) name expr) Q E s:=by
 obtain⟨od,Z_,hl⟩:=I.look;exact W.get_value X Z_ (W.plainGet_of hg).1 (W.findObj_own hh ha Y (by rw[hl,hv])) ug h
theorem AW{pl:Sem Bool}{Q:Value×List Value->Shared->Prop}(X:K.In s.heap)(I:Fb s.heap x dx C mA)(hg:W.plainGet K C name=true)(hf:W.findIn K (.ref C) name=some (some (.ref f)))(ht:W.isFn K (.ref f)=true)(hv:mA name=none)(h:Q (.ref f,[.ref x]) s):wpAny (model prog w) A (getMethod (.ref x) name pl) Q E s:=by
 obtain⟨od,Z_,hl⟩:=I.look;exact W.method_fn X Z_ (W.plainGet_of hg).1 (W.plainGet_of hg).2 hf (Xl.mp ht) (by show(W.lookIn name od).map (·.isSome)=some false;rw[hl,hv];rfl) h
theorem xT{ns:List Str}{Q:Unit->Shared->Prop}(X:K.In s.heap)(I:Fb s.heap x dx C mA)(hs:W.findIn K (.ref C) "__setattr__"=some (some (.builtin "object.__setattr__")))(hp:W.plainOver K C=true)(ht:W.takerIn K C name=some none)(hh:W.hasDictIn K C=true)(hw:PySem.Within mA ns)(hsz:ns.length<=sizeLine)(h:∀h',Fb h' x dx C (fun y=>if y=name then some v else mA y)->Heap.SameBut dx s.heap h'->Q () {s with heap:=h',toks:=s.toks+2}):wpAny (model prog w) A (setAttr (.ref x) name v) Q E s:=by
 obtain⟨od,Z_,hl⟩:=I.look;refine W.set_plain X Z_ hs (W.osa_open (s:={s with toks:=s.toks+1}) (r:=none) X Z_ hp ht fun b=>?_);obtain⟨cd,hc,mX⟩:=W.any_some hh;have hx:s.heap.get? x=some ⟨.ref C,some dx,.plain,#[]⟩:=I.obj;refine ZV (Zt (ZV (ZV (wpAny_loadPart hx (ZV (W.Looks.here (s:={s with toks:=s.toks+1}) (W.looks_clsIn X hc) ?_))))));rw[mX];refine Zt (a:=some dx) (ZV (Zt (ZV ?_)));refine wpAny_nsSet1 (s:={s with toks:=s.toks+1}) I.ns fun h' jd om=>?_;obtain⟨oD,aS,aR,fZ,fY,fX⟩:=jd.count (PySem.Within.cons name v hw);refine ZV (wpAny_lookBehind fZ (by rw[fY];exact pastItsLine_dict (ZE fX (by rw[Zj];omega))) ?_);exact Zt (h _ ⟨(om.2 _ (Xo I.ne)).trans I.obj,jd,I.ne⟩ om)
theorem AV{R:Result->Shared->Prop}{vs:List Value}{kw:List (Str×Value)}(X:K.In s.heap)(hm:W.makesIn K C=true)(hi:W.findIn K (.ref C) "__init__"=some (some (.ref f)))(hf:W.typeIn K (.ref f)=some (.type "function"))(h:codeAny (model prog w) (A.under (.builtin "type.__call__" ⟨.ref C::vs,kw⟩)) (.call (.ref f) ⟨.ref (s.heap.objs.size+1)::vs,kw⟩) (W.InitBack (s.heap.objs.size+1) R) {s with heap:=(s.heap.push W.emptyDict).push (W.instObj C s.heap.objs.size)}):codeAny (model prog w) A (.call (.ref C) ⟨vs,kw⟩) R s:=by
 obtain⟨hh,g,d,t,os⟩:=s;exact W.make_core (W.makes_of X hm) (W.looks_findIn X hi) (fun self=>W.bind_fn X self hf) (.inl Y) h
end
def S3(f:Str)(v:V):List (Str×V)->List (Str×V)
 |[]=>[(f,v)]
 |(g,x)::r=>if g=f then(g,v)::r else(g,x)::S3 f v r
theorem N2(f g:Str)(v:V):∀fs:List (Str×V),(S3 f v fs).lookup g=if g=f then some v else fs.lookup g
 |[]=>by
  show List.lookup g [(f,v)]=_;by_cases h:g=f
  ·have O:(g==f)=true:=Xl.mpr h;simp only[List.lookup,O,Z7 h]
  ·have O:(g==f)=false:=VL.mpr h;simp only[List.lookup,O,Z8 h]
 |(k,x)::r=>by
  have ih:=N2 f g v r;rw[show S3 f v ((k,x)::r)=(if k=f then(k,v)::r else(k,x)::S3 f v r)from rfl];by_cases hk:k=f
  ·rw[Z7 hk];by_cases h:g=k
   ·have O:(g==k)=true:=Xl.mpr h;simp only[List.lookup,O,Z7 (h.trans hk)]
   ·have O:(g==k)=false:=VL.mpr h;simp only[List.lookup,O,Z8 (fun e:g=f=>h (e.trans hk.symm))]
  ·rw[Z8 hk];by_cases h:g=k
   ·have O:(g==k)=true:=Xl.mpr h;simp only[List.lookup,O,Z8 (fun e:g=f=>hk (h.symm.trans e))]
   ·have O:(g==k)=false:=VL.mpr h;simp only[List.lookup,O];exact ih
theorem OA(f:Str)(v:V):∀fs:List (Str×V),f∈(S3 f v fs).map (·.1)/\∀g,g∈fs.map (·.1)->g∈(S3 f v fs).map (·.1)
 |[]=>⟨by simp[S3],fun g h=>by simp at h⟩
 |(k,x)::r=>by
  obtain⟨i1,i2⟩:=OA f v r;rw[show S3 f v ((k,x)::r)=(if k=f then(k,v)::r else(k,x)::S3 f v r)from rfl];by_cases hk:k=f
  ·rw[Z7 hk];subst hk;exact⟨by simp,fun g h=>by simpa using h⟩
  ·rw[Z8 hk];refine⟨?_,fun g h=>?_⟩
   ·rw[Y7];exact Zh _ i1
   ·rw[Y7]at h⊢;rcases ZH.mp h with e|e;·exact ZH.mpr (.inl e)
    ·exact Zh _ (i2 g e)
theorem N0(f:Str)(v:V):∀fs:List (Str×V),(S3 f v fs).length<=fs.length+1
 |[]=>by simp[S3]
 |(k,x)::r=>by
  have ih:=N0 f v r;rw[show S3 f v ((k,x)::r)=(if k=f then(k,v)::r else(k,x)::S3 f v r)from rfl];by_cases hk:k=f;·rw[Z7 hk,Zj,Zj];omega
  ·rw[Z8 hk,Zj,Zj];omega
theorem R_.some_of{v:V}{o:Option Value}(r:R_ (some v) o):∃u,o=some u/\RelV v u:=by
 cases o with
 |none=>exact (show False from r).elim
 |some u=>exact ⟨u,Y,r⟩
theorem R_.none_of{o:Option Value}(r:R_ none o):o=none:=by
 cases o with
 |none=>rfl
 |some u=>exact (show False from r).elim
theorem Co{v:V}{u:Value}(r:RelV v u):W.handedIn u=true:=by
 cases v with
 |Xs=>cases (show u=Value.none from r);rfl
 |bl b=>cases (show u=Value.bool b from r);rfl
 |int i=>obtain ⟨t,e⟩:=(show∃t,u=Value.int i t from r);cases e;rfl
 |str x=>obtain ⟨t,e⟩:=(show∃t,u=Value.str x t from r);cases e;rfl
 |Fn b=>obtain ⟨t,e⟩:=(show∃t,u=Value.bytes b t from r);cases e;rfl
 |oE b=>obtain ⟨t,e⟩:=(show∃t,u=Value.float b t from r);cases e;rfl
 |ref a=>cases (show u=Value.ref a from r);rfl
 |ty n=>cases (show u=Value.type n from r);rfl
section
variable{P:Program}{w:World}{H H':Hp}{h h':Heap}{a C dx:Addr}{fs q_:List (Str×V)}
theorem Ji(Ya:Tw P w H h)(e:H a=some (.ins C dx fs)):∃mA,Fb h a dx C mA/\(∀f,R_ (fs.lookup f) (mA f))/\PySem.Within mA (fs.map (·.1))/\fs.length<=1000/\H dx=some (.own a):=by
 obtain⟨d,z,ne,ob,mA,n,r,q⟩:=(show Xe P w H h a (.ins C dx fs)from Ya a _ e);exact⟨mA,⟨ob,n,ne⟩,r,q,z,d⟩
end
structure Cm(K:W.Frag)(C:Addr):Prop where
 pg:W.plainGet K C Str.empty=true
 hd:W.hasDictIn K C=true
 po:W.plainOver K C=true
 sa:W.findIn K (.ref C) "__setattr__"=some (some (.builtin "object.__setattr__"))
theorem Cm.get{K:W.Frag}{C:Addr}(c:Cm K C)(f:Str):W.plainGet K C f=true:=c.pg
def YD(K:W.Frag)(C:Addr)(f:Str):Prop:=W.findIn K (.ref C) f=some none
theorem YD.qF{K:W.Frag}{C:Addr}{f:Str}(n:YD K C f):W.takerIn K C f=some none:=by
 unfold W.takerIn;rw[show W.findIn K (.ref C) f=some none from n];rfl
structure Meth(K:W.Frag)(C:Addr)(m:Str)(f:Addr):Prop where
 at_:W.findIn K (.ref C) m=some (some (.ref f))
 fn:W.isFn K (.ref f)=true
 kp:W.keepIn K (.ref f)=true
section
variable{X:Cx}{pins:List (Addr×Obj)}{σ:St}{H:Hp}{s:Shared}{a C dx:Addr}{fs:List (Str×V)}{f:Str}{v:V}{A:Around}{E:Value->Shared->Prop}
theorem E'{b:Bool}{Q:Value->Shared->Prop}(I:Inv X pins σ H s)(e:H a=some (.ins C dx fs))(c:Cm X.K C)(n:YD X.K C f)(l:fs.lookup f=some v)(h:∀u s',Inv X pins σ H s'->RelV v u->Q u s'):wpAny (model X.prog X.w) A (getAttr (.ref a) f b) Q E s:=by
 obtain⟨mA,Z9,r,_,_,_⟩:=Ji I.Ya e;obtain⟨u,hu,ru⟩:=R_.some_of (v:=v) (o:=mA f) (by rw[<-l];exact r f);exact get_map I.Fm Z9 (c.get f) c.hd n hu (Co ru) (h u _ (I.tok _) ru)
theorem Mq{m:Str}{g:Addr}{pl:Sem Bool}{Q:Value×List Value->Shared->Prop}(I:Inv X pins σ H s)(e:H a=some (.ins C dx fs))(c:Cm X.K C)(k:Meth X.K C m g)(l:fs.lookup m=none)(h:Q (.ref g,[.ref a]) s):wpAny (model X.prog X.w) A (getMethod (.ref a) m pl) Q E s:=by
 obtain⟨mA,Z9,r,_,_,_⟩:=Ji I.Ya e;have hn:mA m=none:=R_.none_of (by rw[<-l];exact r m);exact AW I.Fm Z9 (c.get m) k.at_ k.fn hn h
theorem E_{y:V}{u:Value}{Q:Unit->Shared->Prop}(I:Inv X pins σ H s)(e:H a=some (.ins C dx fs))(c:Cm X.K C)(n:YD X.K C f)(hl:fs.length<1000)(ry:RelV y u)(h:∀s',Inv X pins σ (upd H a (.ins C dx (S3 f y fs))) s'->Q () s'):wpAny (model X.prog X.w) A (setAttr (.ref a) f u) Q E s:=by
 obtain⟨mA,Z9,r,wi,_,ho⟩:=Ji I.Ya e;have hz:(fs.map (·.1)).length<=sizeLine:=by rw[Z3,sizeLine_eq];omega
 refine xT I.Fm Z9 c.sa c.po n.qF c.hd wi hz fun h' O' sb=>h _ ?_;have hd:∃o,h'.get? dx=some o:=let⟨o,_,_,e',_⟩:=O'.ns;⟨o,e'⟩
 refine I.write (x:=a) (e:=dx) (by rw[e];exact True.intro) (.inr ho) (fun b q O z=>(sb.2 b O).trans z) hd ?_;refine⟨by rw[ZW Z9.ne];exact ho,?_,Z9.ne,O'.obj,_,O'.ns,fun g=>?_,fun g hg=>?_⟩;·have:=N0 f y fs;omega
 ·show R_ ((S3 f y fs).lookup g) (if g=f then some u else mA g);rw[N2];by_cases q:g=f;·rw[Z7 q,Z7 q];exact ry
  ·rw[Z8 q,Z8 q];exact r g
 ·by_cases q:g=f;·rw[q];exact(OA f y fs).1
  ·refine(OA f y fs).2 g (wi g fun z=>hg ?_);show(if g=f then some u else mA g)=none;rw[Z8 q];exact z
theorem Inv.made(I:Inv X pins σ H s):Inv X pins σ (upd (upd H s.heap.objs.size (.own (s.heap.objs.size+1))) (s.heap.objs.size+1) (.ins C s.heap.objs.size [])) {s with heap:=(s.heap.push W.emptyDict).push (W.instObj C s.heap.objs.size)}:=by
 have e1:(s.heap.push W.emptyDict).get? s.heap.objs.size=some W.emptyDict:=Xn s.heap rfl;have e2:((s.heap.push W.emptyDict).push (W.instObj C s.heap.objs.size)).get? (s.heap.objs.size+1)=some (W.instObj C s.heap.objs.size):=by
  have:=Xn (s.heap.push W.emptyDict) (o:=W.instObj C s.heap.objs.size) rfl;rwa[Xm]at this
 have e3:(s.heap.push W.emptyDict).Ns s.heap.objs.size (fun _=>none):=⟨W.emptyDict,#[],_,e1,Y,(fun e he=>absurd he (by simp)),fun _=>rfl⟩;have I1:=I.laid (a:=s.heap.objs.size) (o:=.own (s.heap.objs.size+1)) (h':=s.heap.push W.emptyDict) (t':=s.toks) (fun b u q=>YF _ q) (ZM _) ⟨_,e1⟩;refine I1.laid (a:=s.heap.objs.size+1) (o:=.ins C s.heap.objs.size []) (t':=s.toks) (fun b u q=>YF _ q) (Nat.le_of_eq (Xm _ _)) ?_;have ne:s.heap.objs.size≠s.heap.objs.size+1:=Za (V8 _);refine⟨by rw[ZW ne,Z4],Zw _,ne,e2,fun _=>none,(Heap.Ns1.of_empty e3).at fun o q=>YF _ q,fun _=>True.intro,fun y hy=>absurd rfl hy⟩
theorem xS{prog:Program}{w:World}{env:Env}{e:Expr}{f:Str}{pos:Pos}{s:Shared}{Q:Value->Shared->Prop}(O:attributeBase e f env (eval e env)=eval e env)(h:wpAny (model prog w) A (eval e env) (fun o X5=>wpAny (model prog w) A (getAttr o f true) Q E X5) E s):wpAny (model prog w) A (eval (.Attribute e f pos) env) Q E s:=
 Attribute_any_ h (by rw[arm_eval_Attribute,O])
end
def xR(K:W.Frag)(ta:TE)(f:Str):TE:=fun σ H Q=>ta σ H fun x H1=>∃a C dx fs v,x=.ref a/\H1 a=some (.ins C dx fs)/\Cm K C/\YD K C f/\fs.lookup f=some v/\Q v H1
def mD(K:W.Frag)(ta tv:TE)(f:Str):TS:=fun D σ H=>tv σ H fun y H1=>ta σ H1 fun x H2=>∃a C dx fs,x=.ref a/\H2 a=some (.ins C dx fs)/\Cm K C/\YD K C f/\fs.length<1000/\
 D.nx σ (upd H2 a (.ins C dx (S3 f y fs)))
section
variable{X:Cx}{o e value:Expr}{f:Str}{pos pos' Mw:Pos}{ta tv:TE}
theorem ZZ(he:PE X e ta)(O:attributeBase e f X.env (eval e X.env)=eval e X.env):PE X (.Attribute e f pos) (xR X.K ta f):=by
 intro pins s σ H Q I h;refine xS O (Yg (he pins s σ H _ I h) fun u s1 ⟨x,H1,I1,rx,a,C,dx,fs,v,ex,ea,c,n,l,q⟩=>?_);subst ex;obtain rfl:u=Value.ref a:=rx;exact E' I1 ea c n l fun u' s2 I2 ru=>⟨v,H1,I2,ru,q⟩
theorem YK(ha:PE X o ta)(hv:PE X value tv)(hs:swapsWith value (some (.Attribute o f pos')) pos.line X.env=pure false):PS X (.Assign [.Attribute o f pos'] value pos) (mD X.K ta tv f):=by
 intro pins s σ H D I h;refine plainObj_wpAny_Assign_Attribute (Yg (hv pins s σ H _ I h) fun u s1 ⟨y,H1,I1,ry,q⟩=>Yg (ha pins s1 σ H1 _ I1 q) fun ov s2 ⟨x,H2,I2,rx,a,C,dx,fs,ex,ea,c,n,l,q2⟩=>?_) hs;subst ex;obtain rfl:ov=Value.ref a:=rx;exact E_ I2 ea c n l ry fun s3 I3=>⟨σ,_,I3,q2⟩
theorem vq{pl:Sem Bool}{m:Str}{apos:Pos}{args:List Expr}{pins:List (Addr×Obj)}{s:Shared}{σ:St}{H:Hp}{Q:Value->Shared->Prop}{te:TE}(he:PE X e te)(I:Inv X pins σ H s)
 (h:te σ H fun x H1=>∃a C dx fs g,x=.ref a/\H1 a=some (.ins C dx fs)/\Cm X.K C/\Meth X.K C m g/\fs.lookup m=none/\
  ∀s1,Inv X pins σ H1 s1->wpAny (model X.prog X.w) X.A (callWith pos (.ref g) [.ref a] (backTo pos (starEach args X.env)) (backToKw pos (keywordEach [] X.env))) Q X.xe s1)
 (ht:eval (.Call (.Attribute e m apos) args [] pos) X.env=(do
  let ov<-eval e X.env
  standAt apos.atName
  let(f,first)<-holding [ov] (getMethod ov m pl)
  callWith pos f first (backTo pos (starEach args X.env)) (backToKw pos (keywordEach [] X.env)))):
 wpAny (model X.prog X.w) X.A (eval (.Call (.Attribute e m apos) args [] pos) X.env) Q X.xe s:=by
 refine W.methodCall_KW (pl:=pl) (Yg (he pins s σ H _ I h) fun u s1 ⟨x,H1,I1,rx,a,C,dx,fs,g,ex,ea,c,k,l,q⟩=>?_) ht;subst ex;obtain rfl:u=Value.ref a:=rx;exact Mq I1 ea c k l (q s1 I1)
end
end L2
namespace L2
open PySem PySem.Spec PyProof.Rows
structure WA(k:Nat)(A:Around):Prop where
 hd:A.handled=none
 dp:A.depth+3*k+5<recursionLimit
 un:A.units+16*k+200<cLine
theorem WA.mono{j k:Nat}{A:Around}(r:WA k A)(h:j<=k):WA j A:=⟨r.hd,by have:=r.dp;omega,by have:=r.un;omega⟩
theorem WA.deeper{k:Nat}{A:Around}(r:WA (k+1) A)(env:Env):WA k (A.deeper env):=
 ⟨r.hd,by have:=r.dp;show A.depth+1+3*k+5<_;omega,by have:=r.un;show A.units+3+16*k+200<_;omega⟩
theorem E9{A:Around}{C:Addr}{us:List Value}{kw:List (Str×Value)}:(A.under (.builtin "type.__call__" ⟨.ref C::us,kw⟩)).depth=A.depth+1:=by first|rfl|simp[Around.under,Code.weight,Code.isCreation,Code.isGuard,Code.isCaller,Code.frames,Code.isFrame,guardIds]
theorem E8{A:Around}{C:Addr}{us:List Value}{kw:List (Str×Value)}:(A.under (.builtin "type.__call__" ⟨.ref C::us,kw⟩)).units=A.units+1:=by first|rfl|simp[Around.under,Code.cUnits,Code.frames,Code.isFrame]
theorem WA.make{k:Nat}{A:Around}(r:WA (k+1) A)(C:Addr)(us:List Value)(kw:List (Str×Value)):WA k (A.under (.builtin "type.__call__" ⟨.ref C::us,kw⟩)):=
 ⟨r.hd,by have:=r.dp;rw[E9];omega,by have:=r.un;rw[E8];omega⟩
theorem WA.depth{k:Nat}{A:Around}(r:WA k A):A.depth<recursionLimit:=by have:=r.dp;omega
theorem WA.units{k:Nat}{A:Around}(r:WA k A):A.units+64<cLine:=by have:=r.un;omega
def Ck:TA:=fun _ H Q=>Q [] H
def vp(ta:TE)(tr:TA):TA:=fun σ H Q=>ta σ H fun x H1=>tr σ H1 fun xs H2=>Q (x::xs) H2
section
variable{X:Cx}{e:Expr}{es:List Expr}{te:TE}{t:TA}{pos:Pos}
theorem Z2:PA X [] Ck:=fun _ _ _ _ H Q I h=>Calls.spliced_nil ⟨[],H,I,.nil,h⟩
theorem Z6(ha:PE X e te)(hr:PA X es t)(hs:starEach (e::es) X.env=(false,eval e X.env)::starEach es X.env:=by rfl):PA X (e::es) (vp te t):=by
 intro pos pins s σ H Q I h;rw[hs];show wpAny _ _ (spliced ((false,eval e X.env)::backTo pos (starEach es X.env))) _ _ s;refine Calls.spliced_cons (Yg (ha pins s σ H _ I h) fun u s1 ⟨x,H1,I1,r1,q1⟩=>?_);exact Yg (hr pos pins s1 σ H1 _ I1 q1) fun us s2 ⟨xs,H2,I2,r2,q2⟩=>⟨x::xs,H2,I2,.cons r1 r2,q2⟩
def mC(t:TA):TE:=fun σ H Q=>t σ H fun xs H1=>xs.length<=sizeLine/\∀p,H1 p=none->Q (.ref p) (upd H1 p (.tup xs))
def mB(t:TA):TE:=fun σ H Q=>t σ H fun xs H1=>xs.length<=sizeLine/\∀p,H1 p=none->Q (.ref p) (upd H1 p (.lst xs))
theorem E7{x1}(h:PA X es t):PE X (.Tuple es x1 pos) (mC t):=by
 intro pins s σ H Q I hq;refine wpAny_Tuple_spliced (Yg (h pos pins s σ H _ I hq) fun us s1 ⟨xs,H1,I1,r,z,q⟩=>⟨by rw[<-r.length];exact z,?_⟩);have hf:H1 s1.heap.objs.size=none:=I1.Ya.fresh (ZM _);refine⟨.ref s1.heap.objs.size,upd H1 s1.heap.objs.size (.tup xs),I1.laid (t':=s1.toks) (fun b u e=>YF _ e) (ZM _) ?_,Y,q _ hf⟩;exact⟨z,us,r,⟨_,Xn _ rfl,Y,_,Y⟩⟩
theorem Zy(h:PA X es t):PE X (.List es pos) (mB t):=by
 intro pins s σ H Q I hq;refine wpAny_List_spliced (Yg (h pos pins s σ H _ I hq) fun us s1 ⟨xs,H1,I1,r,z,q⟩=>⟨by rw[<-r.length];exact z,?_⟩);have hf:H1 s1.heap.objs.size=none:=I1.Ya.fresh (ZM _);refine⟨.ref s1.heap.objs.size,upd H1 s1.heap.objs.size (.lst xs),I1.laid (t':=s1.toks) (fun b u e=>YF _ e) (ZM _) ?_,Y,q _ hf⟩;exact⟨z,us,0,r,Xn _ rfl⟩
end
abbrev Sp:=List V->Hp->VK->XK->Prop
abbrev Be:=List Env->Hp->Shared->XK->Value->Shared->Prop
structure E6(P:Program)(w:World)(K:W.Frag)(mg:Str->Option Value)(base:Heap)(A:Around)(outer:List Env)(s:Shared)(H:Hp):Prop where
 frames:A.frames=some outer
 mod:Mod K mg base
 bs:∀b o,base.get? b=some o->s.heap.get? b=some o/\H b=none
 ym:base.objs.size<=s.heap.objs.size
 M9:s.heap.FunFrames base outer
 uA:∀b∈A9 outer,H b=none
 Ya:Tw P w H s.heap
 bare:AllBare s.gens
 tree:P.given.tree=none
def CE(outer:List Env)(P:Program)(w:World)(H:Hp)(s:Shared)(Q:VK)(u:Value)(s':Shared):Prop:=
 ∃v H',s'.os=s.os/\AllBare s'.gens/\Un (A9 outer) [] H H' s.heap s'.heap/\Tw P w H' s'.heap/\RelV v u/\Q v H'
def CR(CX:Be)(outer:List Env)(P:Program)(w:World)(H:Hp)(s:Shared)(Q:VK)(E:XK)(r:Result)(s':Shared):Prop:=
 match r with
 |.ok (.ret u)=>CE outer P w H s Q u s'
 |.ok _=>False
 |.error e=>CX outer H s E e s'
structure Y'(P:Program)(w:World)(K:W.Frag)(mg:Str->Option Value)(base:Heap)(CX:Be)(k:Nat)(f:Addr)(fd:FuncData)(ps:List Str)(sp:Sp):Prop where
 len:∀vs H Q E,sp vs H Q E->vs.length=ps.length
 run:∀(A:Around)(outer:List Env)(s:Shared)(H:Hp)(args:Args)(us:List Value)(vs:List V)(Q:VK)(E:XK),WA k A->E6 P w K mg base A outer s H->BindsTo s fd args (ps.zip us)->Vals vs us->sp vs H Q E->
  codeAny (model P w) A (.call (.ref f) args) (CR CX outer P w H s Q E) s
theorem E6.make{P:Program}{w:World}{K:W.Frag}{mg:Str->Option Value}{base:Heap}{A:Around}{outer:List Env}{s:Shared}{H:Hp}(e:E6 P w K mg base A outer s H)(C:Addr)(us:List Value)(kw:List (Str×Value)):E6 P w K mg base (A.under (.builtin "type.__call__" ⟨.ref C::us,kw⟩)) outer s H:=⟨by first|exact e.frames|(simpa[Around.under,Code.envs,Code.isFrame,pushEnvs]using e.frames),e.mod,e.bs,e.ym,e.M9,e.uA,e.Ya,e.bare,e.tree⟩
section
variable{X:Cx}{pins:List (Addr×Obj)}{σ:St}{H:Hp}{s s':Shared}
theorem Inv.qE(I:Inv X pins σ H s):E6 X.prog X.w X.K X.mg X.base X.A X.stack s H:=
 ⟨I.ok.frames,I.ok.mod,I.bs,ZE I.ok.ym I.sz,I.stack,I.DR,I.Ya,I.bare,I.ok.tree⟩
theorem Inv.after{Q:VK}{u:Value}(I:Inv X pins σ H s)(h:CE X.stack X.prog X.w H s Q u s'):EP X pins σ Q u s':=by
 obtain⟨v,H',os,bare,un,Ya,r,q⟩:=h;obtain⟨hh,g,d,t,fW⟩:=s';obtain rfl:fW=s.os:=os;exact⟨v,H',I.call (h':=hh) (g':=g) (d':=d) (t':=t) (ch:=[]) un Ya bare (fun b z=>absurd z (by simp)),r,q⟩
end
def vo(sp:Sp)(KN:List V)(E:XK)(t:TA):TE:=fun σ H Q=>t σ H fun vs H1=>sp (vs++KN) H1 Q E
def vn(C:Addr)(m:Str)(sp:Sp)(KN:List V)(E:XK)(ta:TE)(t:TA):TE:=fun σ H Q=>ta σ H fun x H1=>∃a dx fs,x=.ref a/\H1 a=some (.ins C dx fs)/\fs.lookup m=none/\
 t σ H1 fun vs H2=>sp (x::(vs++KN)) H2 Q E
def DJ(C:Addr)(sp:Sp)(KN:List V)(E:XK)(t:TA):TE:=fun σ H Q=>t σ H fun vs H1=>∀x dx,H1 x=none->H1 dx=none->dx≠x->
 sp (.ref x::(vs++KN)) (upd (upd H1 dx (.own x)) x (.ins C dx [])) (fun v H2=>v=.Xs/\Q (.ref x) H2) E
def Binds(K:W.Frag)(fd:FuncData)(ps:List Str)(ds:List Value):Prop:=
 ∀(s:Shared)(us:List Value),K.In s.heap->(us++ds).length=ps.length->BindsTo s fd ⟨us,[]⟩ (ps.zip (us++ds))
theorem Binds.all{K:W.Frag}{fd:FuncData}{ps:List Str}(h:∀us:List Value,us.length=ps.length->bindArgs fd ⟨us,[]⟩=pure (ps.zip us)):Binds K fd ps []:=fun s us _ hl=>by
 rw[XH]at hl⊢;exact .of_eq (h us hl)
def Passes(CX:Be)(X:Cx)(E:XK):Prop:=∀(pins:List (Addr×Obj))(σ:St)(H:Hp)(s:Shared)(e:Value)(s':Shared),Inv X pins σ H s->CX X.stack H s E e s'->X.xe e s'
section
variable{X:Cx}{CX:Be}{k:Nat}{f C:Addr}{fd:FuncData}{ps:List Str}{sp:Sp}{KN:List V}{ds:List Value}{E:XK}{x m:Str}{p pos apos:Pos}{e o:Expr}{es:List Expr}{ta:TE}{t:TA}
theorem E5{pins:List (Addr×Obj)}{σ:St}{H:Hp}{s:Shared}{Q:VK}{us:List Value}{vs:List V}(F:Y' X.prog X.w X.K X.mg X.base CX k f fd ps sp)(hr:WA k X.A)(O:Binds X.K fd ps ds)(hd:Vals KN ds)(hx:Passes CX X E)(I:Inv X pins σ H s)(r:Vals vs us)(h:sp (vs++KN) H Q E):wpAny (model X.prog X.w) X.A (call (.ref f) us) (EP X pins σ Q) X.xe s:=by
 have r2:Vals (vs++KN) (us++ds):=r.append hd;have hl:(us++ds).length=ps.length:=by rw[<-r2.length];exact F.len _ _ _ _ h
 refine wpAny_call (codeAny_mono (F.run X.A X.stack s H ⟨us,[]⟩ (us++ds) (vs++KN) Q E hr I.qE (O s us I.Fm hl) r2 h) fun r s' hq=>?_);cases r with
 |error e=>exact hx pins σ H s e s' I hq
 |ok fl=>
  cases fl with
  |ret u=>exact I.after hq
  |next=>exact False.elim hq
  |brk=>exact False.elim hq
  |cont=>exact False.elim hq
theorem xQ(F:Y' X.prog X.w X.K X.mg X.base CX k f fd ps sp)(hr:WA k X.A)(hg:Gl X x)(hm:X.mg x=some (.ref f))(hk:W.keepIn X.K (.ref f)=true)(O:Binds X.K fd ps ds)(hd:Vals KN ds)(hx:Passes CX X E)(ha:PA X (e::es) t)(E4:(x==("__debug__":Str))=false:=by decide)(he:starEach (e::es) X.env=(false,eval e X.env)::starEach es X.env:=by rfl)(KL:(backTo pos (starEach es X.env)).any (·.1)=false:=by rfl):PE X (.Call (.Name x p) (e::es) [] pos) (vo sp KN E t):=by
 intro pins s σ H Q I h;refine UW (MK I hg hm ?_ E4);refine W.callWith_K (h₀:=X.base) I.ok.mod.qZ hk (Yg (ha pos pins s σ H _ I h) fun us s1 ⟨vs,H1,I1,r,q⟩=>⟨I1.Fm,?_⟩) he KL;exact E5 F hr O hd hx I1 r q
theorem AU{pl:Sem Bool}(he:PE X o ta)(c:Cm X.K C)(hm:Meth X.K C m f)(F:Y' X.prog X.w X.K X.mg X.base CX k f fd ps sp)(hr:WA k X.A)(O:Binds X.K fd ps ds)(hd:Vals KN ds)(hx:Passes CX X E)
 (ht:eval (.Call (.Attribute o m apos) [] [] pos) X.env=(do
  let ov<-eval o X.env
  standAt apos.atName
  let(f,first)<-holding [ov] (getMethod ov m pl)
  callWith pos f first (backTo pos (starEach [] X.env)) (backToKw pos (keywordEach [] X.env))):=by rfl):
 PE X (.Call (.Attribute o m apos) [] [] pos) (vn C m sp KN E ta Ck):=by
 intro pins s σ H Q I h;refine W.methodCall_KW (pl:=pl) (Yg (he pins s σ H _ I h) fun u s1 ⟨x,H1,I1,rx,a,dx,fs,ex,ea,l,q⟩=>?_) ht;subst ex;obtain rfl:u=Value.ref a:=rx;refine Mq I1 ea c hm l ?_;exact W.callWith_K0 (first:=[.ref a]) I1.Fm hm.kp (E5 (us:=[.ref a]) (vs:=[.ref a]) F hr O hd hx I1 (.cons rfl .nil) q)
structure Mk(K:W.Frag)(C f:Addr):Prop where
 makes:W.makesIn K C=true
 init:W.findIn K (.ref C) "__init__"=some (some (.ref f))
 fn:W.isFn K (.ref f)=true
 kp:W.keepIn K (.ref C)=true
theorem Hl{pins:List (Addr×Obj)}{σ:St}{H:Hp}{s:Shared}{Q:VK}{us:List Value}{vs:List V}(M:Mk X.K C f)(F:Y' X.prog X.w X.K X.mg X.base CX k f fd ps sp)(hr:WA (k+1) X.A)(O:Binds X.K fd ps ds)(hd:Vals KN ds)(hx:Passes CX X E)(I:Inv X pins σ H s)(r:Vals vs us)(h:∀x dx,H x=none->H dx=none->dx≠x->sp (.ref x::(vs++KN)) (upd (upd H dx (.own x)) x (.ins C dx [])) (fun v H2=>v=.Xs/\Q (.ref x) H2) E):wpAny (model X.prog X.w) X.A (call (.ref C) us) (EP X pins σ Q) X.xe s:=by
 have hq:=h (s.heap.objs.size+1) s.heap.objs.size (I.Ya.fresh (Nat.le_succ _)) (I.Ya.fresh (ZM _)) (Za (V8 _));have I2:=Inv.made (C:=C) I;have r2:Vals (V.ref (s.heap.objs.size+1)::(vs++KN)) (Value.ref (s.heap.objs.size+1)::(us++ds)):=.cons Y (r.append hd);have hl:(Value.ref (s.heap.objs.size+1)::us++ds).length=ps.length:=by
  have e:=r2.length;rw[F.len _ _ _ _ hq]at e;exact e.symm
 refine wpAny_call (AV (f:=f) I.Fm M.makes M.init (Xl.mp M.fn) (codeAny_mono (F.run _ X.stack _ _ ⟨Value.ref (s.heap.objs.size+1)::us,[]⟩ (Value.ref (s.heap.objs.size+1)::(us++ds)) _ _ E (hr.make C us [])
  (I2.qE.make C us []) (O _ (Value.ref (s.heap.objs.size+1)::us) I2.Fm hl) r2 hq) fun r s' DG=>?_))
 cases r with
 |error e=>exact hx pins σ _ _ e s' I2 DG
 |ok fl=>
  cases fl with
  |ret u=>
   obtain⟨v,H',I3,rv,ev,q3⟩:=I2.after DG;subst ev;exact⟨rv,⟨V.ref (s.heap.objs.size+1),H',I3,Y,q3⟩⟩
  |next=>exact False.elim DG
  |brk=>exact False.elim DG
  |cont=>exact False.elim DG
theorem xP(M:Mk X.K C f)(F:Y' X.prog X.w X.K X.mg X.base CX k f fd ps sp)(hr:WA (k+1) X.A)(hg:Gl X x)(hm:X.mg x=some (.ref C))(O:Binds X.K fd ps ds)(hd:Vals KN ds)(hx:Passes CX X E)(ha:PA X (e::es) t)(E4:(x==("__debug__":Str))=false:=by decide)(he:starEach (e::es) X.env=(false,eval e X.env)::starEach es X.env:=by rfl)(KL:(backTo pos (starEach es X.env)).any (·.1)=false:=by rfl):PE X (.Call (.Name x p) (e::es) [] pos) (DJ C sp KN E t):=by
 intro pins s σ H Q I h;refine UW (MK I hg hm ?_ E4);refine W.callWith_K (h₀:=X.base) I.ok.mod.qZ M.kp (Yg (ha pos pins s σ H _ I h) fun us s1 ⟨vs,H1,I1,r,q⟩=>⟨I1.Fm,?_⟩) he KL;exact Hl M F hr O hd hx I1 r q
theorem AS(M:Mk X.K C f)(F:Y' X.prog X.w X.K X.mg X.base CX k f fd ps sp)(hr:WA (k+1) X.A)(hg:Gl X x)(hm:X.mg x=some (.ref C))(O:Binds X.K fd ps ds)(hd:Vals KN ds)(hx:Passes CX X E)(E4:(x==("__debug__":Str))=false:=by decide):PE X (.Call (.Name x p) [] [] pos) (DJ C sp KN E Ck):=by
 intro pins s σ H Q I h;refine UW (MK I hg hm ?_ E4);exact W.callWith_K0 I.Fm M.kp (Hl (us:=[]) M F hr O hd hx I .nil h)
end
def PK(X:Cx)(qD:List Keyword)(t:TA):Prop:=
 ∀(pos:Pos)(pins:List (Addr×Obj))(s:Shared)(σ:St)(H:Hp)(Q:List V->Hp->Prop),Inv X pins σ H s->t σ H Q->wpAny (model X.prog X.w) X.A (evalAll ((backToKw pos (keywordEach qD X.env)).map (·.2))) (AP X pins σ Q) X.xe s
section
variable{X:Cx}{CX:Be}{k:Nat}{f C:Addr}{fd:FuncData}{ps ks:List Str}{sp:Sp}{E:XK}{x m:Str}{p pos apos xO:Pos}{e o:Expr}{es:List Expr}{qD:List Keyword}{te ta:TE}{t tk:TA}{nm:Option Str}
theorem uf:PK X [] Ck:=fun _ _ _ _ H Q I h=>wpAny_evalAll_nil ⟨[],H,I,.nil,h⟩
theorem xN(ha:PE X e te)(hr:PK X qD t):PK X (⟨nm,e,xO⟩::qD) (vp te t):=by
 intro pos pins s σ H Q I h;show wpAny _ _ (evalAll ((do let v<-eval e X.env;standAt pos;pure v)::(backToKw pos (keywordEach qD X.env)).map (·.2))) _ _ s;refine wpAny_evalAll_cons (ZV (Yg (ha pins s σ H _ I h) fun u s1 ⟨x,H1,I1,r1,q1⟩=>ZV (wpAny_standAt (Zt ?_))));exact Yg (hr pos pins s1 σ H1 _ I1 q1) fun us s2 ⟨xs,H2,I2,r2,q2⟩=>⟨x::xs,H2,I2,.cons r1 r2,q2⟩
variable{g:List Value->List Value->List Value}{gV:List V->List V->List V}
end
structure ZN(N P:List Str)(sc:Scope):Prop where
 kind:sc.kind=.function
 co:sc.isCoroutine=false
 gen:sc.isGenerator=false
 nd:N.Nodup
 pre:N.take P.length=P
 par:∀x∈P,sc.names.lookup x=some .local\/sc.names.lookup x=some .cell
 ue:∀y∈sc.names,y.2≠.free
theorem Ka{kindOf:Str->Option NameKind}{x:Str}:∀{binds:List (Str×Value)}{m:Str->Option Value},(∀v,(x,v)∉binds)->bindL kindOf binds m x=m x
 |[],_,_=>rfl
 |(n,v)::r,m,h=>by
  unfold bindL;rw[Ka fun w hw=>h w (Zh _ hw)];split
  ·have:x≠n:=by rintro rfl;exact h v YM
   simp[this]
  ·rfl
theorem J'{kindOf:Str->Option NameKind}{x:Str}:∀{binds:List (Str×Value)}{m:Str->Option Value},(∀v,(x,v)∉binds)->bindC kindOf binds m x=m x
 |[],_,_=>rfl
 |(n,v)::r,m,h=>by
  unfold bindC;rw[J' fun w hw=>h w (Zh _ hw)];split;·rfl
  ·have:x≠n:=by rintro rfl;exact h v YM
   simp[this]
theorem J_{kindOf:Str->Option NameKind}{x:Str}{v:Value}:∀{P:List Str}{vs:List Value}{i:Nat}{m:Str->Option Value},P.Nodup->P[i]?=some x->vs[i]?=some v->kindOf x=some .local->bindL kindOf (P.zip vs) m x=some v
 |[],_,_,_,_,h,_,_=>by simp at h
 |_::_,[],_,_,_,_,h,_=>by simp at h
 |p::P,w::vs,0,m,nd,J,h2,hk=>by
  simp at J h2;subst J;subst h2;show bindL kindOf ((p,w)::P.zip vs) m p=_;unfold bindL;rw[Ka fun v hv=>(Ww.mp nd).1 (List.of_mem_zip hv).1,Z7 hk];simp
 |p::P,w::vs,i+1,m,nd,J,h2,hk=>by
  show bindL kindOf ((p,w)::P.zip vs) m x=_;unfold bindL;exact J_ (i:=i) (Ww.mp nd).2 (by simpa using J) (by simpa using h2) hk
theorem J9{kindOf:Str->Option NameKind}{x:Str}{v:Value}:∀{P:List Str}{vs:List Value}{i:Nat}{m:Str->Option Value},P.Nodup->P[i]?=some x->vs[i]?=some v->kindOf x≠some .local->bindC kindOf (P.zip vs) m x=some v
 |[],_,_,_,_,h,_,_=>by simp at h
 |_::_,[],_,_,_,_,h,_=>by simp at h
 |p::P,w::vs,0,m,nd,J,h2,hk=>by
  simp at J h2;subst J;subst h2;show bindC kindOf ((p,w)::P.zip vs) m p=_;unfold bindC;rw[J' fun v hv=>(Ww.mp nd).1 (List.of_mem_zip hv).1,Z8 hk];simp
 |p::P,w::vs,i+1,m,nd,J,h2,hk=>by
  show bindC kindOf ((p,w)::P.zip vs) m x=_;unfold bindC;exact J9 (i:=i) (Ww.mp nd).2 (by simpa using J) (by simpa using h2) hk
def start(N:List Str)(vs:List V):St:=vs.map some++List.replicate (N.length-vs.length) none
def Cj(CX:Be)(P:Program)(w:World)(K:W.Frag)(mg:Str->Option Value)(base:Heap)(N:List Str)(qual:Str)(scope:Scope)(f:Addr)(cd:Value)(A:Around)(outer:List Env)(s:Shared)(H:Hp)(E:XK):Cx where
 prog:=P
 w:=w
 K:=K
 mg:=mg
 base:=base
 A:=A.deeper (envOfC qual scope s.heap.objs.size f cd)
 N:=N
 Kg:=s
 qY:=H
 env:=envOfC qual scope s.heap.objs.size f cd
 outer:=outer
 stack:=envOfC qual scope s.heap.objs.size f cd::outer
 ex:=[]
 calm:=true
 fn:=fun _=>true
 pn:=[]
 xe:=fun e s'=>wpAny (model P w) (A.deeper (envOfC qual scope s.heap.objs.size f cd)) (leaving (envOfC qual scope s.heap.objs.size f cd) e) (fun _ my=>CX outer H s E e my) (fun e' my=>CX outer H s E e' my) s'
theorem Hk{sc:Scope}{n:Nat}{x:Str}(h:sc.names.lookup x=some .cell):∃c,(cellsFrom n sc.names []).lookup x=some c:=by
 have q:=W.cellsFrom_some sc.names n [] (.inl h);exact Option.isSome_iff_exists.mp q
theorem Ci{CX:Be}{P:Program}{w:World}{K:W.Frag}{mg:Str->Option Value}{base:Heap}{N ps:List Str}{qual:Str}{scope:Scope}{f:Addr}{cd:Value}{A:Around}{outer:List Env}{s s1:Shared}{H:Hp}{E:XK}{us:List Value}{vs:List V}(S:ZN N ps scope)(hd:A.handled=none)(e0:E6 P w K mg base A outer s H)(hl:vs.length=ps.length)(r:Vals vs us)(x:InCallC s s.heap.objs.size (bindL (envOfC qual scope s.heap.objs.size f cd).kindOf (ps.zip us) fun _=>none) (cellsFrom (s.heap.objs.size+1) scope.names []) (bindC (envOfC qual scope s.heap.objs.size f cd).kindOf (ps.zip us) fun _=>none) s1):Inv (Cj CX P w K mg base N qual scope f cd A outer s H E) [] (start N vs) H s1:=by
 have KL:ps.length<=N.length:=by have:=congrArg List.length S.pre;rw[XE]at this;omega
 obtain⟨J,tk,rfl,hk⟩:=x.done;have rR:∀b:Addr,b∉(Cj CX P w K mg base N qual scope f cd A outer s H E).ex:=fun b z=>absurd (show b∈([]:List Addr)from z) (by simp);refine⟨⟨e0.mod,S.kind,Y,Y,ZM _,fun y z c J h2=>?_,fun y hy=>?_,fun y c _ h=>?_,fun _=>hd,Around.frames_deeper e0.frames,.inr ⟨Y,Y⟩,fun b z=>absurd z (rR b),e0.bs,e0.ym,fun b _ _=>rR b,fun b z=>absurd z (rR b),e0.M9,e0.uA,e0.tree,⟨_,_,Y,S.gen,S.co,Y,Y⟩⟩,
  rfl,e0.bare,Un.kept hk,⟨_,x.toInCall.ns,fun i y v J h2 h3=>?_⟩,fun y c h=>⟨_,x.cell y c h⟩,e0.Ya.fresh (ZM _),fun y c h=>?_,fun p hp=>absurd (show p∈([]:List (Addr×Obj))from hp) (by simp),e0.Ya.kept hk,?_⟩
 ·exact name_of_addr x.apart (Yn J) (Yn h2)
 ·have hy:scope.names.lookup y=some .cell\/scope.names.lookup y=some .free:=hy;rcases hy with hy|hy;·exact Hk hy
  ·exact absurd rfl (S.ue _ (Yn hy))
 ·exact Y5 (x.above y c (Yn h))
 ·have hi:i<vs.length:=by
   unfold start at h2;by_cases hi:i<vs.length;·exact hi
   ·rw[UO (by simpa using hi)]at h2;rw[PQ]at h2;split at h2<;>cases h2
  have ha:vs[i]?=some v:=by
   unfold start at h2;rw[V_ (by simpa using hi),Zf]at h2;cases e:vs[i]?with
   |none=>rw [e]at h2;cases h2
   |some a=>rw [e]at h2;cases h2;rfl
  obtain⟨u,hu,rv⟩:=r.get ha;have hp:ps[i]?=some y:=by rw[<-S.pre,List.getElem?_take_of_lt (by omega)];exact J
  have jc:ps.Nodup:=by rw[<-S.pre];exact S.nd.sublist (List.take_sublist _ _)
  refine⟨u,rv,?_⟩;rcases S.par y (Y9 hp)with k|k;·exact .inl ⟨k,J_ jc hp hu k⟩
  ·obtain⟨c,e⟩:=Hk (n:=s.heap.objs.size+1) k;refine .inr ⟨.inl k,c,e,?_⟩;have q:=x.cell y c e;rw[J9 jc hp hu (by show scope.names.lookup y≠_;rw[k];decide)]at q;exact q
 ·exact e0.Ya.fresh (Y5 (x.above y c (Yn h)))
 ·unfold start;show _=N.length;rw[ZI,Z3,List.length_replicate];omega
theorem qC{CX:Be}{P:Program}{w:World}{K:W.Frag}{mg:Str->Option Value}{base:Heap}{k:Nat}{f:Addr}{name qual:Str}{params:Arguments}{body:List Stmt}{scope:Scope}{dV kV doc pm Yx ct oc:Value}{an od:Option Addr}{xM:Array (Option Value)}{N ps:List Str}{sp:Sp}(lk:K.lookup f=some ⟨oc,od,.func (W.fnOf name qual params body scope dV kV doc pm an Yx ct),xM⟩)(Bg:W.codeIn K Yx qual=true)(S:ZN N ps scope)(len:∀vs H Q E,sp vs H Q E->vs.length=ps.length)(AR:∀(A:Around)(outer:List Env)(s:Shared)(H:Hp)(vs:List V)(Q:VK)(E:XK),WA k (A.deeper (envOfC qual scope s.heap.objs.size f Yx))->sp vs H Q E->∃t,Ct (Cj CX P w K mg base N qual scope f Yx A outer s H E) body t/\t {nx:=fun _ H'=>Q .Xs H',rt:=Q} (start N vs) H):Y' P w K mg base CX (k+1) f (W.fnOf name qual params body scope dV kV doc pm an Yx ct) ps sp:=by
 refine⟨len,fun A outer s H args us vs Q E hr e0 O r yi=>?_⟩;have hl:=len _ _ _ _ yi;have KX:K.In s.heap:=e0.mod.qZ.keeps fun b o e=>(e0.bs b o e).1;have lim:s.heap.NoLimit:=e0.mod.nolimit.keeps fun b o e=>(e0.bs b o e).1;have qB:∀y∈ps.zip us,scope.names.lookup y.1=some .local\/(scope.names.lookup y.1=some .cell/\((cellsFrom (s.heap.objs.size+1) scope.names []).lookup y.1).isSome=true):=fun⟨n,v⟩ hy=>by
  rcases S.par n (List.of_mem_zip hy).1 with q|q;·exact .inl q
  ·exact .inr ⟨q,W.cellsFrom_some _ _ _ (.inl q)⟩
 refine codeAny_call_function hr.depth (KX _ _ lk) rfl S.co S.gen Y (W.codeRec_of KX Bg) (O _ _ _ _ ?_);refine wpAny_newFunctionEnv_cells S.kind qB fun env he s1 x=>?_;subst he;refine⟨lim.keeps x.toInCall.keep,codeAny_func ?_⟩;obtain⟨t,ht,hq⟩:=AR A outer s H vs Q E (hr.deeper _) yi;have I:Inv (Cj CX P w K mg base N qual scope f Yx A outer s H E) [] (start N vs) H s1:=Ci S hr.hd e0 hl r x;refine X' (ht [] s1 (start N vs) H _ I hq) (fun fl s' hs=>?_) fun e s' hs=>hs;have fin:∀{XQ:St}{H':Hp}{v:V}{u:Value},Inv (Cj CX P w K mg base N qual scope f Yx A outer s H E) [] XQ H' s'->RelV v u->Q v H'->CE outer P w H s Q u s':=
  fun{XQ H' v u} Z_ rv q=>⟨v,H',Z_.os,Z_.bare,Z_.base,Z_.Ya,rv,q⟩
 cases fl with
 |ret u=>
  obtain⟨v,XQ,H',Z_,rv,q⟩:=hs;exact fin Z_ rv q
 |next=>
  obtain⟨XQ,H',Z_,q⟩:=hs;exact fin (v:=V.Xs) (u:=Value.none) Z_ Y q
 |brk=>
  obtain⟨_,_,_,q⟩:=hs;exact False.elim q
 |cont=>
  obtain⟨_,_,_,q⟩:=hs;exact False.elim q
end L2
namespace L2
open PySem PySem.Spec PyProof.Rows
section
variable{X:Cx}{x:Str}{p pos:Pos}{e:Expr}{es:List Expr}{t:TA}{id T:String}{r:List V->Hp->VK->Prop}
def jb(r:List V->Hp->VK->Prop)(t:TA):TE:=fun σ H Q=>t σ H fun vs H1=>r vs H1 Q
theorem YV(hc:N4 X (.builtin id) r)(hg:Gl X x)(hm:X.mg x=none)(hv:bootBuiltins x=some (.builtin id))(ha:PA X (e::es) t)(hn:x≠"__name__":=by decide)(E4:(x==("__debug__":Str))=false:=by decide)(he:starEach (e::es) X.env=(false,eval e X.env)::starEach es X.env:=by rfl)(KL:(backTo pos (starEach es X.env)).any (·.1)=false:=by rfl):PE X (.Call (.Name x p) (e::es) [] pos) (jb r t):=by
 intro pins s σ H Q I h;refine UW (OB I hg hm hv ?_ hn E4);exact PyProof.Rows.callWith_builtin1 (Yg (ha pos pins s σ H _ I h) fun us s1 ⟨vs,H1,I1,r1,q1⟩=>hc pins s1 σ H1 vs us Q I1 r1 q1) he KL
theorem VI(hc:N4 X (.type T) r)(hg:Gl X x)(hm:X.mg x=none)(hv:bootBuiltins x=some (.type T))(ha:PA X (e::es) t)(hn:x≠"__name__":=by decide)(E4:(x==("__debug__":Str))=false:=by decide)(he:starEach (e::es) X.env=(false,eval e X.env)::starEach es X.env:=by rfl)(KL:(backTo pos (starEach es X.env)).any (·.1)=false:=by rfl):PE X (.Call (.Name x p) (e::es) [] pos) (jb r t):=by
 intro pins s σ H Q I h;refine UW (OB I hg hm hv ?_ hn E4);exact PL (Yg (ha pos pins s σ H _ I h) fun us s1 ⟨vs,H1,I1,r1,q1⟩=>hc pins s1 σ H1 vs us Q I1 r1 q1) he KL
end
end L2
namespace HT
open PySem PyProof.Rows
section
variable{prog:Program}{w:World}{A:Around}{E:Value->Shared->Prop}{s:Shared}
def Hj(n d:Nat):Option Int->Nat
 |none=>d
 |some v=>if v<0 then(v+(n:Int)).toNat else min v.toNat n
theorem AQ(n d:Nat):Hj n d none=d:=rfl
theorem Jh(n d k:Nat):Hj n d (some (k:Int))=min k n:=by
 show(if(k:Int)<0 then((k:Int)+(n:Int)).toNat else min (k:Int).toNat n)=min k n;rw[Z8 (by omega),Int.toNat_natCast]
end
end HT
namespace L2
open PySem PySem.Spec PyProof.Rows
abbrev TO:=St->Hp->(Option Int->Hp->Prop)->Prop
def PO(X:Cx)(e:Option Expr)(t:TO):Prop:=
 ∀(pins:List (Addr×Obj))(s:Shared)(σ:St)(H:Hp)(Q:Option Int->Hp->Prop),Inv X pins σ H s->t σ H Q->
  wpAny (model X.prog X.w) X.A (evalPart e X.env) (fun u s'=>∃o H',Inv X pins σ H' s'/\IsPart u o/\Q o H') X.xe s
def xK:TO:=fun _ H Q=>Q none H
def qA(t:TE):TO:=fun σ H Q=>t σ H fun x H1=>∃i,x=.int i/\Q (some i) H1
section
variable{X:Cx}{e:Expr}{te:TE}{lo hi:Option Expr}{tl th:TO}{pos p2:Pos}
theorem xJ:PO X none xK:=by
 intro pins s σ H Q I h;rw[evalPart_none];exact Zt ⟨none,H,I,.none,h⟩
theorem Jg(h:PE X e te):PO X (some e) (qA te):=by
 intro pins s σ H Q I hw;rw[evalPart_some];refine Yg (h pins s σ H _ I hw) fun u s1 ⟨x,H1,I1,r1,q1⟩=>?_;obtain⟨i,rfl,q⟩:=q1;obtain⟨t,rfl⟩:=r1;exact⟨some i,H1,I1,.int i t,q⟩
def ja(X:Cx)(r:V->Option Int->Option Int->Hp->VK->Prop):Prop:=
 ∀(pins:List (Addr×Obj))(s:Shared)(σ:St)(H:Hp)(x:V)(v vl vu:Value)(lo hi:Option Int)(sl:Addr)(Q:VK),Inv X pins σ H s->RelV x v->s.heap.IsSliceOf sl vl vu .none->IsPart vl lo->IsPart vu hi->r x lo hi H Q->
  ∃T id,typeLookup (.type T) "__getitem__"=pure (some (.builtin id))/\s.TypeIs v T/\wpAny (model X.prog X.w) X.A (getItem v (.ref sl)) (EP X pins σ Q) X.xe s
def fV(r:V->Option Int->Option Int->Hp->VK->Prop)(te:TE)(tl th:TO):TE:=fun σ H Q=>te σ H fun x H1=>tl σ H1 fun l H2=>th σ H2 fun u H3=>r x l u H3 Q
theorem Hi{r:V->Option Int->Option Int->Hp->VK->Prop}(hr:ja X r)(he:PE X e te)(hl:PO X lo tl)(hu:PO X hi th):PE X (.Subscript e (.Slice lo hi none p2) pos) (fV r te tl th):=by
 intro pins s σ H Q I h;refine Subscript_ (Yg (he pins s σ H _ I h) fun v s1 ⟨x,H1,I1,r1,q1⟩=>?_);refine wpAny_Slice (Yg (hl pins s1 σ H1 _ I1 q1) fun vl s2 ⟨l,H2,I2,pl,q2⟩=>Yg (hu pins s2 σ H2 _ I2 q2) fun vu s3 ⟨u,H3,I3,pu,q3⟩=>?_);rw[evalPart_none];refine Zt ?_;have I4:Inv X pins σ H3 {s3 with heap:=s3.heap.push {cls:=.type "slice",data:=.fields #[vl,vu,.none]}}:=I3.kept (t':=s3.toks) fun b ob q=>YF _ q;obtain⟨T,id,hT,ht,hg⟩:=hr pins {s3 with heap:=s3.heap.push {cls:=.type "slice",data:=.fields #[vl,vu,.none]}} σ H3 x v vl vu l u s3.heap.objs.size Q I4 r1 (Heap.IsSliceOf.new ..) pl pu q3;show wpAny (model X.prog X.w) X.A (subscriptTail e (.Slice lo hi none p2) v (.ref s3.heap.objs.size)) (EP X pins σ Q) X.xe {s3 with heap:=s3.heap.push {cls:=.type "slice",data:=.fields #[vl,vu,.none]}};exact tail_any (ops:=[.ref s3.heap.objs.size,v]) ht hT hg (by with_unfolding_all rfl)
def Jf(xs:List V)(lo hi:Option Int):List V:=(xs.drop (HT.Hj xs.length 0 lo)).take (HT.Hj xs.length xs.length hi-HT.Hj xs.length 0 lo)
theorem Hh(xs:List V)(lo hi:Option Int):(Jf xs lo hi).length<=xs.length:=by
 unfold Jf;rw[XE,List.length_drop];omega
end
end L2
namespace L2
open PySem PySem.Spec PyProof.Rows
def Cg(n:Nat)(i:Int):Option Nat:=if 0<=i then(if i<n then some i.toNat else none)else if-(n:Int)<=i then some (i+n).toNat else none
def Q6{α:Type}(xs:List α)(i:Int):Option α:=(Cg xs.length i).bind fun j=>xs[j]?
theorem DF{n:Nat}{i:Int}{j:Nat}(h:Cg n i=some j):seqIndex? i n=some j/\j<n/\-(n:Int)<=i/\i<n:=by
 unfold Cg at h;by_cases h0:0<=i
 ·rw[Z7 h0]at h;by_cases J:i<n
  ·rw[Z7 J]at h;have e:i.toNat=j:=Zb h;exact⟨by rw[seqIndex_of h0 J,e],by omega,by omega,J⟩
  ·rw[Z8 J]at h;cases h
 ·rw[Z8 h0]at h;by_cases J:-(n:Int)<=i
  ·rw[Z7 J]at h;have e:(i+n).toNat=j:=Zb h;exact⟨by rw[seqIndex_neg (by omega) J,e],by omega,J,by omega⟩
  ·rw[Z8 J]at h;cases h
theorem Je{α:Type}{xs:List α}{i:Int}{v:α}(h:Q6 xs i=some v):∃j,seqIndex? i xs.length=some j/\xs[j]?=some v/\j<xs.length/\-(xs.length:Int)<=i/\i<xs.length:=by
 unfold Q6 at h;cases e:Cg xs.length i with
 |none=>rw [e]at h;cases h
 |some j=>
  rw[e]at h;obtain⟨J,h2,h3,h4⟩:=DF e;exact⟨j,J,h,h2,h3,h4⟩
theorem S1{α:Type}{xs:List α}{j:Nat}{v:α}(h:xs[j]?=some v):Q6 xs (j:Int)=some v:=by
 have hj:j<xs.length:=(ZC.mp h).1;have e:Cg xs.length (j:Int)=some j:=by
  unfold Cg;rw[Z7 (by omega),Z7 (by omega)];simp
 unfold Q6;rw[e];exact h
theorem Hf{α:Type}(xs:List α)(v:α):Q6 (xs++[v]) (-1)=some v:=by
 have hl:(xs++[v]).length=xs.length+1:=by simp
 have e:Cg (xs++[v]).length (-1)=some xs.length:=by
  unfold Cg;rw[hl,Z8 (by decide),Z7 (by omega)];congr 1;omega
 unfold Q6;rw[e];show(xs++[v])[xs.length]?=some v;simp
def xI(b:Expr):Prop:=∀o i,subscripted b false o i=operate [o,i] (getItem o i)
def oj(X:Cx)(r:R2):Prop:=
 ∀(value slice:Expr)(pins:List (Addr×Obj))(s:Shared)(σ:St)(H:Hp)(x y:V)(v u:Value)(Q:VK),Inv X pins σ H s->RelV x v->RelV y u->r x y H Q->
  subscripted slice false v u=operate [v,u] (getItem v u)->wpAny (model X.prog X.w) X.A (subscriptTail value slice v u) (EP X pins σ Q) X.xe s
def i_(X:Cx)(id:String)(r:V->List V->Hp->VK->Prop):Prop:=
 ∀(pins:List (Addr×Obj))(s:Shared)(σ:St)(H:Hp)(x:V)(xs:List V)(v:Value)(us:List Value)(Q:VK),Inv X pins σ H s->RelV x v->Vals xs us->r x xs H Q->
  wpAny (model X.prog X.w) X.A (call (.builtin id) (v::us)) (EP X pins σ Q) X.xe s
section
variable{X:Cx}{a b:Expr}{ta tb:TE}{pos:Pos}
theorem ZL{r:R2}(hr:oj X r)(ha:PE X a ta)(O:PE X b tb)(hs:xI b):PE X (.Subscript a b pos) (oo r ta tb):=by
 intro pins s σ H Q I h;exact Subscript_ (uj ha O I h fun v u s2 x y H2 I2 rx ry q=>hr a b pins s2 σ H2 x y v u Q I2 rx ry q (hs _ _))
def qz(K:W.Frag):R2:=fun x y H Q=>∃p xs i v,x=.ref p/\y=.int i/\Zz K H p xs/\Q6 xs i=some v/\Q v H
def mx(K:W.Frag):R2:=fun x y H Q=>∃p xs i v,x=.ref p/\y=.int i/\Vj K H p xs/\Q6 xs i=some v/\Q v H
theorem ZO:oj X (qz X.K):=by
 intro value slice pins s σ H x y v u Q I rx ry h hs;obtain⟨p,xs,i,z,rfl,rfl,hq,he,q⟩:=h;cases rx;obtain⟨t,rfl⟩:=ry;obtain⟨Y_,r,pl,hz⟩:=I.list hq;obtain⟨j,J,h2,h3,h4,h5⟩:=Je he;obtain⟨w,ew,Cf⟩:=r.get h2;have hl:=r.length;have hn:=Mr;have fin:EP X pins σ Q w s:=⟨z,H,I,Cf,q⟩;by_cases h0:0<=i
 ·have hj:i.toNat=j:=by
   rw[seqIndex_of h0 h5]at J;exact Zb J
  exact item_listR pl.isList h0 (by omega) (by rw[hj];simpa using ew) fin hs
 ·have hj:(i+(Y_.toArray.size:Int)).toNat=j:=by
   rw[seqIndex_neg (by omega) h4]at J;rw[Y6,<-hl];exact Zb J
  exact subscriptTail_builtinR (x:=w) pl.isList.typeIs slot_list_getitem.lookup
   (wpAny_getItem_list_neg (Q:=fun r s'=>r=w/\EP X pins σ Q r s') pl.isList (by omega) (by rw[Y6]<;>omega) (by omega) (by rw[hj];simpa using ew) ⟨Y,fin⟩) hs
theorem Yr:oj X (mx X.K):=by
 intro value slice pins s σ H x y v u Q I rx ry h hs;obtain⟨p,xs,i,z,rfl,rfl,hq,he,q⟩:=h;cases rx;obtain⟨t,rfl⟩:=ry;obtain⟨Y_,r,pl,hz⟩:=I.tuple hq;obtain⟨j,J,h2,h3,h4,h5⟩:=Je he;obtain⟨w,ew,Cf⟩:=r.get h2;have hl:=r.length;have hn:=Mr;have fin:EP X pins σ Q w s:=⟨z,H,I,Cf,q⟩;exact subscriptTail_builtinR (x:=w) pl.typeIs slot_tuple_getitem.lookup
  (getItem_tuple (j:=j) (Q:=fun r s'=>r=w/\EP X pins σ Q r s') pl (by omega) (by omega) (by rw[Y6,<-hl];exact J) (by simpa using ew) ⟨Y,fin⟩) hs
theorem E3(Y_:List Value)(n j:Nat)(u:Value):Obj.mapSeq (·.setIfInBounds j u) {cls:=.type "list",data:=.seq Y_.toArray n}={cls:=.type "list",data:=.seq (Y_.set j u).toArray n}:=by simp[Obj.mapSeq]
theorem Inv.lst{pins:List (Addr×Obj)}{σ:St}{H:Hp}{s:Shared}{p:Addr}{xs:List V}(I:Inv X pins σ H s)(h:H p=some (.lst xs)):∃(Y_:List Value) (n:Nat),Vals xs Y_/\s.heap.get? p=some {cls:=.type "list",data:=.seq Y_.toArray n}/\xs.length<=sizeLine:=by
 obtain⟨z,Y_,n,r,e⟩:=I.Ya p _ h;exact⟨Y_,n,r,e,z⟩
theorem Inv.ud{pins:List (Addr×Obj)}{σ:St}{H:Hp}{s:Shared}{p:Addr}{xs ys:List V}{Y_ its':List Value}{n n':Nat}{f:Obj->Obj}(I:Inv X pins σ H s)(h:H p=some (.lst xs))(ho:s.heap.get? p=some {cls:=.type "list",data:=.seq Y_.toArray n})(hf:f {cls:=.type "list",data:=.seq Y_.toArray n}={cls:=.type "list",data:=.seq its'.toArray n'})(r:Vals ys its')(hz:ys.length<=sizeLine)(t:Nat):Inv X pins σ (upd H p (.lst ys)) {s with heap:=s.heap.update p f,toks:=t}:=by
 have e:(s.heap.update p f).get? p=some {cls:=.type "list",data:=.seq its'.toArray n'}:=by rw[Heap.get?_update_self f ho (by rw[hf]<;>rfl),hf]
 refine I.write (x:=p) (e:=p) (by rw[h];trivial) (.inl Y) (fun b u O q=>(UK _ _ (Xo O)).trans q) ⟨_,e⟩ ?_;exact⟨hz,its',n',r,e⟩
def qy:V->V->V->Hp->(Hp->Prop)->Prop:=fun o i v H Q=>∃p xs k j,o=.ref p/\i=.int k/\H p=some (.lst xs)/\Cg xs.length k=some j/\Q (upd H p (.lst (xs.set j v)))
theorem set_list:ur X qy:=by
 intro pins s σ H o i v ov iv u Q I ro ri rv h;obtain⟨p,xs,k,j,rfl,rfl,hp,hj,q⟩:=h;cases ro;obtain⟨t,rfl⟩:=ri;obtain⟨Y_,n,r,ho,hz⟩:=I.lst hp;obtain⟨J,h2,h3,h4⟩:=DF hj;have hl:=r.length;have hn:=Mr;have I':Inv X pins σ (upd H p (.lst (xs.set j v))) {s with heap:=s.heap.update p (Obj.mapSeq (·.setIfInBounds j u))}:=
  I.ud hp ho (E3 Y_ n j u) (r.set rv j) (by rw[List.length_set];exact hz) s.toks
 by_cases h0:0<=k
 ·have hk:k.toNat=j:=by
   rw[seqIndex_of h0 h4]at J;exact Zb J
  exact W.ki_setAt ho h0 (by omega) (by rw[Y6,<-hl];exact h4) (by rw[hk];exact⟨_,I',q⟩)
 ·have hk:(k+(Y_.toArray.size:Int)).toNat=j:=by
   rw[seqIndex_neg (by omega) h3]at J;rw[Y6,<-hl];exact Zb J
  exact W.ki_setBack ho (by omega) (by rw[Y6,<-hl];exact h3) (by omega) (by rw[hk];exact⟨_,I',q⟩)
theorem Jd(lo hi:Option Int)(n:Nat):(sliceBounds lo hi none n).1=((HT.Hj n 0 lo:Nat):Int)/\(sliceBounds lo hi none n).2.1=((HT.Hj n n hi:Nat):Int)/\(sliceBounds lo hi none n).2.2=1:=by
 refine⟨?_,?_,Y⟩
 ·cases lo with
  |none=>simp [sliceBounds,HT.Hj]
  |some i=>
   simp only[sliceBounds,HT.Hj,Option.getD_none,show(1:Int)>0 by decide,if_true];by_cases h:i<0;·simp only[h,if_true]<;>omega
   ·simp only[h,if_false]<;>omega
 ·cases hi with
  |none=>simp [sliceBounds,HT.Hj]
  |some i=>
   simp only[sliceBounds,HT.Hj,Option.getD_none,show(1:Int)>0 by decide,if_true];by_cases h:i<0;·simp only[h,if_true]<;>omega
   ·simp only[h,if_false]<;>omega
theorem KJ(Y_:List Value)(lo hi:Option Int):slicePick Y_.toArray lo hi none=((Y_.drop (HT.Hj Y_.length 0 lo)).take (HT.Hj Y_.length Y_.length hi-HT.Hj Y_.length 0 lo)).toArray:=by
 obtain⟨J,h2,h3⟩:=Jd lo hi Y_.toArray.size;unfold slicePick;rw[J,h2,h3];simp only[sliceRange_one,pick_run,Y6]<;>rfl
def mw(K:W.Frag):V->Option Int->Option Int->Hp->VK->Prop:=fun x lo hi H Q=>∃a xs,x=.ref a/\Zz K H a xs/\∀p,H p=none->Q (.ref p) (upd H p (.lst (Jf xs lo hi)))
theorem DE:ja X (mw X.K):=by
 intro pins s σ H x v vl vu lo hi sl Q I rx hs pl pu h;obtain⟨a,xs,rfl,hx,q⟩:=h;cases rx;obtain⟨Y_,r,ht,hz⟩:=I.list hx;have hlen:=r.length;refine⟨"list",_,slot_list_getitem.lookup,ht.isList.typeIs,?_⟩;refine wpAny_getItem_list_slice ht.isList hs pl pu .none (by simp) ?_ (by rw[Y6]<;>omega);rw[KJ,<-hlen];refine⟨.ref s.heap.objs.size,_,I.laid (t':=s.toks) (o:=.lst (Jf xs lo hi)) (fun b ob q=>YF _ q) (ZM _) ?_,Y,q _ (I.Ya.fresh (ZM _))⟩;exact⟨ZE (Hh xs lo hi) hz,_,0,(r.drop (HT.Hj xs.length 0 lo)).take (HT.Hj xs.length xs.length hi-HT.Hj xs.length 0 lo),Xn _ rfl⟩
def PB:V->Bool
 |.Xs=>true
 |.bl _=>true
 |.int _=>true
 |.str _=>true
 |_=>false
def vm:V->V->Bool
 |.Xs,.Xs=>true
 |.bl a,.bl b=>a==b
 |.bl a,.int b=>(if a then 1 else 0)==b
 |.int a,.bl b=>a==(if b then 1 else 0)
 |.int a,.int b=>a==b
 |.str a,.str b=>a==b
 |_,_=>false
theorem uc{A:Around}{s:Shared}{y x:V}{u v:Value}(ry:RelV y u)(rx:RelV x v)(fy:PB y=true)(fx:PB x=true):SeqAt.EqAt A s u v (vm y x):=by
 cases y with
 |Xs=>
  cases ry;cases x with
  |Xs=>cases rx;exact SeqAt.EqAt.same _
  |bl b=>cases rx;exact SeqAt.EqAt.none_bool b
  |int b=>obtain ⟨t,rfl⟩:=rx;exact SeqAt.EqAt.none_int b t
  |str b=>obtain ⟨t,rfl⟩:=rx;exact SeqAt.EqAt.none_str b t
  |_=>exact absurd (show false=true from fx) Yz
 |bl a=>
  cases ry;cases x with
  |Xs=>cases rx;exact SeqAt.EqAt.bool_none a
  |bl b=>cases rx;exact SeqAt.EqAt.bool_bool a b
  |int b=>obtain ⟨t,rfl⟩:=rx;exact SeqAt.EqAt.bool_int a b t
  |str b=>obtain ⟨t,rfl⟩:=rx;exact SeqAt.EqAt.bool_str a b t
  |_=>exact absurd (show false=true from fx) Yz
 |int a=>
  obtain⟨t',rfl⟩:=ry;cases x with
  |Xs=>cases rx;exact SeqAt.EqAt.int_none a t'
  |bl b=>cases rx;exact SeqAt.EqAt.int_bool a t' b
  |int b=>obtain ⟨t,rfl⟩:=rx;exact SeqAt.EqAt.int_int a t' b t
  |str b=>obtain ⟨t,rfl⟩:=rx;exact SeqAt.EqAt.int_str a t' b t
  |_=>exact absurd (show false=true from fx) Yz
 |str a=>
  obtain⟨t',rfl⟩:=ry;cases x with
  |Xs=>cases rx;exact SeqAt.EqAt.str_none a t'
  |bl b=>cases rx;exact SeqAt.EqAt.str_bool a t' b
  |int b=>obtain ⟨t,rfl⟩:=rx;exact SeqAt.EqAt.str_int a t' b t
  |str b=>obtain ⟨t,rfl⟩:=rx;exact SeqAt.EqAt.str_str a t' b t
  |_=>exact absurd (show false=true from fx) Yz
 |_=>exact absurd (show false=true from fy) Yz
def E2(x:V)(u:Value):Bool:=match u with
 |.none=>vm .Xs x
 |.bool b=>vm (.bl b) x
 |.int i _=>vm (.int i) x
 |.str z _=>vm (.str z) x
 |_=>false
theorem AO{x y:V}{u:Value}(r:RelV y u)(f:PB y=true):E2 x u=vm y x:=by
 cases y with
 |Xs=>cases r;rfl
 |bl b=>cases r;rfl
 |int i=>obtain ⟨t,rfl⟩:=r;rfl
 |str z=>obtain ⟨t,rfl⟩:=r;rfl
 |_=>exact absurd (show false=true from f) Yz
theorem Pz{x:V}:∀{xs:List V}{us:List Value},Vals xs us->xs.all PB=true->us.any (E2 x)=xs.any fun y=>vm y x
 |_,_,.nil,_=>rfl
 |y::xs,u::us,.cons r t,f=>by
  rw[List.all_cons,Yq]at f;rw[TQ,TQ,AO r f.1,Pz t f.2]
theorem RT{A:Around}{s:Shared}{x:V}{v:Value}(rx:RelV x v)(fx:PB x=true):∀{xs:List V}{us:List Value},Vals xs us->xs.all PB=true->∀u∈us,SeqAt.EqAt A s u v (E2 x u)
 |_,_,.nil,_=>fun u hu=>by cases hu
 |y::xs,u::us,.cons r t,f=>fun u' hu=>by
  rw[List.all_cons,Yq]at f;rcases ZH.mp hu with rfl|hu;·rw[AO r f.1];exact uc r rx f.1 fx
  ·exact RT rx fx t f.2 u' hu
def oi(x:V)(xs:List V):Bool:=xs.any fun y=>vm y x
def i9(K:W.Frag)(neg:Bool):R2:=fun x y H Q=>∃p xs,y=.ref p/\(Zz K H p xs\/Vj K H p xs)/\PB x=true/\xs.all PB=true/\Q (.bl (if neg then !oi x xs else oi x xs)) H
theorem Ce:PF X (compareOp .In) (i9 X.K false):=by
 intro pins s σ H x y v u Q I rx ry h;obtain⟨p,xs,rfl,hq,fx,fs,q⟩:=h;cases ry;rcases hq with hq|hq
 ·obtain⟨Y_,r,pl,hz⟩:=I.list hq;refine SeqAt.in_listAt (E2 x) pl.isList (fun w hw=>RT rx fx r fs w (by simpa using hw)) ⟨.bl _,H,I,Y,?_⟩;rw[show Y_.toArray.any (E2 x)=Y_.any (E2 x) by simp,Pz r fs];exact q
 ·obtain⟨Y_,r,pl,hz⟩:=I.tuple hq;refine SeqAt.in_tupleAt (E2 x) pl (fun w hw=>RT rx fx r fs w (by simpa using hw)) ⟨.bl _,H,I,Y,?_⟩;rw[show Y_.toArray.any (E2 x)=Y_.any (E2 x) by simp,Pz r fs];exact q
theorem Py:PF X (compareOp .NotIn) (i9 X.K true):=by
 intro pins s σ H x y v u Q I rx ry h;obtain⟨p,xs,rfl,hq,fx,fs,q⟩:=h;cases ry;rcases hq with hq|hq
 ·obtain⟨Y_,r,pl,hz⟩:=I.list hq;refine SeqAt.notIn_listAt (E2 x) pl.isList (fun w hw=>RT rx fx r fs w (by simpa using hw)) ⟨.bl _,H,I,Y,?_⟩;rw[show Y_.toArray.any (E2 x)=Y_.any (E2 x) by simp,Pz r fs];exact q
 ·obtain⟨Y_,r,pl,hz⟩:=I.tuple hq;refine SeqAt.notIn_tupleAt (E2 x) pl (fun w hw=>RT rx fx r fs w (by simpa using hw)) ⟨.bl _,H,I,Y,?_⟩;rw[show Y_.toArray.any (E2 x)=Y_.any (E2 x) by simp,Pz r fs];exact q
theorem Zi:N4 X (.builtin "len") (fun xs H Q=>∃p ys,xs=[.ref p]/\(Zz X.K H p ys\/Vj X.K H p ys)/\Q (.int ys.length) H):=by
 intro pins s σ H xs us Q I r h;obtain⟨p,ys,rfl,hq,q⟩:=h;obtain⟨u,rfl,rx⟩:=vals1 r;cases rx;have hn:=Mr;rcases hq with hq|hq
 ·obtain⟨Y_,r',pl,hz⟩:=I.list hq;have hlen:=r'.length;exact Calls.call_len_list pl.isList (by simp only[Y6]<;>omega) ⟨.int ys.length,H,I.tok _,⟨s.toks+1,by rw[Y6,hlen]⟩,q⟩
 ·obtain⟨Y_,r',pl,hz⟩:=I.tuple hq;have hlen:=r'.length;exact len_tuple pl (by simp only[Y6]<;>omega) ⟨.int ys.length,H,I.tok _,⟨s.toks+1,by rw[Y6,hlen]⟩,q⟩
theorem WI:N4 X (.type "list") (fun xs H Q=>∃p ys,xs=[.ref p]/\(Zz X.K H p ys\/Vj X.K H p ys)/\∀l,H l=none->Q (.ref l) (upd H l (.lst ys))):=by
 intro pins s σ H xs us Q I r h;obtain⟨p,ys,rfl,hq,q⟩:=h;obtain⟨u,rfl,rx⟩:=vals1 r;cases rx;have fin:∀(Y_:List Value),Vals ys Y_->ys.length<=sizeLine->∀(h':Heap)(c':Nat),(∀b o',s.heap.get? b=some o'->h'.get? b=some o')->
  h'.get? s.heap.objs.size=some {cls:=.type "list",dict:=none,data:=.seq Y_.toArray c',slots:=#[]}->EP X pins σ Q (.ref s.heap.objs.size) {s with heap:=h'}:=fun Y_ r' hz h' c' kp e=>
  ⟨.ref s.heap.objs.size,_,I.laid (t':=s.toks) kp (ZM _) (show Xe X.prog X.w _ h' _ (.lst ys)from⟨hz,Y_,c',r',e⟩),Y,q _ (I.Ya.fresh (ZM _))⟩
 rcases hq with hq|hq
 ·obtain⟨Y_,r',pl,hz⟩:=I.list hq;have hlen:=r'.length;obtain⟨o,ho,hc,n,hd⟩:=pl.isList;exact call_list_seq p (.inl Y) ho hc hd (fun h' c' kp e=>fin Y_ r' hz h' c' kp e) (by simp only[Y6]<;>omega)
 ·obtain⟨Y_,r',pl,hz⟩:=I.tuple hq;have hlen:=r'.length;obtain⟨o,ho,hc,n,hd⟩:=pl;exact call_list_seq p (.inr Y) ho hc hd (fun h' c' kp e=>fin Y_ r' hz h' c' kp e) (by simp only[Y6]<;>omega)
def mr(K:W.Frag)(T:String)(x:V)(H:Hp):Prop:=match x with
 |.str _=>T="str"
 |.int _=>T="int"
 |.ref p=>(T="list"/\∃xs,Zz K H p xs)\/(T="tuple"/\∃o,K.lookup p=some o/\o.cls=.type "tuple"/\o.dict=none)\/
  (T="dict"/\((∃Zs,H p=some (.dK Zs))\/∃Zs,H p=some (.dT Zs)))\/(T="set"/\∃S n,H p=some (.set S n))
 |_=>False
theorem AN{pins:List (Addr×Obj)}{σ:St}{H:Hp}{s:Shared}{T:String}{x:V}{v:Value}(I:Inv X pins σ H s)(r:RelV x v)(ty:mr X.K T x H):s.TypeIs v T/\∀a,v=.ref a->∃ob,s.heap.get? a=some ob/\ob.dict=none:=by
 cases x with
 |str z=>
  obtain⟨t,rfl⟩:=r;cases(show T="str" from ty);exact⟨typeIs_str s z t,fun _ e=>nomatch e⟩
 |int i=>
  obtain⟨t,rfl⟩:=r;cases(show T="int" from ty);exact⟨typeIs_int s i t,fun _ e=>nomatch e⟩
 |ref p=>
  cases r;rcases ty with⟨rfl,xs,hq⟩|⟨rfl,o,hk,hc,hd⟩|⟨rfl,hk⟩|⟨rfl,S,n,hk⟩
  ·obtain⟨Y_,_,pl,_⟩:=I.list hq;refine⟨pl.isList.typeIs,fun a e=>?_⟩;cases e;obtain⟨o,n,e,c,hd,_⟩:=pl;exact⟨o,e,hd⟩
  ·refine⟨⟨o,I.Fm p o hk,hc⟩,fun a e=>?_⟩;cases e;exact⟨o,I.Fm _ o hk,hd⟩
  ·have z:∃o,s.heap.get? p=some o/\o.ExactDict:=by
    rcases hk with⟨Zs,hk⟩|⟨Zs,hk⟩
    ·obtain⟨_,_,_,_,o,_,_,e,ex,_⟩:=I.Ya p _ hk;exact⟨o,e,ex⟩
    ·obtain⟨_,_,_,_,o,_,_,e,ex,_⟩:=I.Ya p _ hk;exact⟨o,e,ex⟩
   obtain⟨o,e,ex⟩:=z;refine⟨⟨o,e,ex.1⟩,fun a e2=>?_⟩;cases e2;exact⟨o,e,ex.2.1⟩
  ·obtain⟨o,_,_,_,e,ex,_⟩:=I.Ya p _ hk;refine⟨⟨o,e,ex.1⟩,fun a e2=>?_⟩;cases e2;exact⟨o,e,ex.2.1⟩
 |_=>exact False.elim ty
def mq(K:W.Frag)(T:String)(r:V->List V->Hp->VK->Prop)(to:TE):TE:=fun σ H Q=>to σ H fun x H1=>mr K T x H1/\r x [] H1 Q
def fU(K:W.Frag)(T:String)(r:V->List V->Hp->VK->Prop)(to:TE)(t:TA):TE:=fun σ H Q=>to σ H fun x H1=>mr K T x H1/\t σ H1 fun xs H2=>r x xs H2 Q
variable{o e:Expr}{es:List Expr}{to:TE}{t:TA}{name:Str}{apos RS:Pos}{T id:String}{r:V->List V->Hp->VK->Prop}
theorem ub(pa:PlainAttrs T)(slot:Slot T name id)(mm:typeOf (.builtin id)=pure (.type "method_descriptor"))(hm:i_ X id r)(ho:PE X o to)(AM:attributeBase o name X.env (eval o X.env)=eval o X.env:=by rfl)(AL:(apos.endLine==RS.line)=true:=by rfl):PE X (.Call (.Attribute o name apos) [] [] RS) (mq X.K T r to):=by
 intro pins s σ H Q I h;refine wpAny_Call_method0_late AM AL (Yg (ho pins s σ H _ I h) fun v s1 ⟨x,H1,I1,r1,ty,q1⟩=>?_);obtain⟨J,h2⟩:=AN I1 r1 ty;exact⟨T,id,pa,slot,mm,J,h2,Calls.callWith_builtin Y (PySem.evalArgs_none (hm pins s1 σ H1 x [] v [] Q I1 r1 .nil q1))⟩
theorem Va(pa:PlainAttrs T)(slot:Slot T name id)(mm:typeOf (.builtin id)=pure (.type "method_descriptor"))(hm:i_ X id r)(ho:PE X o to)(ha:PA X (e::es) t)(AM:attributeBase o name X.env (eval o X.env)=eval o X.env:=by rfl)(ml:((backTo RS (starEach (e::es) X.env)).all (fun x=>!x.1)&&(backToKw RS (keywordEach [] X.env)).all (fun x=>x.1.isSome)&&decide ((e::es).length+([]:List Keyword).length+(if([]:List Keyword).isEmpty then 0 else 1)<30))=true:=by rfl)(AL:(apos.endLine==RS.line)=true:=by rfl)(hs:starEach (e::es) X.env=(false,eval e X.env)::starEach es X.env:=by rfl)(ua:(backTo RS (starEach es X.env)).any (·.1)=false:=by rfl):PE X (.Call (.Attribute o name apos) (e::es) [] RS) (fU X.K T r to t):=by
 intro pins s σ H Q I h;refine wpAny_Call_method_late AM ml AL Y (Yg (ho pins s σ H _ I h) fun v s1 ⟨x,H1,I1,r1,ty,q1⟩=>?_);obtain⟨J,h2⟩:=AN I1 r1 ty;refine⟨T,id,pa,slot,mm,J,h2,?_⟩;have hA:=ha RS pins s1 σ H1 _ I1 q1;rw[hs]at hA⊢;refine Calls.callWith_builtin (by show(false||(backTo RS (starEach es X.env)).any (·.1))=false;rw[ua]<;>rfl) (Calls.evalArgs_plain ?_);exact Yg hA fun us s2 ⟨vs,H2,I2,r2,q2⟩=>hm pins s2 σ H2 x vs v us Q I2 r1 r2 q2
end
end L2
namespace L2
open PySem PySem.Spec PyProof.Rows
def mj(X:Cx)(id:String)(r:V->List V->Hp->VK->Prop):Prop:=
 ∀(pins:List (Addr×Obj))(s:Shared)(σ:St)(H:Hp)(x:V)(xs:List V)(v:Value)(us:List Value)(Q:VK),Inv X pins σ H s->RelV x v->Vals xs us->r x xs H Q->
  wpAny (model X.prog X.w) X.A (call (.builtin id) (v::us)) (EP X pins σ Q) X.xe s
theorem Vals.one:∀{x:V}{us:List Value},Vals [x] us->∃u,us=[u]/\RelV x u
 |_,_,.cons r .nil=>⟨_,Y,r⟩
theorem Vals.zero:∀{us:List Value},Vals [] us->us=[]
 |_,.nil=>rfl
theorem Vals.dropLast{xs:List V}{us:List Value}(h:Vals xs us):Vals xs.dropLast us.dropLast:=by
 induction h with
 |nil=>exact .nil
 |cons r t ih=>
  cases t with
  |nil=>exact .nil
  |cons q t'=>exact .cons r ih
theorem Vals.rep{xs:List V}{us:List Value}(h:Vals xs us):∀k:Nat,Vals (List.replicate k xs).flatten (List.replicate k us).flatten
 |0=>.nil
 |k+1=>by
  rw[R0,R0,List.flatten_cons,List.flatten_cons];exact Vals.append h (Vals.rep h k)
theorem EZ{α:Type}(l:List α):l.eraseIdx (l.length-1)=l.dropLast:=by
 induction l with
 |nil=>rfl
 |cons a r ih=>
  cases r with
  |nil=>rfl
  |cons b r=>
   have e:(a::b::r).length-1=((b::r).length-1)+1:=by
    have J:(a::b::r).length=r.length+2:=rfl;have h2:(b::r).length=r.length+1:=rfl;omega
   rw[e,List.eraseIdx_cons_succ,ih];all_goals rfl
theorem foldl_rep(Y_:List Value):∀(k:Nat)(acc:List Value),List.foldl (fun x1 x2=>x1++x2) acc.toArray (List.replicate k Y_.toArray)=(acc++(List.replicate k Y_).flatten).toArray
 |0,acc=>by simp
 |k+1,acc=>by
  have e:acc.toArray++Y_.toArray=(acc++Y_).toArray:=by simp
  have e2:(acc++Y_)++(List.replicate k Y_).flatten=acc++(List.replicate (k+1) Y_).flatten:=by rw[R0,List.flatten_cons,Wc]
  rw[<-e2,<-foldl_rep Y_ k (acc++Y_),<-e,R0,R6]
section
variable{X:Cx}{pins:List (Addr×Obj)}{σ:St}{H:Hp}{s:Shared}{l b:Addr}{xs ys zs:List V}
theorem Inv.t_{Y_ its':List Value}{n:Nat}{f:Array Value->Array Value}{t':Nat}(I:Inv X pins σ H s)(hH:H l=some (.lst xs))(e:s.heap.get? l=some {cls:=.type "list",data:=.seq Y_.toArray n})(hf:f Y_.toArray=its'.toArray)(hv:Vals ys its')(hz:ys.length<=sizeLine):Inv X pins σ (upd H l (.lst ys)) {s with heap:=s.heap.update l (Obj.mapSeq f),toks:=t'}:=by
 have q:=PySem.IsL.update e f;rw[hf]at q;refine I.write (x:=l) (e:=l) (by rw[hH];exact trivial) (.inl Y) (fun b' u O hu=>(UK s.heap (Obj.mapSeq f) (Xo O)).trans hu) ⟨_,q⟩ ?_;exact⟨hz,its',_,hv,q⟩
theorem Inv.qx{Y_:List Value}{t':Nat}(I:Inv X pins σ H s)(hv:Vals ys Y_)(hz:ys.length<=sizeLine):Inv X pins σ (upd H s.heap.objs.size (.lst ys)) {s with heap:=s.heap.push {cls:=.type "list",data:=.seq Y_.toArray},toks:=t'}:=
 I.laid (fun _ _ q=>YF _ q) (ZM _) ⟨hz,Y_,0,hv,Xn _ rfl⟩
theorem Inv.fresh(I:Inv X pins σ H s):H s.heap.objs.size=none:=I.Ya.fresh (ZM _)
theorem Inv.EY(I:Inv X pins σ H s)(hH:H l=some (.lst xs)):xs.length<=sizeLine/\∃(Y_:List Value) (n:Nat),Vals xs Y_/\xs.length=Y_.length/\s.heap.get? l=some {cls:=.type "list",data:=.seq Y_.toArray n}:=by
 obtain⟨z,Y_,n,r,e⟩:=I.Ya l _ hH;exact⟨z,Y_,n,r,r.length,e⟩
theorem He{n:Nat}(h:n<=sizeLine):Builtin.List.listTooLong n=false:=by
 unfold Builtin.List.listTooLong;exact ZF (by omega)
end
section
variable{X:Cx}
def xH:V->List V->Hp->VK->Prop:=fun x vs H Q=>∃l xs y,x=.ref l/\vs=[y]/\H l=some (.lst xs)/\xs.length<sizeLine/\Q .Xs (upd H l (.lst (xs++[y])))
theorem Xk:mj X "list.append" xH:=by
 intro pins s σ H x vs v us Q I rx rv h;obtain⟨l,xs,y,rfl,rfl,hH,hz,q⟩:=h;cases rx;obtain⟨u,rfl,ru⟩:=rv.one;obtain⟨z,Y_,n,r,hl,e⟩:=I.EY hH;refine call_meets W5 ⟨_,e,Y⟩ F.entry_list_append (F.args_list_append_2 _ _) (PySem.list_append l Y_.toArray n u (by rw[Y6];omega)) ⟨e,?_⟩;refine⟨.Xs,_,I.t_ (its':=Y_++[u]) hH e (by simp) (r.append (.cons ru .nil)) ?_,Y,q⟩;rw[ZI,List.length_singleton];omega
def xG:V->List V->Hp->VK->Prop:=fun x vs H Q=>∃l b xs zs,x=.ref l/\vs=[.ref b]/\H l=some (.lst xs)/\H b=some (.lst zs)/\xs.length+zs.length<=sizeLine/\Q .Xs (upd H l (.lst (xs++zs)))
theorem Tv:mj X "list.extend" xG:=by
 intro pins s σ H x vs v us Q I rx rv h;obtain⟨l,b,xs,zs,rfl,rfl,hH,hB,hz,q⟩:=h;cases rx;obtain⟨u,rfl,ru⟩:=rv.one;cases ru;obtain⟨z,Y_,n,r,hl,e⟩:=I.EY hH;obtain⟨z2,Mp,n2,r2,fT,e2⟩:=I.EY hB;have hsz:Y_.toArray.size+Mp.toArray.size<=sizeLine:=by rw[Y6,Y6];omega
 have AK:¬(!Y_.toArray.isEmpty&&Builtin.List.listTooLong (Y_.toArray.size+Mp.toArray.size))=true:=by
  rw[He hsz,Bool.and_false];exact Yz
 refine call_meets TH ⟨_,e,Y⟩ F.entry_list_extend (F.args_list_extend_2 _ _)
  (AutoSeq1.list_extend_list_list_0 l Y_.toArray n b Mp.toArray n2 AK (by rw[Y6];omega) (by omega)) ⟨e,e2,?_⟩
 refine⟨.Xs,_,I.t_ (its':=Y_++Mp) hH e (by simp) (r.append r2) ?_,Y,q⟩;rw[ZI];omega
def mh:V->List V->Hp->VK->Prop:=fun x vs H Q=>∃l xs y,x=.ref l/\vs=[]/\H l=some (.lst xs)/\xs[xs.length-1]?=some y/\Q y (upd H l (.lst xs.dropLast))
theorem t9:mj X "list.pop" mh:=by
 intro pins s σ H x vs v us Q I rx rv h;obtain⟨l,xs,y,rfl,rfl,hH,hy,q⟩:=h;cases rx;have fS:=rv.zero;subst fS;obtain⟨z,Y_,n,r,hl,e⟩:=I.EY hH;obtain⟨u,hu,ru⟩:=r.get hy;have qw:Y_.toArray[Y_.toArray.size-1]?=some u:=by
  show Y_.toArray[Y_.length-1]?=some u;rw[<-Array.getElem?_toList,<-hl];exact hu
 refine call_meets F.slot_list_pop ⟨_,e,Y⟩ F.entry_list_pop (F.args_list_pop_1 _) (MeetsSeq.list_pop_last l Y_.toArray n u qw (by rw[Y6];omega)) ⟨e,?_⟩;refine⟨y,_,I.t_ (its':=Y_.dropLast) hH e ?_ r.dropLast ?_,ru,q⟩
 ·show Y_.toArray.eraseIdxIfInBounds (Y_.toArray.size-1)=Y_.dropLast.toArray;rw[Y6,List.eraseIdxIfInBounds_toArray,EZ]
 ·rw[List.length_dropLast];omega
def mf:R2:=fun x y H Q=>∃l b xs zs,x=.ref l/\y=.ref b/\H l=some (.lst xs)/\H b=some (.lst zs)/\xs.length+zs.length<=sizeLine/\∀p,H p=none->Q (.ref p) (upd H p (.lst (xs++zs)))
theorem UJ:PF X (binaryOp .Add) mf:=by
 intro pins s σ H x y v u Q I rx ry h;obtain⟨l,b,xs,zs,rfl,rfl,hH,hB,hz,q⟩:=h;cases rx;cases ry;obtain⟨z,Y_,n,r,hl,e⟩:=I.EY hH;obtain⟨z2,Mp,n2,r2,fT,e2⟩:=I.EY hB;refine PySem.P.add_list e e2 ?_ (by rw[Y6,Y6];omega);have ea:Y_.toArray++Mp.toArray=(Y_++Mp).toArray:=by simp
 rw[ea];exact⟨.ref _,_,I.qx (t':=s.toks) (r.append r2) (by rw[ZI];omega),Y,q _ I.fresh⟩
def me:R2:=fun x y H Q=>∃l k xs,x=.ref l/\y=.int k/\H l=some (.lst xs)/\-(2^63)<=k/\k<2^63/\xs.length*k.toNat<=sizeLine/\
 ∀p,H p=none->Q (.ref p) (upd H p (.lst (List.replicate k.toNat xs).flatten))
theorem len_rep{α:Type}(xs:List α)(k:Nat):(List.replicate k xs).flatten.length=k*xs.length:=by
 induction k with
 |zero=>simp
 |succ k ih=>rw [R0,List.flatten_cons,ZI,ih,Nat.succ_mul,Nat.add_comm]
theorem EX:PF X (binaryOp .Mult) me:=by
 intro pins s σ H x y v u Q I rx ry h;obtain⟨l,k,xs,rfl,rfl,hH,J,h2,hz,q⟩:=h;cases rx;obtain⟨t,rfl⟩:=ry;obtain⟨z,Y_,n,r,hl,e⟩:=I.EY hH;have hlen:Y_.toArray.size*k.toNat<=sizeLine:=by rw[Y6,<-hl];exact hz
 have md:¬Y_.toArray.size*k.toNat>(2^63-1)/8:=by
  have:(sizeLine:Nat)<=(2^63-1)/8:=by decide
  omega
 have ma:¬(!Builtin.List.listFitsIndex k)=true:=by
  rw[fitsIndex_both J h2];exact Yz
 have AK:¬Builtin.List.listTooLong (Y_.toArray.size*k.toNat)=true:=by
  rw[He hlen];exact Yz
 have l':List.foldl (fun x1 x2=>x1++x2) #[] (List.replicate (if Y_.toArray.isEmpty=true then 0 else k.toNat) Y_.toArray)=(List.replicate k.toNat Y_).flatten.toArray:=by
  have f0:∀m:Nat,List.foldl (fun x1 x2=>x1++x2) #[] (List.replicate m Y_.toArray)=(List.replicate m Y_).flatten.toArray:=fun m=>by
   have:=foldl_rep Y_ m [];rw[List.nil_append]at this;exact this
  rw[f0];cases Y_ with
  |nil=>simp
  |cons a r'=>rw [Z8 (by simp)]
 refine wpAny_binaryOp_repeat_ref (T:="list") (U:="int") (by decide) ⟨_,e,Y⟩ (fun s'=>typeIs_int s' k t) noFill_list_mul F.fills_int_mul F.slot_int_rmul repeat_list F.slot_int_index.lookup
  (call_meets F.slot_int_rmul (typeIs_int s k t) F.entry_int_rmul (F.args_int_rmul_2 _ _) (int___rmul___int_list k t l Y_.toArray n)
   ⟨e,Y,⟨_,e,Y⟩,call_meets F.slot_list_mul ⟨_,e,Y⟩ F.entry_list_mul (F.args_list_mul_2 _ _) (AutoListH.list___mul___list_int_3 l Y_.toArray n k t ma md AK) ⟨e,?_⟩⟩)
 rw[l'];exact⟨.ref _,_,I.qx (t':=s.toks) (r.rep k.toNat) (by rw[len_rep,Nat.mul_comm];exact hz),Y,q _ I.fresh⟩
end
end L2
namespace L2
open PySem PySem.Spec PyProof.Rows
theorem Vals.ints:∀{ns:List Int}{us:List Value},Vals (ns.map V.int) us->IntsAre us ns
 |[],us,h=>by
  rw[List.map_nil]at h;cases h;exact IntsAre.nil
 |n::ns,us,h=>by
  rw[Y7]at h;cases h with
  |cons r t=>
   obtain⟨k,rfl⟩:=r;exact IntsAre.cons n k (Vals.ints t)
theorem Vals.xF{a:Addr}{us:List Value}(r:Vals [V.ref a] us):us=[Value.ref a]:=by
 cases r with
 |cons r t=>
  cases t;cases r;rfl
section
variable{prog:Program}{w:World}{A:Around}{E:Value->Shared->Prop}{s:Shared}{l:Addr}{Y_:List Value}{ns:List Int}{Q:Value->Shared->Prop}
theorem oh(hh:A.handled=none)(hl:s.heap.IsList l Y_.toArray)(hi:IntsAre Y_ ns)(R7:0<ns.length)(h:∀h' tk M t',(∀b o,s.heap.get? b=some o->h'.get? b=some o)->M∈ns->(∀a,a∈ns->a<=M)->Q (.int M t') {s with heap:=h',toks:=tk}):wpAny (model prog w) A (call (.builtin "max") [.ref l]) Q E s:=by
 obtain⟨xs,e⟩:=hi.allInts.items;have hn:numsOf (intItems xs).toList=ns:=by rw[<-e];exact hi.numsOf
 rw[nums_intItems]at hn;subst hn;rw[e]at hl;have hsz:0<xs.size:=by simpa using R7
 refine PySem.max_intList hh hl hsz fun v h' tk hv hk=>?_;obtain⟨t,rfl⟩:=intItems_at hv;obtain⟨J,h2⟩:=argBest_gt (numAt xs) (xs.size-1);refine h h' tk _ t hk ?_ fun a ha=>?_;·rw[numAt_eq];exact PySem.getD_mem (by rw[Z3,U_];omega)
 ·obtain⟨j,hj,rfl⟩:=mem_getD ha;rw[Z3,U_]at hj;rw[<-numAt_eq];exact h2 j (by omega)
theorem xE(hh:A.handled=none)(hl:s.heap.IsList l Y_.toArray)(hi:IntsAre Y_ ns)(R7:0<ns.length)(h:∀h' tk M t',(∀b o,s.heap.get? b=some o->h'.get? b=some o)->M∈ns->(∀a,a∈ns->M<=a)->Q (.int M t') {s with heap:=h',toks:=tk}):wpAny (model prog w) A (call (.builtin "min") [.ref l]) Q E s:=by
 obtain⟨xs,e⟩:=hi.allInts.items;have hn:numsOf (intItems xs).toList=ns:=by rw[<-e];exact hi.numsOf
 rw[nums_intItems]at hn;subst hn;rw[e]at hl;have hsz:0<xs.size:=by simpa using R7
 refine PySem.min_intList hh hl hsz fun v h' tk hv hk=>?_;obtain⟨t,rfl⟩:=intItems_at hv;obtain⟨J,h2⟩:=argBest_lt (numAt xs) (xs.size-1);refine h h' tk _ t hk ?_ fun a ha=>?_;·rw[numAt_eq];exact PySem.getD_mem (by rw[Z3,U_];omega)
 ·obtain⟨j,hj,rfl⟩:=mem_getD ha;rw[Z3,U_]at hj;rw[<-numAt_eq];exact h2 j (by omega)
end
section
variable{X:Cx}
def l_(K:W.Frag):List V->Hp->VK->Prop:=fun vs H Q=>∃(a:Addr) (ns:List Int),vs=[V.ref a]/\Zz K H a (ns.map V.int)/\0<ns.length/\∀m,m∈ns->(∀y,y∈ns->m<=y)->Q (.int m) H
theorem t8(hc:X.calm=true):N4 X (.builtin "min") (l_ X.K):=by
 intro pins s σ H vs us Q I r h;obtain⟨a,ns,rfl,hs,R7,q⟩:=h;obtain⟨Y_,rv,hl,_⟩:=I.list hs;rw[Vals.xF r];exact xE (I.ok.hd hc) hl.isList rv.ints R7 fun h' tk m t' hk J h2=>⟨.int _,H,I.kept hk,⟨_,Y⟩,q m J h2⟩
theorem xD{n:Nat}(h:n<64):n<=sizeLine:=by rw[sizeLine_eq];omega
end
mutual
inductive Dp(K:W.Frag)(H:Hp):V->PyData->Prop
 |Xs:Dp K H .Xs .none
 |bl (b:Bool):Dp K H (.bl b) (.bool b)
 |int (i:Int):Dp K H (.int i) (.int i)
 |str (x:Str):Dp K H (.str x) (.str x)
 |lst {a:Addr} {xs:List V} {ds:List PyData}:Zz K H a xs->NZ K H xs ds->Dp K H (.ref a) (.list ds)
 |tup {a:Addr} {xs:List V} {ds:List PyData}:Vj K H a xs->NZ K H xs ds->Dp K H (.ref a) (.tuple ds)
inductive NZ(K:W.Frag)(H:Hp):List V->List PyData->Prop
 |nil:NZ K H [] []
 |cons {v:V} {vs:List V} {d:PyData} {ds:List PyData}:Dp K H v d->NZ K H vs ds->NZ K H (v::vs) (d::ds)
end
section
variable{X:Cx}{pins:List (Addr×Obj)}{σ:St}{H:Hp}{s:Shared}
mutual
theorem Dp.reads(I:Inv X pins σ H s):∀(d:PyData)(v:V)(u:Value),Dp X.K H v d->RelV v u->∃as,Reads s.heap u d as
 |.none,_,_,h,r=>by
  cases h;cases r;exact⟨_,Reads.none⟩
 |.bool b,_,_,h,r=>by
  cases h;cases r;exact⟨_,Reads.bool b⟩
 |.int i,_,_,h,r=>by
  cases h;obtain⟨t,rfl⟩:=r;exact⟨_,Reads.int i t⟩
 |.str x,_,_,h,r=>by
  cases h;obtain⟨t,rfl⟩:=r;exact⟨_,Reads.str x t⟩
 |.list ds,_,_,h,r=>by
  cases h with
  |lst hs ha=>
   cases r;obtain⟨Y_,rv,⟨o,n,ho,hc,_,hd⟩,_⟩:=I.list hs;obtain⟨as,hr⟩:=Dp.readsAll I ds _ Y_ ha rv;exact⟨_,Reads.list ho hc hd hr⟩
 |.tuple ds,_,_,h,r=>by
  cases h with
  |tup hs ha=>
   cases r;obtain⟨Y_,rv,⟨o,ho,hc,n,hd⟩,_⟩:=I.tuple hs;obtain⟨as,hr⟩:=Dp.readsAll I ds _ Y_ ha rv;exact⟨_,Reads.tuple ho hc hd hr⟩
 |.dict _,_,_,h,_=>by cases h
theorem Dp.readsAll(I:Inv X pins σ H s):∀(ds:List PyData)(vs:List V)(us:List Value),NZ X.K H vs ds->Vals vs us->∃as,ReadsAll s.heap us ds as
 |[],_,_,h,r=>by
  cases h;cases r;exact⟨_,ReadsAll.nil⟩
 |d::ds,_,_,h,r=>by
  cases h with
  |cons J h2=>
   cases r with
   |cons r1 r2=>
    obtain⟨as,q1⟩:=Dp.reads I d _ _ J r1;obtain⟨bs,q2⟩:=Dp.readsAll I ds _ _ h2 r2;exact⟨_,ReadsAll.cons q1 q2⟩
end
end
section
variable{X:Cx}
def l8(K:W.Frag):R2:=fun x y H Q=>∃d e,Dp K H x d/\Dp K H y e/\SeqAt.shaped d=true/\SeqAt.shaped e=true/\Q (.bl (PyData.eqv d e)) H
def l7(K:W.Frag):R2:=fun x y H Q=>∃d e,Dp K H x d/\Dp K H y e/\SeqAt.shaped d=true/\SeqAt.shaped e=true/\Q (.bl (!PyData.eqv d e)) H
theorem t6(hu:X.A.units+64<cLine):PF X (compareOp .Eq) (l8 X.K):=by
 intro pins s σ H x y v u Q I rx ry h;obtain⟨d,e,hd,he,sd,se,q⟩:=h;obtain⟨as,r1⟩:=Dp.reads I d x v hd rx;obtain⟨bs,r2⟩:=Dp.reads I e y u he ry;exact SeqAt.compareEq_shaped r1 r2 sd se hu ⟨.bl _,H,I,Y,q⟩
theorem Jc(hu:X.A.units+64<cLine):PF X (compareOp .NotEq) (l7 X.K):=by
 intro pins s σ H x y v u Q I rx ry h;obtain⟨d,e,hd,he,sd,se,q⟩:=h;obtain⟨as,r1⟩:=Dp.reads I d x v hd rx;obtain⟨bs,r2⟩:=Dp.reads I e y u he ry;exact SeqAt.compareNe_shaped r1 r2 sd se hu ⟨.bl _,H,I,Y,q⟩
end
end L2
namespace L2
open PySem PySem.Spec PyProof.Rows
abbrev AJ(h:Heap)(c:Addr)(v:Option Value):Prop:=h.IsCell c v
def l6(scope sc:Scope):Scope:=
 {scope with names:=scope.names.map fun(n,k)=>if(k==.free&&sc.kind==.function&&sc.names.lookup n==some .cell)then(n,.cell)else(n,k)}
def Yj(cells:List (Str×Addr)):List (Str×NameKind)->List (Str×Addr)->List (Str×Addr)
 |[],acc=>acc
 |(n,k)::r,acc=>if k==.free then Yj cells r ((n,(cells.lookup n).getD 0)::acc)else Yj cells r acc
theorem Px(env:Env)(f:Str×NameKind->List (Str×Addr)->Sem (ForInStep (List (Str×Addr))))
 (hf:∀n k c,f (n,k) c=if k==.free then(do let a<-cellOf env n;pure (.yield ((n,a)::c)))else pure (.yield c)):
 ∀(names:List (Str×NameKind))(acc:List (Str×Addr)),(∀y∈names,y.2=.free->∃c,env.cells.lookup y.1=some c)->forIn names acc f=pure (Yj env.cells names acc)
 |[],acc,_=>by rw[List.forIn_nil];rfl
 |(n,k)::r,acc,h=>by
  rw[List.forIn_cons,hf];have ih:=fun acc=>Px env f hf r acc fun y hy=>h y (Zh _ hy);unfold Yj;by_cases hk:(k==NameKind.free)=true
  ·rw[Z7 hk,Z7 hk];obtain⟨c,hc⟩:=h (n,k) YM (by simpa using hk);have e:cellOf env n=pure c:=by unfold cellOf;rw[hc]
   rw[e];have e2:(env.cells.lookup n).getD 0=c:=by rw[hc];rfl
   rw[e2];exact ih _
  ·rw[Z8 hk,Z8 hk];exact ih _
theorem EW{scope:Scope}{env:Env}(h:∀y∈scope.names,y.2=.free->∃c,env.cells.lookup y.1=some c):closureFor scope env=pure (Yj env.cells scope.names []):=by
 simp only[closureFor];rw[Px env _ (fun n k c=>rfl) scope.names [] h];rfl
theorem mem_lookup{α:Type}:∀{l:List (Str×α)}{n:Str}{c:α},(n,c)∈l->∃c',l.lookup n=some c'
 |(k,v)::r,n,c,h=>by
  rw[Vs];cases O:n==k with
  |true=>exact ⟨_,Y⟩
  |false=>
   rcases ZH.mp h with e|h;·cases e;simp at O
   ·exact mem_lookup h
theorem Ur{cells:List (Str×Addr)}:∀{names:List (Str×NameKind)}{acc:List (Str×Addr)}{n:Str}{c:Addr},(n,c)∈Yj cells names acc->(n,c)∈acc\/((n,.free)∈names/\c=(cells.lookup n).getD 0)
 |[],_,_,_,h=>.inl h
 |(m,k)::r,acc,n,c,h=>by
  unfold Yj at h;split at h
  ·rename_i hk;have hk:k=.free:=by simpa using hk
   rcases Ur h with h|⟨J,h2⟩
   ·rcases ZH.mp h with e|h;·cases e;exact .inr ⟨hk▸YM,Y⟩
    ·exact .inl h
   ·exact .inr ⟨Zh _ J,h2⟩
  ·rcases Ur h with h|⟨J,h2⟩;·exact .inl h
   ·exact .inr ⟨Zh _ J,h2⟩
theorem RQ{cells:List (Str×Addr)}:∀{names:List (Str×NameKind)}{acc:List (Str×Addr)}{p:Str×Addr},p∈acc->p∈Yj cells names acc
 |[],_,_,h=>h
 |(m,k)::r,acc,p,h=>by
  unfold Yj;split;·exact RQ (Zh _ h)
  ·exact RQ h
theorem RP{cells:List (Str×Addr)}:∀{names:List (Str×NameKind)}{acc:List (Str×Addr)}{n:Str},(n,.free)∈names->(n,(cells.lookup n).getD 0)∈Yj cells names acc
 |(m,k)::r,acc,n,h=>by
  unfold Yj;rcases ZH.mp h with e|h
  ·cases e;exact RQ YM
  ·split;·exact RP h
   ·exact RP h
theorem Tu:∀{names:List (Str×NameKind)}{h:Heap}{acc:List (Str×Addr)}{x:Str}{c:Addr},(x,c)∈cellsFrom h.objs.size names acc->(x,c)∈acc\/((x,.cell)∈names/\h.objs.size<=c/\AJ (pushCells h names) c none)
 |[],_,_,_,_,h=>.inl h
 |(n,k)::r,h,acc,x,c,hm=>by
  unfold cellsFrom at hm;unfold pushCells;split at hm
  ·rename_i hk;rw[Z7 hk];have hk:k=.cell:=by simpa using hk
   rw[<-Xm h {cls:=.type "cell",data:=.cell none}]at hm;rcases Tu hm with hm|⟨J,h2,h3⟩
   ·rcases ZH.mp hm with e|hm
    ·cases e;exact .inr ⟨hk▸YM,ZM _,_,pushCells_keeps r _ _ _ (Xn _ rfl),Y⟩
    ·exact .inl hm
   ·rw[Xm]at h2;exact .inr ⟨Zh _ J,Nat.le_of_succ_le h2,h3⟩
  ·rename_i hk;rw[Z8 hk];rcases Tu hm with hm|⟨J,h2,h3⟩;·exact .inl hm
   ·exact .inr ⟨Zh _ J,h2,h3⟩
theorem Q5:∀{names:List (Str×NameKind)}{n:Nat}{acc:List (Str×Addr)}{p:Str×Addr},p∈acc->p∈cellsFrom n names acc
 |[],_,_,_,h=>h
 |(m,k)::r,n,acc,p,h=>by
  unfold cellsFrom;split;·exact Q5 (Zh _ h)
  ·exact Q5 h
theorem Oz:∀{names:List (Str×NameKind)}{n:Nat}{acc:List (Str×Addr)}{x:Str},(x,.cell)∈names->∃c,(x,c)∈cellsFrom n names acc
 |(m,k)::r,n,acc,x,h=>by
  unfold cellsFrom;rcases ZH.mp h with e|h
  ·cases e;exact⟨n,Q5 YM⟩
  ·split;·exact Oz h
   ·exact Oz h
theorem Oy:∀{names:List (Str×NameKind)}{h:Heap}{acc:List (Str×Addr)}{x y:Str}{c:Addr},(∀p∈acc,p.2<h.objs.size)->(∀x y c,(x,c)∈acc->(y,c)∈acc->x=y)->(x,c)∈cellsFrom h.objs.size names acc->(y,c)∈cellsFrom h.objs.size names acc->x=y
 |[],_,_,_,_,_,_,hi,J,h2=>hi _ _ _ J h2
 |(n,k)::r,h,acc,x,y,c,hl,hi,J,h2=>by
  unfold cellsFrom at J h2;split at J
  ·rename_i hk;rw[Z7 hk]at h2;rw[<-Xm h {cls:=.type "cell",data:=.cell none}]at J h2;refine Oy (h:=h.push _) (fun p hp=>?_) (fun x y c a b=>?_) J h2
   ·rw[Xm];rcases ZH.mp hp with rfl|hp;·exact V8 _
    ·exact X6 (hl p hp)
   ·rcases ZH.mp a with e|a<;>rcases ZH.mp b with e'|b;·cases e;cases e';rfl
    ·cases e;exact absurd (hl _ b) (Wu _)
    ·cases e';exact absurd (hl _ a) (Wu _)
    ·exact hi _ _ _ a b
  ·rename_i hk;rw[Z8 hk]at h2;exact Oy hl hi J h2
theorem Hd{M:Model}{A:Around}{E:Value->Shared->Prop}{s:Shared}{scope:Scope}{globals:Addr}{closure:List (Str×Addr)}{qual:Str}{func:Option Addr}{code:Value}{around:Env}{builtins:Addr}{Q:Env->Shared->Prop}(h:Q (newEnv scope s.heap.objs.size globals (cellsFrom (s.heap.objs.size+1) scope.names closure) qual func code (some around) builtins) {s with heap:=pushCells (s.heap.push {cls:=.type "dict",data:=.dict #[]}) scope.names}):wpAny M A (newFunctionEnv scope globals closure [] qual func code (some around) builtins) Q E s:=by
 simp only[newFunctionEnv,Option.isSome_some,if_true];refine ZV (wpAny_alloc ?_);refine ZV (wpAny_layCells _ (fun n k c=>rfl) scope.names closure _ _ ?_);rw[show({s with heap:=s.heap.push {cls:=.type "dict",data:=.dict #[]}}:Shared).heap.objs.size=s.heap.objs.size+1 from Xm ..];rw[List.forIn_nil];exact ZV (Zt (Zt h))
theorem RO{sc:Scope}:∀{names:List (Str×NameKind)}{x:Str}{k:NameKind},(names.map fun(n,k)=>if(k==NameKind.free&&sc.kind==.function&&sc.names.lookup n==some .cell)then(n,NameKind.cell)else(n,k)).lookup x=some k->∃k',names.lookup x=some k'/\(k=k'\/(k'=.free/\k=.cell))
 |[],_,_,h=>by simp at h
 |(n,AI)::r,x,k,h=>by
  have ih:=@RO sc r x k;have h':List.lookup x ((if(AI==NameKind.free&&sc.kind==.function&&sc.names.lookup n==some .cell)=true then(n,NameKind.cell)else(n,AI))::(r.map _))=some k:=h;cases hx:x==n with
  |true=>
   simp only[Vs,hx];by_cases hc:(AI==NameKind.free&&sc.kind==.function&&sc.names.lookup n==some .cell)=true
   ·rw[Z7 hc]at h';simp only[Vs,hx]at h';cases h';simp only[Yq,Xl]at hc;exact⟨AI,Y,.inr ⟨hc.1.1,Y⟩⟩
   ·rw[Z8 hc]at h';simp only[Vs,hx]at h';cases h';exact⟨_,Y,.inl Y⟩
  |false=>
   simp only[Vs,hx];by_cases hc:(AI==NameKind.free&&sc.kind==.function&&sc.names.lookup n==some .cell)=true
   ·rw[Z7 hc]at h';simp only[Vs,hx]at h';exact ih h'
   ·rw[Z8 hc]at h';simp only[Vs,hx]at h';exact ih h'
structure Hc(N:List Str)(sc scope:Scope)(own:List (Str×Nat)):Prop where
 kind:scope.kind=.function
 uniq:∀y∈scope.names,scope.names.lookup y.1=some y.2
 ix:∀p∈own,N[p.2]?=some p.1
 free:∀y∈scope.names,y.2=.free->sc.names.lookup y.1=some .cell\/sc.names.lookup y.1=some .free
 own:∀y∈scope.names,y.2=.local\/y.2=.cell->y.1∈own.map (·.1)\/y.1∉N
def wipe(σ:St):List Nat->St
 |[]=>σ
 |v::vs=>(wipe σ vs).set v none
theorem RN(σ:St):∀vs:List Nat,(wipe σ vs).length=σ.length
 |[]=>rfl
 |v::vs=>by unfold wipe;rw[List.length_set,RN σ vs]
theorem Ox{σ:St}{i:Nat}{x:V}:∀{vs:List Nat},(wipe σ vs)[i]?=some (some x)->σ[i]?=some (some x)/\i∉vs
 |[],h=>⟨h,by simp⟩
 |v::vs,h=>by
  unfold wipe at h;by_cases hi:v=i
  ·subst hi;by_cases hv:v<(wipe σ vs).length;·rw[List.getElem?_set_self hv]at h;cases h
   ·rw[YQ (by simpa using hv)]at h;cases h
  ·rw[List.getElem?_set_ne hi]at h;obtain⟨J,h2⟩:=Ox h;exact⟨J,by simp only[ZH,not_or];exact⟨fun e=>hi e.symm,h2⟩⟩
abbrev Cx.Jb(X:Cx)(s:Shared)(H:Hp)(scope:Scope)(Wf:Env)(fp:List Addr):Cx:={X with Kg:=s,qY:=H,env:=Wf,outer:=X.stack,ex:=fp,fn:=fun x=>scope.names.lookup x==some .cell,pn:=[],xe:=fun _ _=>False}
section
variable{X:Cx}{pins:List (Addr×Obj)}{σ:St}{H:Hp}{s:Shared}
theorem Hb{scope:Scope}{own:List (Str×Nat)}{fp:List Addr}(I:Inv X pins σ H s)(ok:Hc X.N X.env.scope scope own)(hN:X.N.Nodup)(rQ:∀b∈fp,M8 X pins H b/\b<s.heap.objs.size):Inv (X.Jb s H scope (compEnvC scope (cellsFrom (s.heap.objs.size+1) scope.names (Yj X.env.cells scope.names [])) s.heap.objs.size X.env) fp) [] (wipe σ (own.map (·.2))) H {s with heap:=pushCells (s.heap.push {cls:=.type "dict",data:=.dict #[]}) scope.names}:=by
 have Ke:∀y∈scope.names,y.2=.free->∃c,X.env.cells.lookup y.1=some c:=fun y hy e=>by
  rcases ok.free y hy e with k|k;·exact I.ok.has _ (.inl k)
  ·exact I.ok.has _ (.inr k)
 generalize Ha:compEnvC scope (cellsFrom (s.heap.objs.size+1) scope.names (Yj X.env.cells scope.names [])) s.heap.objs.size X.env=Wf;have kp:∀b o,s.heap.get? b=some o->(pushCells (s.heap.push {cls:=.type "dict",data:=.dict #[]}) scope.names).get? b=some o:=fun b o e=>pushCells_keeps _ _ _ _ (YF _ e);have hL:Wf.locals=s.heap.objs.size:=by rw[<-Ha];rfl
 have tZ:Wf.cells=cellsFrom (s.heap.objs.size+1) scope.names (Yj X.env.cells scope.names []):=by rw[<-Ha];rfl
 have l5:Wf.scope=l6 scope X.env.scope:=by rw[<-Ha];rfl
 rw[<-Xm s.heap {cls:=.type "dict",data:=.dict #[]}]at tZ;have cm:∀{y c},(y,c)∈Yj X.env.cells scope.names []->X.env.cells.lookup y=some c/\c<s.heap.objs.size:=fun{y c} hm=>by
  rcases Ur hm with hm|⟨J,rfl⟩;·cases hm
  ·obtain⟨c,hc⟩:=Ke _ J rfl;rw[hc];obtain⟨w,z⟩:=I.cell _ _ hc;exact⟨Y,z.lt⟩
 have mem:∀{y c},Wf.cells.lookup y=some c->(X.env.cells.lookup y=some c/\c<s.heap.objs.size)\/(s.heap.objs.size+1<=c/\AJ (pushCells (s.heap.push {cls:=.type "dict",data:=.dict #[]}) scope.names) c none):=fun{y c} e=>by
  rw[tZ]at e;rcases Tu (Yn e)with hm|⟨_,h2,h3⟩;·exact .inl (cm hm)
  ·rw[Xm]at h2;exact .inr ⟨h2,h3⟩
 have look:∀{y},scope.names.lookup y=some .free->∃c,Wf.cells.lookup y=some c/\X.env.cells.lookup y=some c:=fun{y} hl=>by
  have hy:(y,NameKind.free)∈scope.names:=Yn hl;obtain⟨c',e'⟩:=mem_lookup (Q5 (names:=scope.names) (n:=(s.heap.push {cls:=.type "dict",data:=.dict #[]}).objs.size) (RP (cells:=X.env.cells) (acc:=[]) hy));rw[<-tZ]at e';refine⟨c',e',?_⟩;rw[tZ]at e';rcases Tu (Yn e')with hm|⟨J,_,_⟩;·exact(cm hm).1
  ·have:=ok.uniq _ J;rw[hl]at this;cases this
 have fR:(X.Jb s H scope Wf fp).Ok:=by
  refine⟨I.ok.mod,by show Wf.scope.kind=_;rw[l5];exact ok.kind,by show Wf.globals=_;rw[<-Ha];exact I.ok.glob,by show Wf.builtins=_;rw[<-Ha];exact I.ok.blt,by show s.heap.objs.size<=Wf.locals;rw[hL];exact ZM _,
   fun y z c e1 e2=>?_,fun y hy=>?_,fun y c z e=>?_,I.ok.hd,I.ok.frames,.inl Y,fun b O=>⟨?_,fun y c e z=>?_⟩,I.bs,ZE I.ok.ym I.sz,fun b o e O=>?_,fun b O z=>?_,I.stack,I.DR,I.ok.tree,I.ok.top⟩
  ·have e1:Wf.cells.lookup y=some c:=e1;have e2:Wf.cells.lookup z=some c:=e2;rw[tZ]at e1 e2;refine Oy (fun p hp=>?_) (fun y z c a b=>I.ok.inj y z c (cm a).1 (cm b).1) (Yn e1) (Yn e2);rw[Xm];exact X6 (cm (y:=p.1) (c:=p.2) hp).2
  ·show∃c,Wf.cells.lookup y=some c;have key:∀k,Wf.kindOf y=some k->(k=.cell\/k=.free)->∃c,Wf.cells.lookup y=some c:=fun k hk G_=>by
    unfold Env.kindOf at hk;rw[l5]at hk;obtain⟨k',e,r⟩:=RO hk;have:k'=.cell\/k'=.free:=by
     rcases r with rfl|⟨rfl,_⟩;·exact G_
     ·exact .inr rfl
    rcases this with rfl|rfl
    ·obtain⟨c,hm⟩:=Oz (n:=(s.heap.push {cls:=.type "dict",data:=.dict #[]}).objs.size) (acc:=Yj X.env.cells scope.names []) (Yn e);obtain⟨c',e'⟩:=mem_lookup hm;exact⟨c',by rw[tZ];exact e'⟩
    ·obtain⟨c,J,_⟩:=look e;exact⟨c,J⟩
   rcases hy with hy|hy;·exact key _ hy (.inl Y)
   ·exact key _ hy (.inr Y)
  ·have z:(scope.names.lookup y==some NameKind.cell)=true:=z;have z:scope.names.lookup y=some .cell:=by simpa using z
   have e:Wf.cells.lookup y=some c:=e;rw[tZ]at e;rcases Tu (Yn e)with hm|⟨_,h2,_⟩
   ·rcases Ur hm with hm|⟨J,_⟩;·cases hm
    ·have q:=ok.uniq _ J;rw[z]at q;cases q
   ·rw[Xm]at h2;exact Nat.le_of_succ_le h2
  ·show b≠Wf.locals;rw[hL];exact Za (rQ b O).2
  ·have e:Wf.cells.lookup y=some c:=e;rcases mem e with⟨J,_⟩|⟨J,_⟩;·exact(rQ b O).1.2.2.2.2.1 y c J z
   ·have h2:s.heap.objs.size+1<=b:=by rw[<-z];exact J
    exact absurd (Zo (rQ b O).2 (Nat.le_of_succ_le h2)) (Wu _)
  ·rcases(rQ b O).1.2.2.2.1 with z|z;·exact I.ok.A8 b o e z
   ·exact absurd (Zo (Zr e) (ZE I.ok.ym z)) (Wu _)
  ·rcases ZH.mp (I.Fg b z)with z|z;·exact(rQ b O).1.2.1 z
   ·exact(rQ b O).1.2.2.1 z
 refine⟨fR,Y,I.bare,Un.kept kp,⟨fun _=>none,?_,fun i y av e1 e2 e3=>?_⟩,fun y c e=>?_,?_,fun y c e=>?_,fun p hp=>?_,I.Ya.kept kp,by rw[RN];exact I.len⟩
 ·show Heap.Ns _ Wf.locals _;rw[hL];exact Heap.Ns.keeps (Heap.Ns.new ..) fun b o e=>pushCells_keeps _ _ _ _ e
 ·obtain⟨e2,R7⟩:=Ox e2;have Bc:scope.names.lookup y=some .free/\(Wf.kindOf y=some .cell\/Wf.kindOf y=some .free):=by
   have key:∀k,Wf.scope.names.lookup y=some k->k=.local\/k=.cell\/k=.free->scope.names.lookup y=some .free/\(Wf.kindOf y=some .cell\/Wf.kindOf y=some .free):=fun k hk G_=>by
    have i8:=hk;rw[l5]at hk;obtain⟨k',e,r⟩:=RO hk;have no:¬(k'=.local\/k'=.cell):=fun hh=>by
     rcases ok.own _ (Yn e) hh with e'|e'
     ·obtain⟨p,hp,fQ⟩:=Zc.mp e';have e3:=ok.ix p hp;have:p.1=y:=fQ;rw[this]at e3;exact R7 (Zc.mpr ⟨p,hp,Mz hN e3 e1⟩)
     ·exact e' (Y9 e1)
    rcases r with rfl|⟨rfl,rfl⟩
    ·rcases G_ with rfl|rfl|rfl;·exact absurd (.inl Y) no
     ·exact absurd (.inr Y) no
     ·exact⟨e,.inr i8⟩
    ·exact⟨e,.inl i8⟩
   have e3:rV Wf.scope y:=e3;rcases e3 with e3|e3|e3;·exact key _ e3 (.inl Y)
   ·exact key _ e3 (.inr (.inl Y))
   ·exact key _ e3 (.inr (.inr Y))
  obtain⟨m,hn,hl⟩:=I.loc;have lZ:rV X.env.scope y:=(ok.free _ (Yn Bc.1) rfl).elim (fun k=>.inr (.inl k)) (fun k=>.inr (.inr k));obtain⟨w,r,q⟩:=hl i y av e1 e2 lZ;refine⟨w,r,.inr ⟨Bc.2,?_⟩⟩;obtain⟨c,J,h2⟩:=look Bc.1;rcases q with⟨k,_⟩|⟨_,c',e',z⟩
  ·have k:X.env.scope.names.lookup y=some .local:=k;rcases ok.free _ (Yn Bc.1) rfl with k'|k'<;>rw[show X.env.scope.names.lookup y=_ from k']at k<;>cases k
  ·rw[h2]at e';cases e';exact⟨c,J,z.keeps kp⟩
 ·have e:Wf.cells.lookup y=some c:=e;rcases mem e with⟨J,_⟩|⟨_,z⟩
  ·obtain⟨w,z⟩:=I.cell y c J;exact⟨w,z.keeps kp⟩
  ·exact⟨_,z⟩
 ·show H Wf.locals=none;rw[hL];exact I.Ya.fresh (ZM _)
 ·have e:Wf.cells.lookup y=some c:=e;rcases mem e with⟨J,_⟩|⟨J,_⟩;·exact I.RX y c J
  ·exact I.Ya.fresh (Nat.le_of_succ_le J)
 ·exact absurd (show p∈([]:List (Addr×Obj))++[]from hp) (by simp)
theorem tY{E:Value->Shared->Prop}{D:Addr}{xs:List V}{y:V}{v:Value}{Q:Value->Shared->Prop}(I:Inv X pins σ H s)(hD:H D=some (.lst xs))(hz:xs.length<sizeLine)(r:RelV y v)(h:∀s',Inv X pins σ (upd H D (.lst (xs++[y]))) s'->Q .none s'):wpAny (model X.prog X.w) X.A (call (.builtin "list.append") [.ref D,v]) Q E s:=by
 obtain⟨aQ,Y_,n,ri,e⟩:=I.Ya D _ hD;have hl:=ri.length;refine append_at (hsz:=by rw[Y6];omega) e fun h' sb Fl=>?_;refine h {s with heap:=h'} (I.write (t':=s.toks) (by rw[hD];trivial) (.inl Y) (fun b u O q=>(sb.2 b O).trans q) ⟨_,Fl⟩ ⟨by rw[ZI];exact hz,Y_++[v],n+1,ri.append (.cons r .nil),?_⟩);rw[Fl];simp
def qv(X:Cx)(ifs:List Expr)(t:TT):Prop:=
 ∀(pins:List (Addr×Obj))(s:Shared)(σ:St)(H:Hp)(Q:Bool->Hp->Prop),Inv X pins σ H s->t σ H Q->
  wpAny (model X.prog X.w) X.A (forIn ifs true fun c r=>if r=true then do let ok<-isTrue c X.env (eval c X.env);pure (ForInStep.yield ok)else pure (ForInStep.yield r)) (TP X pins σ Q) X.xe s
def lY:TT:=fun _ H Q=>Q true H
theorem XS:qv X [] lY:=fun _ _ _ H _ I h=>wpAny_tests_nil ⟨H,I,h⟩
theorem DD{c:Expr}{t:TT}(h:PT X c t):qv X [c] t:=fun pins s σ H Q I hw=>wpAny_tests_one (h pins s σ H Q I hw)
end
theorem Cd{α:Type}{t:Sem α}{Q Q':α->Shared->Prop}{M:Model}{A:Around}{E:Value->Shared->Prop}{s:Shared}(h:wpAny M A t Q (fun _ _=>False) s)(hQ:∀a s,Q a s->Q' a s):wpAny M A t Q' E s:=X' h hQ fun _ _ z=>False.elim z
theorem Ja{prog:Program}{w:World}{A:Around}{R:Result->Shared->Prop}{s:Shared}{elt target iter:Expr}{ifs:List Expr}{scope:Scope}{pos:Pos}{it acc:Value}{env:Env}(I:Nat->Shared->Prop)
 (turn:∀n s,I n s->wpAny (model prog w) A (pyNext it) (fun r X5=>match r with
  |none=>R (.ok .next) X5
  |some v=>wpAny (model prog w) A (letOwnedTupleGo target it v) (fun _ vk=>wpAny (model prog w) A (assign target env v) (fun _ Qs=>
   wpAny (model prog w) A (forIn ifs true fun c r=>if r=true then do let ok<-isTrue c env (eval c env);pure (ForInStep.yield ok)else pure (ForInStep.yield r)) (fun ok Hr=>
    if ok=true then wpAny (model prog w) A (eval elt env) (fun x qu=>
     wpAny (model prog w) A (call (.builtin "list.append") [acc,x]) (fun _ qt=>∃m,m<n/\I m qt) (notedBy (model prog w) A env fun e s'=>R (.error e) s') qu) (notedBy (model prog w) A env fun e s'=>R (.error e) s') Hr
    else∃m,m<n/\I m Hr) (notedBy (model prog w) A env fun e s'=>R (.error e) s') Qs) (notedBy (model prog w) A env fun e s'=>R (.error e) s') vk) (notedBy (model prog w) A env fun e s'=>R (.error e) s') X5) (notedBy (model prog w) A env fun e s'=>R (.error e) s') s)
 (n:Nat)(h:I n s):
 codeAny (model prog w) A (.compLoop (.ListComp elt [⟨target,iter,ifs,0⟩] scope pos) 0 it acc env) R s:=by
 refine codeAny_loop Y I (fun n s hI=>?_) n h;show wpAny _ A ((compTurn (.ListComp elt [⟨target,iter,ifs,0⟩] scope pos) 0 it acc env).onRaise (fun x=>do noteFrame x env;theTreesLotGoes x)) _ _ s;refine wpAny_noted ?_;rw[compTurn_list];refine ZV (wpAny_standAt (ZV (X' (turn n s hI) (fun r X5 xC=>?_) fun _ _ h'=>h')));cases r with
 |none=>exact Zt xC
 |some v=>
  refine ZV (X' xC (fun _ vk qp=>?_) fun _ _ h'=>h');refine ZV (X' qp (fun _ Qs AH=>ZV (X' AH (fun ok Hr xB=>?_) fun _ _ h'=>h')) fun _ _ h'=>h');cases ok with
  |false=>exact Zt ⟨Y,xB⟩
  |true=>
   exact ZV (ZV (X' xB (fun x qu lX=>ZV (X' lX (fun _ qt lW=>Zt (Zt ⟨Y,lW⟩)) fun _ _ h'=>h')) fun _ _ h'=>h'))
section
variable{X:Cx}
def og(wi:TI)(g:TG)(tt:TT)(te:TE)(vs:List Nat):TE:=fun σ H Q=>wi σ H fun Z_ H1=>∀D,H1 D=none->∃W:Nat->Nat->Hp->Prop,(∃m,W 0 m (upd H1 D (.lst [])))/\∀i m H,W i m H->
 (Z_.stop i H/\Q (.ref D) H)\/(Z_.go i H/\∃Nx:Hp->Prop,(∀H',Nx H'->∃m',m'<m/\W (i+1) m' H')/\∀x H',Z_.Hq i H x H'->g x (wipe σ vs) H' fun Wt H2=>wipe Wt vs=wipe σ vs/\tt Wt H2 fun b H3=>
  if b=true then te Wt H3 fun y H4=>∃acc,H4 D=some (.lst acc)/\acc.length<sizeLine/\Nx (upd H4 D (.lst (acc++[y])))else Nx H3)
theorem DC{pins:List (Addr×Obj)}{s:Shared}{σ:St}{H:Hp}{Q:VK}{elt tg iter:Expr}{ifs:List Expr}{scope:Scope}{own:List (Str×Nat)}{pos pos':Pos}{wi:TI}{g:TG}{tt:TT}{te:TE}{use:Option (Value->Sem Unit)}{Qf:Value->Shared->Prop}(hc:X.calm=true)(hN:X.N.Nodup)(I:Inv X pins σ H s)(hi:PI X tg iter wi)(ok:Hc X.N X.env.scope scope own)(hg:∀(s:Shared)(H:Hp)(C:Addr)(cl:List (Str×Addr))(fp:List Addr),PG (X.Jb s H scope (compEnvC scope cl C X.env) fp) tg g)(ht:∀(s:Shared)(H:Hp)(C:Addr)(cl:List (Str×Addr))(fp:List Addr),qv (X.Jb s H scope (compEnvC scope cl C X.env) fp) ifs tt)(he:∀(s:Shared)(H:Hp)(C:Addr)(cl:List (Str×Addr))(fp:List Addr),PE (X.Jb s H scope (compEnvC scope cl C X.env) fp) elt te)(hs:∀x,foldedSetIterable iter X.env x=pure x)(h:og wi g tt te (own.map (·.2)) σ H Q)(fP:∀D C s' m H',Inv X pins σ H' s'->Q (.ref D) H'->s'.heap.Ns C m->M8 X pins H' C->compPost (model X.prog X.w) X.A X.xe use Qf (.ref D) C (.ok .next) s'):wpAny (model X.prog X.w) X.A (comprehension (.ListComp elt [⟨tg,iter,ifs,0⟩] scope pos) scope X.env pos' (newList []) false (eval iter X.env) use) Qf X.xe s:=by
 have Ke:∀y∈scope.names,y.2=.free->∃c,X.env.cells.lookup y.1=some c:=fun y hy e=>by
  rcases ok.free y hy e with k|k;·exact I.ok.has _ (.inl k)
  ·exact I.ok.has _ (.inr k)
 refine wpAny_comprehension_free (use:=use) rfl hs (EW Ke) ok.kind (fun y hy e=>by rw[ok.uniq y hy,e])
  (Yg (hi pins s σ H _ I h) fun xv s1 hx=>Yg hx fun mH s2 h2=>?_)
 obtain⟨it,fp,tn,Z_,H2,e,I2,T,oq,f2,q⟩:=h2;subst e;refine wpAny_newObj_type (Hd ?_) (by show 0<=sizeLine;decide);generalize hD:s2.heap.objs.size=D;have i7:H2 D=none:=I2.Ya.fresh (Nat.le_of_eq hD);obtain⟨W,⟨m0,w0⟩,turn⟩:=q D i7;generalize i6:({s2 with heap:=s2.heap.push {cls:=.type "list",data:=.seq ([]:List Value).toArray}}:Shared)=s3;have I3:Inv X pins σ (upd H2 D (.lst [])) s3:=by
  rw[<-i6];refine I2.laid (t':=s2.toks) (fun b o e=>YF _ e) (Nat.le_of_eq hD) ⟨Zw _,[],0,.nil,?_⟩;rw[<-hD];exact Xn _ rfl
 have h3:s3.heap=s2.heap.push {cls:=.type "list",data:=.seq ([]:List Value).toArray}:=by rw[<-i6]
 have sz:∀b∈fp,b<s2.heap.objs.size:=fun b O=>by
  obtain⟨o,e,_⟩:=T.obj _ _ oq b O;exact Zr e
 have f3:∀b∈fp,M8 X pins (upd H2 D (.lst [])) b/\b<s3.heap.objs.size:=fun b O=>by
  have Xd:=sz b O;refine⟨⟨?_,(f2 b O).2⟩,by rw[h3,Xm];exact X6 Xd⟩;rw[ZW (by rw[<-hD];exact Za Xd)];exact(f2 b O).1
 have uk:tn 0 s3.heap:=T.keep _ _ _ oq fun b _ o e=>by rw[h3];exact YF _ e
 have I4:=Hb I3 ok hN f3;have pg:=hg s3 (upd H2 D (.lst [])) s3.heap.objs.size (cellsFrom (s3.heap.objs.size+1) scope.names (Yj X.env.cells scope.names [])) fp;have pt:=ht s3 (upd H2 D (.lst [])) s3.heap.objs.size (cellsFrom (s3.heap.objs.size+1) scope.names (Yj X.env.cells scope.names [])) fp;have pe:=he s3 (upd H2 D (.lst [])) s3.heap.objs.size (cellsFrom (s3.heap.objs.size+1) scope.names (Yj X.env.cells scope.names [])) fp;show codeAny _ _ (.compStart (.ListComp elt [⟨tg,iter,ifs,0⟩] scope pos) 0 (.ref it) (.ref D) (compEnvC scope (cellsFrom (s3.heap.objs.size+1) scope.names (Yj X.env.cells scope.names [])) s3.heap.objs.size X.env)) (compPost (model X.prog X.w) X.A X.xe use Qf (.ref D) s3.heap.objs.size) {s3 with heap:=pushCells (s3.heap.push {cls:=.type "dict",data:=.dict #[]}) scope.names};have qo:∀b∈fp,(upd H2 D (.lst [])) b=none:=fun b O=>(f3 b O).1.1;generalize fO:compEnvC scope (cellsFrom (s3.heap.objs.size+1) scope.names (Yj X.env.cells scope.names [])) s3.heap.objs.size X.env=ce at I4 pg pt pe⊢;have cL:ce.locals=s3.heap.objs.size:=by subst fO;rfl
 generalize fN:upd H2 D (.lst [])=H3 at I3 I4 pg pt pe w0 qo f3;generalize fM:({s3 with heap:=pushCells (s3.heap.push {cls:=.type "dict",data:=.dict #[]}) scope.names}:Shared)=s4 at I4⊢;have qm:tn 0 s4.heap:=T.keep _ _ _ uk fun b _ o e=>by rw[<-fM];exact pushCells_keeps _ _ _ _ (YF _ e)
 have Fc:∀{XQ:St}{H':Hp}{s':Shared},Inv (X.Jb s3 H3 scope ce fp) [] XQ H' s'->(∀b∈fp,H' b=none)->∀b∈fp,M8 (X.Jb s3 H3 scope ce fp) [] H' b:=fun{XQ H' s'} I' hn b O=>
  ⟨hn b O,(I'.ok.oA b O).1,I'.ok.A7 b O,.inl O,fun x c e=>(I'.ok.oA b O).2 x c e,fun p hp=>absurd (show p∈([]:List (Addr×Obj))++[]from hp) (by simp)⟩
 have loop:codeAny (model X.prog X.w) X.A (.compLoop (.ListComp elt [⟨tg,iter,ifs,0⟩] scope pos) 0 (.ref it) (.ref D) ce) (compPost (model X.prog X.w) X.A X.xe use Qf (.ref D) s3.heap.objs.size) s4:=by
  refine Ja (fun n s'=>∃i H',Inv (X.Jb s3 H3 scope ce fp) [] (wipe σ (own.map (·.2))) H' s'/\tn i s'.heap/\(∀b∈fp,H' b=none)/\W i n H') ?_ m0 ⟨0,H3,I4,qm,qo,w0⟩;rintro n s5 ⟨i,H5,I5,yj,n5,w5⟩;rcases turn i n H5 w5 with⟨stop,qq⟩|⟨go,Nx,fL,step⟩
  ·have td:=T.done (X.Jb s3 H3 scope ce fp) rfl rfl rfl hc i [] s5 _ H5 (fun _ _=>False) I5 (Fc I5 n5) yj stop;refine Cd td fun r s6 ⟨hr,I6⟩=>?_;subst hr;have I7:Inv X pins σ H5 s6:=I3.qU (ch:=fp) I6.os I6.base I6.Ya I6.bare fun b O=>⟨(f3 b O).1.2.2.2.1,(f3 b O).1.2.1,(f3 b O).1.2.2.2.2.1,(f3 b O).1.2.2.2.2.2⟩;have nC:H5 s3.heap.objs.size=none:=by
    have z:H5 ce.locals=none:=I6.free;rw[cL]at z;exact z
   obtain⟨m,hn,_⟩:=I6.loc;have hn:s6.heap.Ns ce.locals m:=hn;rw[cL]at hn;exact fP D s3.heap.objs.size s6 m H5 I7 qq hn (I3.A2 (ZM _) nC)
  ·have ti:=T.item (X.Jb s3 H3 scope ce fp) rfl rfl rfl hc i [] s5 _ H5 (fun _ _=>False) I5 (Fc I5 n5) yj go;refine Cd ti fun r s6 ⟨u,hr,h6⟩=>?_;subst hr;refine Cd h6 fun _ s7 ⟨x,H7,I7,r7,y7,lV,n7⟩=>?_;have fK:=I7.pinned (Fc I7 n7) (T.obj _ _ lV);refine Cd (pg _ s7 _ H7 x u _ fK r7 (step x H7 y7)) fun _ s8 ⟨oe,H8,I8,i5,q8⟩=>?_;refine Cd (pt _ s8 oe H8 _ I8 q8) fun b s9 ⟨H9,I9,q9⟩=>?_;have fin:∀{s':Shared}{H':Hp},Inv (X.Jb s3 H3 scope ce fp) ([]++Mu fp s7.heap) oe H' s'->Nx H'->∃m,m<n/\∃i H',Inv (X.Jb s3 H3 scope ce fp) [] (wipe σ (own.map (·.2))) H' s'/\tn i s'.heap/\(∀b∈fp,H' b=none)/\W i m H':=fun{s' H'} I' nx=>by
    obtain⟨m',hm,w'⟩:=fL H' nx;have qk:∀b∈fp,∀o,s7.heap.get? b=some o->s'.heap.get? b=some o/\H' b=none:=fun b O o e=>
     let z:=I'.pin (b,o) (XD _ (XD _ (Qo O e)))
     ⟨z.1,z.2.1⟩
    have hl:(wipe σ (own.map (·.2))).length=oe.length:=by rw[<-i5,RN]
    refine⟨m',hm,i+1,H',(I'.PH (pins:=[])).weak hl (fun j v e=>?_),T.keep _ _ _ lV fun b O o e=>(qk b O o e).1,fun b O=>?_,w'⟩
    ·rw[<-i5]at e;exact(Ox e).1
    ·obtain⟨o,e,_⟩:=T.obj _ _ lV b O;exact(qk b O o e).2
   cases b with
   |false=>
    simp only[PU,if_false]at q9⊢;exact fin I9 q9
   |true=>
    simp only[if_true]at q9⊢;refine Cd (pe _ s9 oe H9 _ I9 q9) fun z tX ⟨yv,aP,fJ,i4,acc,lU,lT,nx⟩=>?_;exact tY (X:=X.Jb s3 H3 scope ce fp) fJ lU lT i4 fun lS fI=>fin fI nx
 exact codeAny_compStart_list loop (T.self X.A 0 _ _ _ qm loop)
theorem Sr{elt tg iter:Expr}{ifs:List Expr}{scope:Scope}{own:List (Str×Nat)}{pos:Pos}{wi:TI}{g:TG}{tt:TT}{te:TE}(hc:X.calm=true)(hN:X.N.Nodup)(hi:PI X tg iter wi)(ok:Hc X.N X.env.scope scope own)(hg:∀(s:Shared)(H:Hp)(C:Addr)(cl:List (Str×Addr))(fp:List Addr),PG (X.Jb s H scope (compEnvC scope cl C X.env) fp) tg g)(ht:∀(s:Shared)(H:Hp)(C:Addr)(cl:List (Str×Addr))(fp:List Addr),qv (X.Jb s H scope (compEnvC scope cl C X.env) fp) ifs tt)(he:∀(s:Shared)(H:Hp)(C:Addr)(cl:List (Str×Addr))(fp:List Addr),PE (X.Jb s H scope (compEnvC scope cl C X.env) fp) elt te)(hs:∀x,foldedSetIterable iter X.env x=pure x:=by intro _;rfl):PE X (.ListComp elt [⟨tg,iter,ifs,0⟩] scope pos) (og wi g tt te (own.map (·.2))):=by
 intro pins s σ H Q I h;rw[eval_ListComp];refine DC hc hN I hi ok hg ht he hs h fun D C s' m H' I' q hn f=>⟨m,hn,fun vj sb=>?_⟩;obtain⟨f0,f1,f2,f3,f4,f5⟩:=f;exact⟨.ref D,H',I'.turned (t':=s'.toks) (fun b o O e=>(sb.2 b O).trans e) f0 f1 f3 f4 f5,Y,q⟩
theorem Vq{i:Nat}{y:Str}{py:Pos}{elt tg iter:Expr}{ifs:List Expr}{scope:Scope}{own:List (Str×Nat)}{pos qh:Pos}{wi:TI}{g:TG}{tt:TT}{te:TE}(hc:X.calm=true)(hN:X.N.Nodup)(hy:X.N[i]?=some y)(iZ:X.env.scope.names.lookup y=some .local)
 (fH:swapsWith (.ListComp elt [⟨tg,iter,ifs,0⟩] scope pos) (some (.Name y py)) qh.line X.env=pure true)(hi:PI X tg iter wi)(ok:Hc X.N X.env.scope scope own)
 (hg:∀(s:Shared)(H:Hp)(C:Addr)(cl:List (Str×Addr))(fp:List Addr),PG (X.Jb s H scope (compEnvC scope cl C X.env) fp) tg g)(ht:∀(s:Shared)(H:Hp)(C:Addr)(cl:List (Str×Addr))(fp:List Addr),qv (X.Jb s H scope (compEnvC scope cl C X.env) fp) ifs tt)
 (he:∀(s:Shared)(H:Hp)(C:Addr)(cl:List (Str×Addr))(fp:List Addr),PE (X.Jb s H scope (compEnvC scope cl C X.env) fp) elt te)(hs:∀x,foldedSetIterable iter X.env x=pure x:=by intro _;rfl):
 PS X (.Assign [.Name y py] (.ListComp elt [⟨tg,iter,ifs,0⟩] scope pos) qh) (uq (og wi g tt te (own.map (·.2))) (Kc i)):=by
 intro pins s σ H D I h;rw[exec_Assign_Name_used _ _ _ _ fH];refine ZV (wpAny_standAt (ZV ?_));show wpAny _ X.A (do let _<-comprehension (.ListComp elt [⟨tg,iter,ifs,0⟩] scope pos) scope X.env (firstIterPos [⟨tg,iter,ifs,0⟩] pos) (newList []) false (eval iter X.env) (some (assign (.Name y py) X.env))) _ _ s;have h:og wi g tt te (own.map (·.2)) σ H (fun x H1=>Kc i x σ H1 D.nx):=h;refine ZV (Yg (DC (Qf:=fun _ s'=>SP X pins D .next s') hc hN I hi ok hg ht he hs h fun L C s' m H' I' q hn f=>?_) fun _ s' hq=>Zt (Zt hq));show wpAny _ _ (assign (.Name y py) X.env (.ref L)) _ _ _;refine wpAny_assign_Name (Kf (v:=V.ref L) I' hN hy (.inl iZ) rfl (fun s2 I2 ⟨a,sb,ha⟩=>?_) (.inr iZ));obtain⟨f0,f1,f2,f3,f4,f5⟩:=f;have fG:C≠a:=by
  rcases ha with z|z;·rw[z];exact f1
  ·exact fun e=>f4 y a z e.symm
 refine⟨m,hn.sameBut sb fG,fun h3 fF=>?_⟩;exact⟨_,H',I2.turned (t':=s2.toks) (fun b o O e=>(fF.2 b O).trans e) f0 f1 f3 f4 f5,q⟩
theorem Uq{elt:Expr}{gs:List Comprehension}{scope:Scope}{pos py:Pos}{y:Str}{l:Nat}{env:Env}(hk:env.scope.kind=.function)(hy:env.scope.names.lookup y=some .local)(hl:(py.line==pos.line)=true)(ha:(scope.names.any fun(n,k)=>n==y&&(k==.local||k==.cell))=false):swapsWith (.ListComp elt gs scope pos) (some (.Name y py)) l env=pure true:=by
 have ky:env.kindOf y=some .local:=hy;have O:env.blockKind=.function:=by unfold Env.blockKind;rw[hk];rfl
 unfold swapsWith;simp only[O,ky,ha,Expr.pos,hl];rfl
end
theorem AG {lo : Int} {n : Nat} {g : TG} {tt : TT} {te : TE} {vs : List Nat} {σ : St} {H1 : Hp} {D : Addr} {Qd : Hp -> Prop} (Pv : Nat -> Hp -> Prop) (h0 : Pv 0 (upd H1 D (.lst [])))
    (hs : ∀ i H, i < n -> Pv i H -> g (.int (lo + i)) (wipe σ vs) H fun Wt H2 => wipe Wt vs = wipe σ vs /\ tt Wt H2 fun b H3 =>
      if b = true then te Wt H3 fun y H4 => ∃ acc, H4 D = some (.lst acc) /\ acc.length < sizeLine /\ Pv (i + 1) (upd H4 D (.lst (acc ++ [y]))) else Pv (i + 1) H3) (hd : ∀ H, Pv n H -> Qd H) :
    ∃ W : Nat -> Nat -> Hp -> Prop, (∃ m, W 0 m (upd H1 D (.lst []))) /\ ∀ i m H, W i m H ->
      ((Fe lo n).stop i H /\ Qd H) \/ ((Fe lo n).go i H /\ ∃ Nx : Hp -> Prop, (∀ H', Nx H' -> ∃ m', m' < m /\ W (i + 1) m' H') /\ ∀ x H', (Fe lo n).Hq i H x H' -> g x (wipe σ vs) H' fun Wt H2 => wipe Wt vs = wipe σ vs /\ tt Wt H2 fun b H3 =>
        if b = true then te Wt H3 fun y H4 => ∃ acc, H4 D = some (.lst acc) /\ acc.length < sizeLine /\ Nx (upd H4 D (.lst (acc ++ [y]))) else Nx H3) := by
  refine ⟨fun i m H => m = n - i /\ i <= n /\ Pv i H, ⟨n, by simp, Zw _, h0⟩, ?_⟩
  rintro i m H ⟨rfl, hi, p⟩
  by_cases Xd : i < n
  · refine .inr ⟨Xd, Pv (i + 1), fun H' p' => ⟨n - (i + 1), by omega, Y, Xd, p'⟩, fun x H' y => ?_⟩
    obtain ⟨e, y⟩ := y
    subst e y
    exact hs i _ Xd p
  · have e : i = n := by omega
    subst e
    exact .inl ⟨ZM _, hd H p⟩
theorem Vy {K : PySem.W.Frag} {a : Addr} {xs : List V} {g : TG} {tt : TT} {te : TE} {vs : List Nat} {σ : St} {H1 : Hp} {D : Addr} {Qd : Hp -> Prop} (Pv : Nat -> Hp -> Prop) (h0 : Pv 0 (upd H1 D (.lst []))) (hl : ∀ i H, i <= xs.length -> Pv i H -> Zz K H a xs)
    (hs : ∀ i x H, xs[i]? = some x -> Pv i H -> g x (wipe σ vs) H fun Wt H2 => wipe Wt vs = wipe σ vs /\ tt Wt H2 fun b H3 =>
      if b = true then te Wt H3 fun y H4 => ∃ acc, H4 D = some (.lst acc) /\ acc.length < sizeLine /\ Pv (i + 1) (upd H4 D (.lst (acc ++ [y]))) else Pv (i + 1) H3) (hd : ∀ H, Pv xs.length H -> Qd H) :
    ∃ W : Nat -> Nat -> Hp -> Prop, (∃ m, W 0 m (upd H1 D (.lst []))) /\ ∀ i m H, W i m H ->
      ((vy K a).stop i H /\ Qd H) \/ ((vy K a).go i H /\ ∃ Nx : Hp -> Prop, (∀ H', Nx H' -> ∃ m', m' < m /\ W (i + 1) m' H') /\ ∀ x H', (vy K a).Hq i H x H' -> g x (wipe σ vs) H' fun Wt H2 => wipe Wt vs = wipe σ vs /\ tt Wt H2 fun b H3 =>
        if b = true then te Wt H3 fun y H4 => ∃ acc, H4 D = some (.lst acc) /\ acc.length < sizeLine /\ Nx (upd H4 D (.lst (acc ++ [y]))) else Nx H3) := by
  refine ⟨fun i m H => m = xs.length - i /\ i <= xs.length /\ Pv i H, ⟨xs.length, by simp, Zw _, h0⟩, ?_⟩
  rintro i m H ⟨rfl, hi, p⟩
  have q := hl i H hi p
  by_cases Xd : i < xs.length
  · refine .inr ⟨⟨xs, xs[i], q, by simp [Xd]⟩, Pv (i + 1), fun H' p' => ⟨xs.length - (i + 1), by omega, Y, Xd, p'⟩, fun x H' y => ?_⟩
    obtain ⟨e, y⟩ := y
    subst e
    exact hs i x _ (y xs q) p
  · have e : i = xs.length := by omega
    subst e
    exact .inl ⟨⟨xs, q, ZM _⟩, hd H p⟩
def Us(N:List Str)(sc scope:Scope)(own:List (Str×Nat)):Bool:=
 (match scope.kind with|.function=>true|_=>false)&&(scope.names.all fun y=>decide (scope.names.lookup y.1=some y.2))&&(own.all fun p=>decide (N[p.2]?=some p.1))&&
  (scope.names.all fun y=>match y.2 with
   |.free=>(match sc.names.lookup y.1 with|some .cell=>true|some .free=>true|_=>false)
   |.local=>decide (y.1∈own.map (·.1))||decide (y.1∉N)
   |.cell=>decide (y.1∈own.map (·.1))||decide (y.1∉N)
   |_=>true)
theorem YB{N:List Str}{sc scope:Scope}{own:List (Str×Nat)}(h:Us N sc scope own=true):Hc N sc scope own:=by
 unfold Us at h;simp only[Yq,We,decide_eq_true_eq]at h;obtain⟨⟨⟨J,h2⟩,h3⟩,h4⟩:=h;refine⟨?_,h2,h3,fun y hy e=>?_,fun y hy e=>?_⟩
 ·split at J;·assumption
  ·cases J
 ·have q:=h4 y hy;simp only[e]at q;split at q<;>first|exact .inl (by assumption)|exact .inr (by assumption)|cases q
 ·have q:=h4 y hy;rcases e with e|e<;>(simp only[e,Bool.or_eq_true,decide_eq_true_eq]at q;exact q)
end L2
namespace L2
open PySem PySem.Spec PyProof.Rows
section
variable{κ:Type}[DecidableEq κ]
def VH(Zs:List (κ×V))(k:κ):Option V:=(Zs.find? fun kv=>decide (kv.1=k)).map (·.2)
def putK(Zs:List (κ×V))(k:κ)(v:V):List (κ×V):=
 if(Zs.any fun kv=>decide (kv.1=k))=true then Zs.map (fun kv=>if kv.1=k then(kv.1,v)else kv)else Zs++[(k,v)]
theorem Xj{p:κ×V}{r:List (κ×V)}{k:κ}(e:p.1=k):VH (p::r) k=some p.2:=by simp[VH,UP,e]
theorem Xi{p:κ×V}{r:List (κ×V)}{k:κ}(e:¬p.1=k):VH (p::r) k=VH r k:=by simp[VH,UP,e]
theorem V6(k:κ):∀Zs:List (κ×V),(Zs.any fun kv=>decide (kv.1=k))=(VH Zs k).isSome
 |[]=>rfl
 |p::r=>by
  rw[TQ];by_cases e:p.1=k;·simp only[Xj e,ZR e,Bool.true_or,Option.isSome_some]
  ·rw[Xi e,ZF e,Bool.false_or];exact V6 k r
theorem G9(k j:κ)(y:V):∀Zs:List (κ×V),VH (Zs.map fun kv=>if kv.1=k then(kv.1,y)else kv) j=(VH Zs j).map fun x=>if j=k then y else x
 |[]=>rfl
 |p::r=>by
  have ih:=G9 k j y r;rw[Y7];by_cases h:p.1=k
  ·rw[Z7 h];by_cases e:p.1=j;·rw[Xj (p:=(p.1,y)) e,Xj e,Option.map_some,Z7 (e.symm.trans h)]
   ·rw[Xi (p:=(p.1,y)) e,Xi e,ih]
  ·rw[Z8 h];by_cases e:p.1=j;·rw[Xj (p:=p) e,Xj e,Option.map_some,Z8 (fun z=>h (e.trans z))]
   ·rw[Xi (p:=p) e,Xi e,ih]
theorem J8(k j:κ)(y:V):∀Zs:List (κ×V),VH Zs k=none->VH (Zs++[(k,y)]) j=if j=k then some y else VH Zs j
 |[],_=>by
  by_cases e:k=j;·rw[Z7 e.symm];exact Xj (p:=(k,y)) e
  ·rw[Z8 (fun z=>e z.symm)];exact Xi (p:=(k,y)) e
 |p::r,hn=>by
  rw[List.cons_append];have hk:¬p.1=k:=fun z=>by rw[Xj z]at hn;cases hn
  rw[Xi hk]at hn;have ih:=J8 k j y r hn;by_cases e:p.1=j;·rw[Xj e,Xj e,Z8 (fun z=>hk (e.trans z))]
  ·rw[Xi e,Xi e,ih]
theorem AF(Zs:List (κ×V))(k j:κ)(y:V):VH (putK Zs k y) j=if j=k then some y else VH Zs j:=by
 unfold putK;by_cases a:(Zs.any fun kv=>decide (kv.1=k))=true
 ·rw[Z7 a,G9];rw[V6]at a;by_cases e:j=k
  ·obtain⟨x,hx⟩:=Option.isSome_iff_exists.mp a;rw[Z7 e,e,hx,Option.map_some,Z7 rfl]
  ·rw[Z8 e];cases VH Zs j with
   |none=>rfl
   |some x=>rw [Option.map_some,Z8 e]
 ·rw[Z8 a];refine J8 k j y Zs ?_;rw[V6]at a;cases q:VH Zs k with
  |none=>rfl
  |some x=>rw [q]at a;exact(a Y).elim
theorem RM(Zs:List (κ×V))(k:κ)(v:V):(putK Zs k v).length<=Zs.length+1:=by
 unfold putK;split;·rw[Z3];omega
 ·rw[ZI,Zj,List.length_nil];omega
theorem G8{Zs:List (κ×V)}{k:κ}(v:V)(h:VH Zs k=none):putK Zs k v=Zs++[(k,v)]:=by
 unfold putK;rw[V6,h];exact Z8 (by decide)
theorem R_.Tt{o:Option V}{u:Option Value}(r:R_ o u):o.isSome=u.isSome:=by
 cases o with
 |none=>cases u with
  |none=>rfl
  |some _=>exact (show False from r).elim
 |some _=>cases u with
  |none=>exact (show False from r).elim
  |some _=>rfl
theorem R_.getD{o:Option V}{u:Option Value}{d:V}{d':Value}(r:R_ o u)(rd:RelV d d'):RelV (o.getD d) (u.getD d'):=by
 cases o with
 |none=>cases u with
  |none=>exact rd
  |some _=>exact (show False from r).elim
 |some _=>cases u with
  |none=>exact (show False from r).elim
  |some _=>exact r
theorem KV.val{Zs:List (κ×V)}{vs:List (κ×Value)}(r:KV Zs vs)(k:κ):R_ (VH Zs k) (valueAt vs k):=by
 unfold KV at r;induction r with
 |nil=>exact True.intro
 |@cons p q ps qs h t ih=>
  obtain⟨J,h2⟩:=h;by_cases e:p.1=k
  ·have e':q.1=k:=J.symm.trans e;have b:valueAt (q::qs) k=some q.2:=by simp[valueAt,UP,e']
   rw[Xj e,b];exact h2
  ·have e':¬q.1=k:=fun z=>e (J.trans z);have b:valueAt (q::qs) k=valueAt qs k:=by simp[valueAt,UP,e']
   rw[Xi e,b];exact ih
theorem KV.any{Zs:List (κ×V)}{vs:List (κ×Value)}(r:KV Zs vs)(k:κ):(Zs.any fun kv=>decide (kv.1=k))=vs.any fun kv=>decide (kv.1=k):=by
 unfold KV at r;induction r with
 |nil=>rfl
 |cons h t ih=>rw [TQ,TQ,ih,h.1]
theorem KV.tW{Zs:List (κ×V)}{vs:List (κ×Value)}(r:KV Zs vs)(k:κ){y:V}{u:Value}(ry:RelV y u):KV (Zs.map fun kv=>if kv.1=k then(kv.1,y)else kv) (vs.map fun kv=>if kv.1=k then(kv.1,u)else kv):=by
 unfold KV at r⊢;induction r with
 |nil=>exact .nil
 |@cons p q ps qs h t ih=>
  rw[Y7,Y7];refine .cons ?_ ih;obtain⟨J,h2⟩:=h;by_cases e:p.1=k;·rw[Z7 e,Z7 (J.symm.trans e)];exact⟨J,ry⟩
  ·rw[Z8 e,Z8 (fun z=>e (J.trans z))];exact⟨J,h2⟩
theorem KV.put{Zs:List (κ×V)}{vs:List (κ×Value)}(r:KV Zs vs)(k:κ){y:V}{u:Value}(ry:RelV y u):KV (putK Zs k y) (stored vs k u):=by
 unfold putK stored;rw[r.any k];by_cases e:(vs.any fun kv=>decide (kv.1=k))=true;·rw[Z7 e,Z7 e];exact r.tW k ry
 ·rw[Z8 e,Z8 e];exact Paired.snoc r ⟨Y,ry⟩
theorem KV.length{Zs:List (κ×V)}{vs:List (κ×Value)}(r:KV Zs vs):Zs.length=vs.length:=Paired.length r
end
theorem Mo{P:Program}{w:World}{k:Key}{u:Value}(r:RelV (kV k) u):(XB P w).is k u=true:=by
 cases k with
 |inl i=>obtain ⟨t,e⟩:=(show∃t,u=Value.int i t from r);subst e;exact Hx P w i t
 |inr x=>obtain ⟨t,e⟩:=(show∃t,u=Value.str x t from r);subst e;exact Hw P w x t
theorem J7{P:Program}{w:World}:∀{ks:List Key}{us:List Value},Vals (ks.map kV) us->ItemsAre (XB P w) ks us
 |[],_,r=>by rw[List.map_nil]at r;cases r;exact .nil
 |k::ks,_,r=>by
  rw[Y7]at r;cases r with
  |cons h t=>exact .cons (Mo h) (J7 t)
abbrev KT(H:Hp):List (List Key×V)->List (List Key×Addr×Value)->Prop:=Paired fun p q=>p.1=q.1/\H q.2.1=some (.tup (p.1.map kV))/\RelV p.2 q.2.2
theorem KT.val{H:Hp}{Zs:List (List Key×V)}{xs:List (List Key×Addr×Value)}(r:KT H Zs xs)(k:List Key):R_ (VH Zs k) ((atKey xs k).map (·.2)):=by
 induction r with
 |nil=>exact True.intro
 |@cons p q ps qs h t ih=>
  obtain⟨J,_,h2⟩:=h;by_cases e:p.1=k
  ·have e':q.1=k:=J.symm.trans e;have b:atKey (q::qs) k=some q.2:=by simp[atKey,UP,e']
   rw[Xj e,b];exact h2
  ·have e':¬q.1=k:=fun z=>e (J.trans z);have b:atKey (q::qs) k=atKey qs k:=by simp[atKey,UP,e']
   rw[Xi e,b];exact ih
theorem KT.tW{H:Hp}{Zs:List (List Key×V)}{xs:List (List Key×Addr×Value)}(r:KT H Zs xs)(k:List Key){y:V}{u:Value}(ry:RelV y u):KT H (Zs.map fun kv=>if kv.1=k then(kv.1,y)else kv) (xs.map (putAt k u)):=by
 induction r with
 |nil=>exact .nil
 |@cons p q ps qs h t ih=>
  rw[Y7,Y7];refine .cons ?_ ih;obtain⟨J,h2,h3⟩:=h;unfold putAt;by_cases e:p.1=k;·rw[Z7 e,Z7 (J.symm.trans e)];exact⟨J,h2,ry⟩
  ·rw[Z8 e,Z8 (fun z=>e (J.trans z))];exact⟨J,h2,h3⟩
theorem KT.put{H:Hp}{Zs:List (List Key×V)}{xs:List (List Key×Addr×Value)}(r:KT H Zs xs)(k:List Key){b:Addr}{y:V}{u:Value}(O:H b=some (.tup (k.map kV)))(ry:RelV y u):KT H (putK Zs k y) (storedH xs k b u):=by
 have e:(Zs.any fun kv=>decide (kv.1=k))=(atKey xs k).isSome:=by rw[V6,(r.val k).Tt,Option.isSome_map]
 unfold putK storedH;rw[e];by_cases q:(atKey xs k).isSome=true;·rw[Z7 q,Z7 q];exact r.tW k ry
 ·rw[Z8 q,Z8 q];exact Paired.snoc r ⟨Y,O,ry⟩
theorem KT.keeps{H H':Hp}{Zs:List (List Key×V)}{xs:List (List Key×Addr×Value)}(r:KT H Zs xs)(ht:∀b ys,H b=some (.tup ys)->H' b=some (.tup ys)):KT H' Zs xs:=
 Paired.uC r fun _ _ z=>⟨z.1,ht _ _ z.2.1,z.2.2⟩
section
variable{P:Program}{w:World}{H:Hp}{h:Heap}{a:Addr}
theorem vi{u:HO}(ok:Tw P w H h)(e:Rd H a u):Xe P w H h a u:=e.ok ok
theorem NY{Zs:List (Key×V)}(ok:Tw P w H h)(e:Rd H a (.dK Zs)):Zs.length<=sizeLine/\(a==sysModules)=false/\∃vs,KV Zs vs/\h.DictOf (XB P w) a vs:=
 show Xe P w H h a (.dK Zs)from vi ok e
theorem vh{Zs:List (Key×V)}(ok:Tw P w H h)(e:H a=some (.dK Zs)):Zs.length<=sizeLine/\(a==sysModules)=false/\∃vs,KV Zs vs/\h.DictOf (XB P w) a vs:=NY ok (.inl e)
theorem Ow{ks:List Key}(ok:Tw P w H h)(e:H a=some (.tup (ks.map kV))):(tupleKind (XB P w)).is h ks a:=by
 obtain⟨_,Y_,r,o,J,h2,n,h3⟩:=(show Xe P w H h a (.tup (ks.map kV))from ok a _ e);exact⟨o,Y_.toArray,n,J,h2,h3,by simpa using J7 r⟩
theorem Mm{Zs:List (List Key×V)}(ok:Tw P w H h)(e:Rd H a (.dT Zs)):Zs.length<=sizeLine/\(a==sysModules)=false/\∃xs,KT H Zs xs/\h.DictOfH (tupleKind (XB P w)) a xs:=by
 obtain⟨z,y,xs,r,o,es,ep,J,h2,h3,h4,h5⟩:=(show Xe P w H h a (.dT Zs)from vi ok e);refine⟨z,y,xs,r,o,es,ep,J,h2,h3,h4,fun x hx=>?_,h5⟩;have all:∀{l:List (List Key×V)}{m:List (List Key×Addr×Value)},KT H l m->∀x∈m,(tupleKind (XB P w)).is h x.1 x.2.1:=by
  intro l m q;induction q with
  |nil=>intro x hx;exact nomatch hx
  |@cons p q ps qs hq t ih=>
   intro x hx;rcases ZH.mp hx with e|hx
   ·subst e;exact Ow ok (by rw[<-hq.1];exact hq.2.1)
   ·exact ih x hx
 exact all r x hx
theorem qg{Zs:List (List Key×V)}(ok:Tw P w H h)(e:H a=some (.dT Zs)):Zs.length<=sizeLine/\(a==sysModules)=false/\∃xs,KT H Zs xs/\h.DictOfH (tupleKind (XB P w)) a xs:=Mm ok (.inl e)
end
def R9(H:Hp)(a:Addr)(y:V)(r:Option V):Prop:=
 (∃Zs k,Rd H a (.dK Zs)/\y=kV k/\r=VH Zs k)\/∃Zs k b,Rd H a (.dT Zs)/\y=.ref b/\H b=some (.tup (k.map kV))/\r=VH Zs k
def G7(H:Hp)(a:Addr)(y v:V)(H':Hp):Prop:=
 (∃Zs k,H a=some (.dK Zs)/\y=kV k/\Zs.length<sizeLine/\H'=upd H a (.dK (putK Zs k v)))\/
 ∃Zs k b,H a=some (.dT Zs)/\y=.ref b/\H b=some (.tup (k.map kV))/\Zs.length<sizeLine/\H'=upd H a (.dT (putK Zs k v))
theorem R9.k{H:Hp}{a:Addr}{Zs:List (Key×V)}{k:Key}(e:H a=some (.dK Zs)):R9 H a (kV k) (VH Zs k):=.inl ⟨Zs,k,.inl e,Y,Y⟩
theorem G7.k{H:Hp}{a:Addr}{Zs:List (Key×V)}{k:Key}{v:V}(e:H a=some (.dK Zs))(hl:Zs.length<sizeLine):G7 H a (kV k) v (upd H a (.dK (putK Zs k v))):=.inl ⟨Zs,k,e,Y,hl,Y⟩
section
variable{X:Cx}{pins:List (Addr×Obj)}{σ:St}{H:Hp}{s:Shared}{a:Addr}{y v:V}{u r:Value}{o:Option V}{A:Around}{E:Value->Shared->Prop}
theorem Inv.big(I:Inv X pins σ H s):sysModules<s.heap.objs.size:=by
 have h:mainGlobals<s.heap.objs.size:=(I.mod.glob.keeps I.bk).lt;exact Nat.lt_trans (by decide) h
theorem Cc{Q:Value->Shared->Prop}(hu:A.units+1<cLine)(I:Inv X pins σ H s)(g:R9 H a y (some v))(ry:RelV y u)(h:∀w' s',Inv X pins σ H s'->RelV v w'->Q w' s'):wpAny (model X.prog X.w) A (getItem (.ref a) u) Q E s:=by
 rcases g with⟨Zs,k,e,ey,l⟩|⟨Zs,k,b,e,ey,eb,l⟩
 ·subst ey;obtain⟨z,hd,vs,rel,dd⟩:=NY I.Ya e;obtain⟨w',hw,Cf⟩:=R_.some_of (v:=v) (o:=valueAt vs k) (by rw[l];exact rel.val k);exact wpAny_getItem_of (Mo ry) dd.mapOf hw (h w' _ (I.tok _) Cf)
 ·subst ey;cases(show u=Value.ref b from ry);obtain⟨z,hd,xs,rel,dd⟩:=Mm I.Ya e;obtain⟨w',hw,Cf⟩:=R_.some_of (v:=v) (o:=(atKey xs k).map (·.2)) (by rw[l];exact rel.val k);obtain⟨p,hp,qf⟩:=UL.mp hw;refine wpAny_getItem_heap (TC hu) (Ow I.Ya eb) dd hp ?_;rw[qf];exact h w' _ (I.tok _) Cf
theorem lR{Q:Value->Shared->Prop}(hu:A.units+1<cLine)(I:Inv X pins σ H s)(g:R9 H a y o)(ry:RelV y u)(h:∀s',Inv X pins σ H s'->Q (.bool o.isSome) s'):wpAny (model X.prog X.w) A (compareOp .In u (.ref a)) Q E s:=by
 rcases g with⟨Zs,k,e,ey,l⟩|⟨Zs,k,b,e,ey,eb,l⟩
 ·subst ey;obtain⟨z,hd,vs,rel,dd⟩:=NY I.Ya e;refine wpAny_in_of (Mo ry) hd dd.mapOf ?_;rw[<-(rel.val k).Tt,<-l];exact h _ (I.tok _)
 ·subst ey;cases(show u=Value.ref b from ry);obtain⟨z,hd,xs,rel,dd⟩:=Mm I.Ya e;refine wpAny_in_heap (TC hu) (Ow I.Ya eb) hd dd ?_;have q:=(rel.val k).Tt;rw[Option.isSome_map]at q;rw[<-q,<-l];exact h _ (I.tok _)
theorem xA{Q:Value->Shared->Prop}(hu:A.units+1<cLine)(I:Inv X pins σ H s)(g:R9 H a y o)(ry:RelV y u)(h:∀s',Inv X pins σ H s'->Q (.bool (!o.isSome)) s'):wpAny (model X.prog X.w) A (compareOp .NotIn u (.ref a)) Q E s:=by
 rcases g with⟨Zs,k,e,ey,l⟩|⟨Zs,k,b,e,ey,eb,l⟩
 ·subst ey;obtain⟨z,hd,vs,rel,dd⟩:=NY I.Ya e;refine wpAny_notIn_of (Mo ry) hd dd.mapOf ?_;rw[<-(rel.val k).Tt,<-l];exact h _ (I.tok _)
 ·subst ey;cases(show u=Value.ref b from ry);obtain⟨z,hd,xs,rel,dd⟩:=Mm I.Ya e;refine wpAny_notIn_heap (TC hu) (Ow I.Ya eb) hd dd ?_;have q:=(rel.val k).Tt;rw[Option.isSome_map]at q;rw[<-q,<-l];exact h _ (I.tok _)
theorem I_{h':Heap}{t':Nat}{ob:HO}(I:Inv X pins σ H s)(mu:rj (H a))(hs:Heap.SameBut a s.heap h')(he:∃q,h'.get? a=some q)(new:Xe X.prog X.w (upd H a ob) h' a ob):Inv X pins σ (upd H a ob) {s with heap:=h',toks:=t'}:=
 I.write (x:=a) (e:=a) mu (.inl Y) (fun b q O z=>(hs.2 b O).trans z) he new
theorem EV{P:Program}{w:World}{H':Hp}{h':Heap}{Zs:List (Key×V)}{vs:List (Key×Value)}(z:Zs.length<=sizeLine)(hd:(a==sysModules)=false)(rel:KV Zs vs)(dd:h'.DictOf (XB P w) a vs):Xe P w H' h' a (.dK Zs):=⟨z,hd,vs,rel,dd⟩
theorem Cb{H':Hp}{Q:Unit->Shared->Prop}(hu:A.units+1<cLine)(I:Inv X pins σ H s)(g:G7 H a y v H')(ry:RelV y u)(rv:RelV v r)(h:∀s',Inv X pins σ H' s'->Q () s'):wpAny (model X.prog X.w) A (setItem (.ref a) u r) Q E s:=by
 rcases g with⟨Zs,k,e,ey,l,eH⟩|⟨Zs,k,b,e,ey,eb,l,eH⟩
 ·subst ey eH;obtain⟨z,hd,vs,rel,dd⟩:=vh I.Ya e;have hz:vs.length<=sizeLine:=by rw[<-rel.length];exact z
  have hl:(putK Zs k v).length<=sizeLine:=by have:=RM Zs k v;omega
  refine wpAny_setItem_pairs (hsz:=hz) (Mo ry) dd fun h' xy hs=>h _ ?_;have he:∃q,h'.get? a=some q:=let⟨q,_,_,hq,_⟩:=xy;⟨q,hq⟩
  exact I_ I (by rw[e];exact True.intro) hs he (EV hl hd (rel.put k rv) xy)
 ·subst ey eH;cases(show u=Value.ref b from ry);obtain⟨z,hd,xs,rel,dd⟩:=qg I.Ya e;have hz:xs.length<=sizeLine:=by rw[<-Paired.length rel];exact z
  have hl:(putK Zs k v).length<=sizeLine:=by have:=RM Zs k v;omega
  refine wpAny_setItem_heap (hsz:=hz) (TC hu) (Ow I.Ya eb) dd fun h' xy hs=>h _ ?_;obtain⟨q,es,ep,hq,h2,h3,h4,_,h5⟩:=xy;refine I_ I (by rw[e];exact True.intro) hs ⟨q,hq⟩ ⟨hl,hd,_,(rel.put k eb rv).keeps fun c ys ec=>?_,q,es,ep,hq,h2,h3,h4,h5⟩;rw[ZW (rB ec e (fun z=>nomatch z))];exact ec
end
def tV(i:Expr):Prop:=∀ov iv,subscripted i false ov iv=operate [ov,iv] (getItem ov iv)
theorem DB{prog:Program}{w:World}{A:Around}{E:Value->Shared->Prop}{s:Shared}{env:Env}{value slice:Expr}{pos:Pos}{T id:String}{Q:Value->Shared->Prop}(hl:typeLookup (.type T) "__getitem__"=pure (some (.builtin id)))(hs:tV slice)(h:wpAny (model prog w) A (eval value env) (fun o X5=>wpAny (model prog w) A (eval slice env) (fun i Qs=>Qs.TypeIs o T/\wpAny (model prog w) A (getItem o i) Q E Qs) E X5) E s):wpAny (model prog w) A (eval (.Subscript value slice pos) env) Q E s:=by
 refine Subscript_ (X' h (fun o X5 xC=>X' xC (fun i Qs AH=>?_) fun _ _ x=>x) fun _ _ x=>x);obtain⟨hT,AH⟩:=AH;unfold subscriptTail;refine ZV ?_;rw[getitemInPython_of_ne hT.not_modules];refine ZV (wpAny_specialOf hT hl ?_);have fin:wpAny (model prog w) A (subscripted slice false o i) (fun r Hr=>wpAny (model prog w) A (letTemporaryGo value o r>>=fun _=>pure r) Q E Hr) E Qs:=by
  rw[hs o i];exact wpAny_operating (X' AH (fun r Hr xB=>ZV (wpAny_letTemporaryGo (Zt xB))) fun _ _ x=>x)
 first
  |exact Zt (ZV fin)
  |exact ZV (Zt (ZV fin))
  |exact ZV fin
theorem G5{X:Cx}{pins:List (Addr×Obj)}{σ:St}{H:Hp}{s:Shared}{a:Addr}{y:V}{o:Option V}(I:Inv X pins σ H s)(g:R9 H a y o):s.TypeIs (.ref a) "dict":=by
 rcases g with⟨Zs,k,e,_,_⟩|⟨Zs,k,b,e,_,_,_⟩
 ·obtain⟨_,_,vs,_,dd⟩:=NY I.Ya e;exact dd.typeIs
 ·obtain⟨_,_,xs,_,dd⟩:=Mm I.Ya e;exact dd.typeIs
def qe(td ty:TE):TE:=fun σ H Q=>td σ H fun x H1=>ty σ H1 fun y H2=>∃a v,x=.ref a/\R9 H2 a y (some v)/\Q v H2
def lQ(ty td:TE):TE:=fun σ H Q=>ty σ H fun y H1=>td σ H1 fun x H2=>∃a o,x=.ref a/\R9 H2 a y o/\Q (.bl o.isSome) H2
def xx(ty td:TE):TE:=fun σ H Q=>ty σ H fun y H1=>td σ H1 fun x H2=>∃a o,x=.ref a/\R9 H2 a y o/\Q (.bl (!o.isSome)) H2
def AE(td ty tv:TE):TS:=fun D σ H=>tv σ H fun v H1=>td σ H1 fun x H2=>ty σ H2 fun y H3=>∃a H4,x=.ref a/\G7 H3 a y v H4/\D.nx σ H4
section
variable{X:Cx}{o i e value:Expr}{pos pos' Mw:Pos}{td ty tv:TE}
theorem WH(hu:X.A.units+1<cLine)(ho:PE X o td)(hi:PE X i ty)(hs:tV i):PE X (.Subscript o i pos) (qe td ty):=by
 intro pins s σ H Q I h;refine DB PySem.F.slot_dict_getitem.lookup hs (Yg (ho pins s σ H _ I h) fun u s1 ⟨x,H1,I1,rx,q1⟩=>Yg (hi pins s1 σ H1 _ I1 q1) fun iv s2 ⟨y,H2,I2,ry,a,v,ex,g,q2⟩=>?_);subst ex;obtain rfl:u=Value.ref a:=rx;exact⟨G5 I2 g,Cc hu I2 g ry fun w' s3 I3 Cf=>⟨v,H2,I3,Cf,q2⟩⟩
theorem EU(hu:X.A.units+1<cLine)(hi:PE X i ty)(ho:PE X o td):PC X .In i o (lQ ty td):=by
 intro pins s σ H Q I h;refine Yg (hi pins s σ H _ I h) fun iv s1 ⟨y,H1,I1,ry,q1⟩=>Yg (ho pins s1 σ H1 _ I1 q1) fun u s2 ⟨x,H2,I2,rx,a,ov,ex,g,q2⟩=>?_;subst ex;obtain rfl:u=Value.ref a:=rx;exact lR hu I2 g ry fun s3 I3=>⟨.bl ov.isSome,H2,I3,Y,q2⟩
theorem Wh(hu:X.A.units+1<cLine)(hi:PE X i ty)(ho:PE X o td):PC X .NotIn i o (xx ty td):=by
 intro pins s σ H Q I h;refine Yg (hi pins s σ H _ I h) fun iv s1 ⟨y,H1,I1,ry,q1⟩=>Yg (ho pins s1 σ H1 _ I1 q1) fun u s2 ⟨x,H2,I2,rx,a,ov,ex,g,q2⟩=>?_;subst ex;obtain rfl:u=Value.ref a:=rx;exact xA hu I2 g ry fun s3 I3=>⟨.bl (!ov.isSome),H2,I3,Y,q2⟩
theorem Pw(hu:X.A.units+1<cLine)(ho:PE X o td)(hi:PE X i ty)(hv:PE X value tv)(hs:swapsWith value (some (.Subscript o i pos')) pos.line X.env=pure false):PS X (.Assign [.Subscript o i pos'] value pos) (AE td ty tv):=by
 intro pins s σ H D I h;refine wpAny_Assign_Subscript (Yg (hv pins s σ H _ I h) fun r s1 ⟨v,H1,I1,rv,q1⟩=>Yg (ho pins s1 σ H1 _ I1 q1) fun u s2 ⟨x,H2,I2,rx,q2⟩=>Yg (hi pins s2 σ H2 _ I2 q2) fun iv s3 ⟨y,H3,I3,ry,a,H4,ex,g,q3⟩=>?_) hs;subst ex;obtain rfl:u=Value.ref a:=rx;exact Cb hu I3 g ry rv fun s4 I4=>⟨σ,H4,I4,q3⟩
end
theorem G4{P:Program}{w:World}{H:Hp}(h:Heap)(O:sysModules<h.objs.size):Xe P w H (h.push {cls:=.type "dict",data:=.dict #[]}) h.objs.size (.dK []):=
 ⟨Zw _,VL.mpr (Xo (Za O)),[],.nil,Heap.DictOf.new h⟩
def tU:TE:=fun _ H Q=>∀p,H p=none->Q (.ref p) (upd H p (.dK []))
section
variable{X:Cx}{pos:Pos}
theorem G3:PE X (.Dict [] [] pos) tU:=fun pins s σ H Q I h=>
 wpAny_Dict_empty ⟨.ref s.heap.objs.size,_,I.laid (a:=s.heap.objs.size) (o:=.dK []) (t':=s.toks) (fun _ _ q=>YF _ q) (ZM _) (G4 s.heap I.big),Y,h _ (I.Ya.fresh (ZM _))⟩
end
def ET:List (TE×TE)->St->Hp->(List (V×V)->Hp->Prop)->Prop
 |[],_,H,Q=>Q [] H
 |(tk,tv)::r,σ,H,Q=>tk σ H fun x H1=>tv σ H1 fun y H2=>ET r σ H2 fun ps H3=>Q ((x,y)::ps) H3
abbrev VV:List (V×V)->List (Value×Value)->Prop:=Paired fun p q=>RelV p.1 q.1/\RelV p.2 q.2
def oa(X:Cx)(pos:Pos)(keys:List (Option Expr))(values:List Expr)(xw:List (TE×TE)):Prop:=
 ∀(pins:List (Addr×Obj))(s:Shared)(σ:St)(H:Hp)(Q:List (V×V)->Hp->Prop),Inv X pins σ H s->ET xw σ H Q->
  wpAny (model X.prog X.w) X.A (evalPairs (pairTrees keys values X.env pos)) (fun vs s'=>∃ps H',Inv X pins σ H' s'/\VV ps vs/\Q ps H') X.xe s
theorem Dz{X:Cx}{pos:Pos}:oa X pos [] [] []:=fun pins s σ H Q I h=>pairTrees_nil_walk ⟨[],H,I,.nil,h⟩
theorem G2{X:Cx}{pos:Pos}{k v:Expr}{ks:List (Option Expr)}{vs:List Expr}{tk tv:TE}{xw:List (TE×TE)}(hk:PE X k tk)(hv:PE X v tv)(hr:oa X pos ks vs xw):oa X pos (some k::ks) (v::vs) ((tk,tv)::xw):=fun pins s σ H Q I h=>
 pairTrees_cons_walk (Yg (hk pins s σ H _ I h) fun u s1 ⟨x,H1,I1,rx,q1⟩=>Yg (hv pins s1 σ H1 _ I1 q1) fun w2 s2 ⟨y,H2,I2,ry,q2⟩=>
  Yg (hr pins s2 σ H2 _ I2 q2) fun ws s3 ⟨ps,H3,I3,rel,q3⟩=>⟨(x,y)::ps,H3,I3,.cons ⟨rx,ry⟩ rel,q3⟩)
def RL(Zs more:List (Key×V)):List (Key×V):=more.foldl (fun acc kv=>putK acc kv.1 kv.2) Zs
theorem KV.merge:∀{more:List (Key×V)}{rs:List (Key×Value)}{Zs:List (Key×V)}{vs:List (Key×Value)},KV more rs->KV Zs vs->KV (RL Zs more) (merged vs rs):=by
 intro more rs Zs vs r;unfold KV at r;induction r generalizing Zs vs with
 |nil=>intro q;exact q
 |@cons p q ps qs h t ih=>
  intro r0;have e:KV (putK Zs p.1 p.2) (stored vs q.1 q.2):=by
   have:=r0.put p.1 h.2;rw[<-h.1];exact this
  exact ih e
theorem QL:∀(more Zs:List (Key×V)),(RL Zs more).length<=Zs.length+more.length
 |[],Zs=>by show Zs.length<=Zs.length+0;omega
 |p::r,Zs=>by
  have J:=QL r (putK Zs p.1 p.2);have h2:=RM Zs p.1 p.2;show(RL (putK Zs p.1 p.2) r).length<=_;rw[Zj];omega
theorem Ml{P:Program}{w:World}:∀{Zs:List (Key×V)}{ws:List (Value×Value)},VV (Zs.map fun kv=>(kV kv.1,kv.2)) ws->∃rs,Carries (XB P w) ws rs/\KV Zs rs
 |[],_,r=>by rw[List.map_nil]at r;cases r;exact⟨[],True.intro,.nil⟩
 |p::Zs,_,r=>by
  rw[Y7]at r;cases r with
  |@cons a b as bs h t=>
   obtain⟨rs,c,q⟩:=Ml (P:=P) (w:=w) t;obtain⟨b1,b2⟩:=b;exact⟨(p.1,b2)::rs,⟨Mo h.1,Y,c⟩,.cons ⟨Y,h.2⟩ q⟩
def qd(xw:List (TE×TE)):TE:=fun σ H Q=>∀p,H p=none->ET xw σ (upd H p (.dK [])) fun ps H2=>H2 p=some (.dK [])/\∃Zs:List (Key×V),ps=Zs.map (fun kv=>(kV kv.1,kv.2))/\Zs.length<=15/\Q (.ref p) (upd H2 p (.dK (RL [] Zs)))
theorem Dy{X:Cx}{pos:Pos}{keys:List (Option Expr)}{values:List Expr}{xw:List (TE×TE)}(h:oa X pos keys values xw)(T3:keys.all (·.isSome)=true)(hl:keys.length=values.length)(h0:keys≠[])(fE:keys.length<=15):PE X (.Dict keys values pos) (qd xw):=by
 intro pins s σ H Q I q;have hn:=I.Ya.fresh (ZM s.heap.objs.size);have I1:=I.laid (a:=s.heap.objs.size) (o:=.dK []) (h':=s.heap.push {cls:=.type "dict",data:=.dict #[]}) (t':=s.toks) (fun _ _ q=>YF _ q) (ZM _) (G4 s.heap I.big);refine wpAny_Dict_walk (knd:=XB X.prog X.w) T3 hl h0 fE (Yg (h pins _ σ _ _ I1 (q _ hn)) fun ws s2 ⟨ps,H2,I2,rel,e,Zs,ep,lk,q2⟩=>?_);subst ep;obtain⟨rs,c,rk⟩:=Ml (P:=X.prog) (w:=X.w) rel;obtain⟨z,hd,aO,r0,dd⟩:=vh I2.Ya e;cases r0;refine⟨rs,c,dd,fun h' xy hs=>⟨.ref s.heap.objs.size,_,?_,Y,q2⟩⟩;have hz:(RL [] Zs).length<=sizeLine:=by
  have J:=QL Zs [];rw[List.length_nil]at J;rw[sizeLine_eq];omega
 have he:∃q,h'.get? s.heap.objs.size=some q:=let⟨q,_,_,hq,_⟩:=xy;⟨q,hq⟩
 exact I_ I2 (by rw[e];exact True.intro) hs he (EV hz hd (rk.merge .nil) xy)
structure M1(X:Cx)(o:Expr)(m:Str)(apos:Pos)(e:Expr)(RS:Pos):Prop where
 base:attributeBase o m X.env (eval o X.env)=eval o X.env
 lP:((backTo RS (starEach [e] X.env)).all (fun x=>!x.1)&&(backToKw RS (keywordEach [] X.env)).all (fun x=>x.1.isSome)
  &&decide (([e]:List Expr).length+([]:List Keyword).length+(if([]:List Keyword).isEmpty then 0 else 1)<30))=true
 line:(apos.endLine==RS.line)=true
 trees:backTo RS (starEach [e] X.env)=[(false,eval e X.env)]
def iY(H:Hp)(a:Addr):Prop:=(∃Zs,Rd H a (.dK Zs))\/∃Zs,Rd H a (.dT Zs)
theorem tS{X:Cx}{pins:List (Addr×Obj)}{σ:St}{H:Hp}{s:Shared}{a:Addr}(I:Inv X pins σ H s)(d:iY H a):s.TypeIs (.ref a) "dict"/\(∀b,Value.ref a=.ref b->∃ob,s.heap.get? b=some ob/\ob.dict=none)/\(a==sysModules)=false:=by
 rcases d with⟨Zs,e⟩|⟨Zs,e⟩
 ·obtain⟨_,hd,vs,_,dd⟩:=NY I.Ya e;refine⟨dd.typeIs,fun b q=>?_,hd⟩;cases q;obtain⟨ob,_,_,J,h2,_⟩:=dd;exact⟨ob,J,h2.2.1⟩
 ·obtain⟨_,hd,xs,_,dd⟩:=Mm I.Ya e;refine⟨dd.typeIs,fun b q=>?_,hd⟩;cases q;obtain⟨ob,_,_,J,h2,_⟩:=dd;exact⟨ob,J,h2.2.1⟩
section
variable{X:Cx}{pins:List (Addr×Obj)}{σ:St}{H:Hp}{s:Shared}{a:Addr}{y d:V}{u r:Value}{o:Option V}{A:Around}{E:Value->Shared->Prop}
theorem tR{Q:Value->Shared->Prop}(hu:A.units+1<cLine)(I:Inv X pins σ H s)(g:R9 H a y o)(ry:RelV y u)(h:∀w' s',Inv X pins σ H s'->RelV (o.getD .Xs) w'->Q w' s'):wpAny (model X.prog X.w) A (call (.builtin "dict.get") [.ref a,u]) Q E s:=by
 rcases g with⟨Zs,k,e,ey,l⟩|⟨Zs,k,b,e,ey,eb,l⟩
 ·subst ey;obtain⟨z,hd,vs,rel,dd⟩:=NY I.Ya e;refine call_meetsIn PySem.F.slot_dict_get dd.typeIs PySem.F.entry_dict_get (PySem.F.args_dict_get_2 _ _) (meets_dict_get (XB X.prog X.w) a (Mo ry) hd) ⟨_,dd.mapOf,h _ _ (I.tok _) ?_⟩;rw[l];exact(rel.val k).getD rfl
 ·subst ey;cases(show u=Value.ref b from ry);obtain⟨z,hd,xs,rel,dd⟩:=Mm I.Ya e;refine call_meetsIn PySem.F.slot_dict_get dd.typeIs PySem.F.entry_dict_get (PySem.F.args_dict_get_2 _ _) (meetsH_dict_get (tupleKind (XB X.prog X.w)) a b hd) ⟨TC hu,k,xs,Ow I.Ya eb,dd,h _ _ (I.tok _) ?_⟩;rw[l];exact(rel.val k).getD rfl
end
def tQ(td ty:TE):TE:=fun σ H Q=>td σ H fun x H1=>∃a,x=.ref a/\iY H1 a/\ty σ H1 fun y H2=>∃o,R9 H2 a y o/\Q (o.getD .Xs) H2
section
variable{X:Cx}{o e f:Expr}{apos RS:Pos}{td ty tx:TE}
theorem AD(hu:X.A.units+1<cLine)(ho:PE X o td)(he:PE X e ty)(m:M1 X o "get" apos e RS):PE X (.Call (.Attribute o "get" apos) [e] [] RS) (tQ td ty):=by
 intro pins s σ H Q I h;refine wpAny_Call_method m.base m.lP m.line PySem.F.plainAttrs_dict PySem.F.slot_dict_get PySem.F.type_dict_get (Yg (ho pins s σ H _ I h) fun u s1 ⟨x,H1,I1,rx,a,ex,d,q1⟩=>?_);subst ex;obtain rfl:u=Value.ref a:=rx;obtain⟨t1,t2,_⟩:=tS I1 d;refine⟨t1,t2,?_⟩;rw[m.trees];refine Calls.callWith_builtin Y (Calls.evalArgs_plain (Calls.spliced_cons (Yg (he pins s1 σ H1 _ I1 q1) fun iv s2 ⟨y,H2,I2,ry,ov,g,q2⟩=>Calls.spliced_nil ?_)));exact tR hu I2 g ry fun w' s3 I3 Cf=>⟨_,H2,I3,Cf,q2⟩
end
section
variable{X:Cx}{pins:List (Addr×Obj)}{σ:St}{H:Hp}{s:Shared}{a:Addr}{Zs:List (Key×V)}{A:Around}{E:Value->Shared->Prop}
theorem AB{Q:Value->Shared->Prop}(I:Inv X pins σ H s)(e:Rd H a (.dK Zs))(h:∀p s',H p=none->Inv X pins σ (upd H p (.dK Zs)) s'->Q (.ref p) s'):wpAny (model X.prog X.w) A (call (.type "dict") [.ref a]) Q E s:=by
 obtain⟨z,hd,vs,rel,dd⟩:=NY I.Ya e;refine kt_call_dict hd dd (by rw[<-rel.length];exact z) fun h' xy hs=>?_;refine h _ _ (I.Ya.fresh (ZM _)) (I.laid (a:=s.heap.objs.size) (o:=.dK Zs) (t':=s.toks) (fun b q hq=>?_) (ZM _) (EV z (VL.mpr (Xo (Za I.big))) rel xy));exact(hs.2 b (Za (Zr hq))).trans (YF _ hq)
end
end L2
namespace L2
open PySem PySem.Spec PyProof.Rows
section
variable{X:Cx}{pins:List (Addr×Obj)}{σ:St}{H:Hp}{s:Shared}{h':Heap}
theorem Inv.xu{t':Nat}{ch:List Addr}(I:Inv X pins σ H s)(k:∀b o,b∉ch->s.heap.get? b=some o->h'.get? b=some o)(hf:∀b∈ch,M8 X pins H b):Inv X pins σ H {s with heap:=h',toks:=t'}:=by
 have vB:∀b u,H b=some u->b∉ch:=fun b u e z=>by
  have q:=(hf b z).1;rw[q]at e;cases e
 refine I.step (g':=s.gens) (d':=s.drawn) (ch:=ch) (fun b O=>⟨(hf b O).2.2.2.1,(hf b O).2.1,(hf b O).2.2.2.2.1,(hf b O).2.2.2.2.2⟩) (fun b o _ _ hc e _=>k b o hc e) (fun b o _ _ hc e _=>⟨o.slots,k b o hc e⟩)
  (fun _ _ _ _ n=>n) (fun b o hc e=>⟨o,k b o hc e⟩) (fun _ _ e=>e) (fun _ _ _ e=>e) (fun b ps e=>⟨#[],by rw[e];simp⟩) (fun m hm=>?_) (fun b u e=>?_) I.bare
 ·obtain⟨o,es,ep,ho,r⟩:=hm;exact⟨o,es,ep,k _ o (fun z=>(hf _ z).2.1 rfl) ho,r⟩
 ·refine(I.Ya b u e).Fh (fun c v hc q=>k c v ?_ q) (fun _ q=>q) fun _ _ q=>q;rcases hc with z|z;·rw[z];exact vB b u e
  ·exact vB c _ z
theorem Inv.J6{t':Nat}{ch:List Addr}{T:Addr}{ob:HO}(I:Inv X pins σ H s)(k:∀b o,b∉ch->s.heap.get? b=some o->h'.get? b=some o)(hf:∀b∈ch,M8 X pins H b)(hT:s.heap.objs.size<=T)(new:Xe X.prog X.w (upd H T ob) h' T ob):Inv X pins σ (upd H T ob) {s with heap:=h',toks:=t'}:=by
 have hn:H T=none:=I.Ya.fresh hT;have vB:∀b u,H b=some u->b∉ch:=fun b u e z=>by
  have q:=(hf b z).1;rw[q]at e;cases e
 refine I.step (g':=s.gens) (d':=s.drawn) (ch:=ch) (fun b O=>⟨(hf b O).2.2.2.1,(hf b O).2.1,(hf b O).2.2.2.2.1,(hf b O).2.2.2.2.2⟩) (fun b o _ _ hc e _=>k b o hc e) (fun b o _ _ hc e _=>⟨o.slots,k b o hc e⟩)
  (fun b o _ e n=>?_) (fun b o hc e=>⟨o,k b o hc e⟩) (fun b xs e=>?_) (fun b o u e=>?_) (fun b ps e=>⟨#[],?_⟩) (fun m hm=>?_) (fun b u e=>?_) I.bare
 ·rw[ZW (Za (Zo (Zr e) hT))];exact n
 ·rw[ZW (ZA e hn)];exact e
 ·rw[ZW (ZA e hn)];exact e
 ·rw[ZW (ZA e hn),e];simp
 ·obtain⟨o,es,ep,ho,r⟩:=hm;exact⟨o,es,ep,k _ o (fun z=>(hf _ z).2.1 rfl) ho,r⟩
 ·by_cases O:b=T
  ·subst O;rw[Z4]at e;cases e;exact new
  ·rw[ZW O]at e;refine(I.Ya b u e).Fh (fun c v hc q=>k c v ?_ q) (fun c q=>by rw[ZW (ZA q hn)];exact q) fun c xs q=>by rw[ZW (ZA q hn)];exact q
   rcases hc with z|z;·rw[z];exact vB b u e
   ·exact vB c _ z
end
def vg(K:W.Frag)(a:Addr):It:=
 ⟨fun i H=>∃(xs:List V) (x:V),Zz K H a xs/\xs[i]?=some x,fun i H v H'=>∃T x,v=.ref T/\H T=none/\H'=upd H T (.tup [.int (i:Nat),x])/\∀xs,Zz K H a xs->xs[i]?=some x,fun i H=>∃xs:List V,Zz K H a xs/\xs.length<=i⟩
theorem Ca{P:Program}{w:World}{K:W.Frag}{elts:List Expr}{kk:Nat}{Mw:Pos}(a e it:Addr):Turn P w K (.Tuple elts kk Mw) (vg K a) [e,it] e (fun i h=>(∃old,IsEnum h e it ((i:Nat):Int) old)/\h.IsListIter it a i/\e≠it)where
 mem:=by simp
 obj:=fun i h st b O=>by
  obtain⟨⟨old,he⟩,⟨o,ho,hc,hd⟩,_⟩:=st;have e':b=e\/b=it:=by simpa using O
  rcases e' with z|z;·rw[z];exact⟨_,he,fun v q=>nomatch q⟩
  ·rw[z];exact⟨o,ho,fun v q=>by rw[hd]at q;cases q⟩
 keep:=fun i h h' st k=>let⟨⟨old,he⟩,hi,R7⟩:=st;⟨⟨old,k e (by simp) _ he⟩,hi.at fun o q=>k it (by simp) o q,R7⟩
 item:=by
  intro X hP hw hK hc i pins s σ H E I hf st hg;subst hP hw hK;obtain⟨⟨old,he⟩,hit,R7⟩:=st;obtain⟨xs,x,hq,hx⟩:=hg;obtain⟨Y_,rv,p,hz⟩:=I.list hq;obtain⟨u,hu,ru⟩:=rv.get hx;have iX:e<s.heap.objs.size:=Zr he;have fD:it<s.heap.objs.size:=by obtain⟨_,q,_⟩:=hit;exact Zr q
  refine wpAny_pyNext_enum_item he hit p.isList (x:=u) (by simpa using hu) R7 fun h' ho lO hT hsz hk=>?_;refine⟨_,Y,wpAny_letOwnedTupleGo_enum (s:={s with heap:=h',toks:=s.toks+1}) ho fun vj rP sb=>?_⟩;have lN:vj.get? s.heap.objs.size=some {cls:=.type "tuple",data:=.seq #[.int i s.toks,u]}:=(sb.2 _ (Nat.ne_of_gt iX)).trans hT;have new:Xe X.prog X.w (upd H s.heap.objs.size (.tup [.int (i:Nat),x])) vj s.heap.objs.size (.tup [.int (i:Nat),x]):=
   ⟨by show 2<=sizeLine;decide,[.int i s.toks,u],.cons ⟨_,Y⟩ (.cons ru .nil),⟨_,lN,Y,_,Y⟩⟩
  have I1:Inv X pins σ (upd H s.heap.objs.size (.tup [.int (i:Nat),x])) {s with heap:=vj,toks:=s.toks+1}:=
   I.J6 (ch:=[e,it]) (fun b ob O q=>(sb.2 b (fun z=>O (by simp[z]))).trans (hk b ob (fun z=>O (by simp[z])) (fun z=>O (by simp[z])) q)) hf (ZM _) new
  refine⟨.ref s.heap.objs.size,_,I1,Y,⟨_,x,Y,I.Ya.fresh (ZM _),Y,fun ys hy=>by rw[I.PJ hy hq];exact hx⟩,⟨⟨u,?_⟩,lO.at fun o q=>(sb.2 it (Xo R7)).trans q,R7⟩,fun b O=>?_⟩
  ·have e1:((i+1:Nat):Int)=(i:Int)+1:=by omega
   rw[e1];exact rP
  ·have lM:b<s.heap.objs.size:=by
    have e':b=e\/b=it:=by simpa using O
    rcases e' with z|z;·rw[z];exact iX
    ·rw[z];exact fD
   rw[ZW (Za lM)];exact(hf b O).1
 done:=by
  intro X hP hw hK hc i pins s σ H E I hf st hg;subst hP hw hK;obtain⟨⟨old,he⟩,hit,R7⟩:=st;obtain⟨xs,hq,hx⟩:=hg;obtain⟨Y_,rv,p,hz⟩:=I.list hq;obtain⟨f0,f1,f2,f3,f4,f5⟩:=hf it (by simp);have hl:=rv.length;exact wpAny_pyNext_enum_end (I.ok.hd hc) he hit p.isList (by simp;omega) fun h' eb=>⟨Y,I.turned (t':=s.toks) (fun b o O q=>eb b o O q) f0 f1 f3 f4 f5⟩
 self:=fun A i s Q E st h=>let⟨⟨_,he⟩,_⟩:=st;wpAny_pyIter_enum he h
def qc(K:W.Frag)(ta:TA):TI:=fun σ H R=>ta σ H fun vs H1=>∃a xs,vs=[.ref a]/\Zz K H1 a xs/\R (vg K a) H1
theorem Wn{X:Cx}{e:Expr}{ta:TA}{p pos Mw:Pos}{elts:List Expr}{kk:Nat}(hg:Gl X "enumerate")(hm:X.mg "enumerate"=none)(ha:PA X [e] ta)(hs:starEach [e] X.env=[(false,eval e X.env)]:=by rfl):PI X (.Tuple elts kk Mw) (.Call (.Name "enumerate" p) [e] [] pos) (qc X.K ta):=by
 intro pins s σ H R I h;refine Call_ (OB I hg hm boot_enumerate (PL (Yg (ha pos pins s σ H _ I h) fun us s1 ⟨vs,H1,I1,r1,q1⟩=>?_) hs Y));obtain⟨a,xs,ex,hq,q⟩:=q1;subst ex;cases r1 with
 |cons r rr=>
  cases rr;cases r;obtain⟨Y_,rv,p',hz⟩:=I1.list hq;refine call_enumerate_list p'.isList fun h' he hit hsz hk=>wpAny_pyIter_enum he ?_;have I2:Inv X pins σ H1 {s1 with heap:=h'}:=I1.kept (t':=s1.toks) hk;refine⟨s1.heap.objs.size+1,[s1.heap.objs.size+1,s1.heap.objs.size],_,_,H1,Y,I2,Ca a (s1.heap.objs.size+1) s1.heap.objs.size,⟨⟨.none,he⟩,hit,Nat.succ_ne_self _⟩,fun b O=>?_,q⟩;have e':b=s1.heap.objs.size+1\/b=s1.heap.objs.size:=by simpa using O
  have hle:s1.heap.objs.size<=b:=by
   rcases e' with z|z;·rw[z];exact RZ _ _
   ·rw[z];exact ZM _
  exact I1.A2 hle (I1.Ya.fresh hle)
theorem B_:bootBuiltins "zip"=some (.type "zip"):=by decide+kernel
def vf(K:W.Frag)(a b:Addr):It:=
 ⟨fun i H=>∃(xs ys:List V) (x y:V),Zz K H a xs/\Zz K H b ys/\xs[i]?=some x/\ys[i]?=some y,
  fun i H v H'=>∃T x y,v=.ref T/\H T=none/\H'=upd H T (.tup [x,y])/\(∀xs,Zz K H a xs->xs[i]?=some x)/\∀ys,Zz K H b ys->ys[i]?=some y,
  fun i H=>∃xs ys:List V,Zz K H a xs/\Zz K H b ys/\(xs.length<=i\/ys.length<=i)⟩
theorem AA{P:Program}{w:World}{K:W.Frag}{elts:List Expr}{kk:Nat}{Mw:Pos}{a b z TI TO i1 i2:Addr}(D:ZipApart z TI TO i1 i2 a b):Turn P w K (.Tuple elts kk Mw) (vf K a b) [z,TI,TO,i1,i2] z (fun i h=>IsZip h z TI TO .none/\IsPair h TI (.ref i1) (.ref i2)/\(∃x y,IsPair h TO x y)/\h.IsListIter i1 a i/\h.IsListIter i2 b i)where
 mem:=by simp
 obj:=fun i h st c hc=>by
  obtain⟨hz,Az,⟨x,y,yh⟩,⟨o1,e1,_,d1⟩,⟨o2,e2,_,d2⟩⟩:=st;have e':c=z\/c=TI\/c=TO\/c=i1\/c=i2:=by simpa using hc
  rcases e' with q|q|q|q|q;·rw[q];exact⟨_,hz,fun v q=>nomatch q⟩
  ·rw[q];exact⟨_,Az,fun v q=>nomatch q⟩
  ·rw[q];exact⟨_,yh,fun v q=>nomatch q⟩
  ·rw[q];exact⟨o1,e1,fun v q=>by rw[d1]at q;cases q⟩
  ·rw[q];exact⟨o2,e2,fun v q=>by rw[d2]at q;cases q⟩
 keep:=fun i h h' st k=>by
  obtain⟨hz,Az,⟨x,y,yh⟩,J,h2⟩:=st;exact⟨k z (by simp) _ hz,k TI (by simp) _ Az,⟨x,y,k TO (by simp) _ yh⟩,J.at fun o q=>k i1 (by simp) o q,h2.at fun o q=>k i2 (by simp) o q⟩
 item:=by
  intro X hP hw hK hc i pins s σ H E I hf st hg;subst hP hw hK;obtain⟨hz,Az,⟨x0,y0,yh⟩,J,h2⟩:=st;obtain⟨xs,ys,x,y,rO,rN,hx,hy⟩:=hg;obtain⟨Y_,rv,p,_⟩:=I.list rO;obtain⟨Mp,n_,p2,_⟩:=I.list rN;obtain⟨u,hu,ru⟩:=rv.get hx;obtain⟨u2,fC,fB⟩:=n_.get hy;have iW:z<s.heap.objs.size:=Zr hz;refine wpAny_pyNext_zip_item D hz Az yh J h2 p.isList p2.isList (x:=u) (y:=u2) (by simpa using hu) (by simpa using fC) fun h' z' fA fu fo hT hsz hk=>?_;refine⟨_,Y,wpAny_letOwnedTupleGo_zip (s:={s with heap:=h'}) z' fun vj fk sb=>?_⟩;have lN:vj.get? s.heap.objs.size=some {cls:=.type "tuple",data:=.seq #[u,u2]}:=(sb.2 _ (Nat.ne_of_gt iW)).trans hT;have new:Xe X.prog X.w (upd H s.heap.objs.size (.tup [x,y])) vj s.heap.objs.size (.tup [x,y]):=
   ⟨by show 2<=sizeLine;decide,[u,u2],.cons ru (.cons fB .nil),⟨_,lN,Y,_,Y⟩⟩
  have I1:Inv X pins σ (upd H s.heap.objs.size (.tup [x,y])) {s with heap:=vj}:=
   I.J6 (t':=s.toks) (ch:=[z,TI,TO,i1,i2]) (fun c o O q=>(sb.2 c (fun q'=>O (by simp[q']))).trans (hk c o (fun q'=>O (by simp[q'])) (fun q'=>O (by simp[q'])) (fun q'=>O (by simp[q'])) (fun q'=>O (by simp[q'])) q)) hf (ZM _) new
  refine⟨.ref s.heap.objs.size,_,I1,Y,⟨_,x,y,Y,I.Ya.fresh (ZM _),Y,fun l hl=>by rw[I.PJ hl rO];exact hx,fun l hl=>by rw[I.PJ hl rN];exact hy⟩,⟨fk,?_,⟨u,u2,?_⟩,?_,?_⟩,fun c n9=>?_⟩;·exact(sb.2 _ D.TIz).trans (hk _ _ D.TIz D.TITO D.TIi1 D.TIi2 Az)
  ·exact(sb.2 _ D.TOz).trans fA
  ·exact fu.at fun o q=>(sb.2 _ D.i1z).trans q
  ·exact fo.at fun o q=>(sb.2 _ D.i2z).trans q
  ·have Xd:c<s.heap.objs.size:=by
    have e':c=z\/c=TI\/c=TO\/c=i1\/c=i2:=by simpa using n9
    rcases e' with q|q|q|q|q;·rw[q];exact iW
    ·rw[q];exact Zr Az
    ·rw[q];exact Zr yh
    ·rw[q];obtain⟨_,e1,_⟩:=J;exact Zr e1
    ·rw[q];obtain⟨_,e2,_⟩:=h2;exact Zr e2
   rw[ZW (Za Xd)];exact(hf c n9).1
 done:=by
  intro X hP hw hK hc i pins s σ H E I hf st hg;subst hP hw hK;obtain⟨hz,Az,⟨x0,y0,yh⟩,J,h2⟩:=st;obtain⟨xs,ys,rO,rN,lL⟩:=hg;obtain⟨Y_,rv,p,_⟩:=I.list rO;obtain⟨Mp,n_,p2,_⟩:=I.list rN;have l1:=rv.length;have l2:=n_.length;have he:Y_.toArray[i]?=none\/Mp.toArray[i]?=none:=by
   rcases lL with q|q;·exact .inl (by simp;omega)
   ·exact .inr (by simp;omega)
  exact wpAny_pyNext_zip_end (I.ok.hd hc) D hz Az yh J h2 p.isList p2.isList he fun h' hk=>⟨Y,I.xu (t':=s.toks) (ch:=[z,TI,TO,i1,i2]) (fun c o O q=>
   hk c o (fun q'=>O (by simp[q'])) (fun q'=>O (by simp[q'])) (fun q'=>O (by simp[q'])) (fun q'=>O (by simp[q'])) q) hf⟩
 self:=fun A i s Q E st h=>wpAny_pyIter_zip st.1 h
def lK(K:W.Frag)(ta:TA):TI:=fun σ H R=>ta σ H fun vs H1=>∃a b xs ys,vs=[.ref a,.ref b]/\Zz K H1 a xs/\Zz K H1 b ys/\R (vf K a b) H1
theorem Qm{X:Cx}{e e2:Expr}{ta:TA}{p pos Mw:Pos}{elts:List Expr}{kk:Nat}(hg:Gl X "zip")(hm:X.mg "zip"=none)(ha:PA X [e,e2] ta)(hs:starEach [e,e2] X.env=(false,eval e X.env)::starEach [e2] X.env:=by rfl)(KL:(backTo pos (starEach [e2] X.env)).any (·.1)=false:=by rfl):PI X (.Tuple elts kk Mw) (.Call (.Name "zip" p) [e,e2] [] pos) (lK X.K ta):=by
 intro pins s σ H R I h;refine Call_ (OB I hg hm B_ (PL (Yg (ha pos pins s σ H _ I h) fun us s1 ⟨vs,H1,I1,r1,q1⟩=>?_) hs KL));obtain⟨a,b,xs,ys,ex,rO,rN,q⟩:=q1;subst ex;cases r1 with
 |cons r rr=>
  cases rr with
  |cons r' rr=>
   cases rr;cases r;cases r';obtain⟨Y_,rv,p1,_⟩:=I1.list rO;obtain⟨Mp,n_,p2,_⟩:=I1.list rN;have la:a<s1.heap.objs.size:=p1.lt;have lb:b<s1.heap.objs.size:=p2.lt;refine call_zip_2 p1.isList p2.isList fun h' hz Az yh J h2 hsz hk=>wpAny_pyIter_zip hz ?_;have I2:Inv X pins σ H1 {s1 with heap:=h'}:=I1.kept (t':=s1.toks) hk;refine⟨s1.heap.objs.size+4,[s1.heap.objs.size+4,s1.heap.objs.size+2,s1.heap.objs.size+3,s1.heap.objs.size,s1.heap.objs.size+1],_,_,H1,Y,I2,AA (W.ktu_apart s1.heap.objs.size a b la lb),⟨hz,Az,⟨_,_,yh⟩,J,h2⟩,fun c n9=>?_,q⟩;have e':c=s1.heap.objs.size+4\/c=s1.heap.objs.size+2\/c=s1.heap.objs.size+3\/c=s1.heap.objs.size\/c=s1.heap.objs.size+1:=by simpa using n9
   have hle:s1.heap.objs.size<=c:=by
    rcases e' with z|z|z|z|z;·rw[z];exact RZ _ _
    ·rw[z];exact RZ _ _
    ·rw[z];exact RZ _ _
    ·rw[z];exact ZM _
    ·rw[z];exact RZ _ _
   exact I1.A2 hle (I1.Ya.fresh hle)
end L2
section
namespace L2
open PySem PySem.Spec PyProof.Rows
open PySem.W (WData Codec OpenSpec Well WellAll ReadsW ReadsAllW)
mutual
inductive Dw(K:W.Frag)(H:Hp):V->WData->Prop
 |Xs:Dw K H .Xs .none
 |bl (b:Bool):Dw K H (.bl b) (.bool b)
 |int (i:Int):Dw K H (.int i) (.int i)
 |str (x:Str):Dw K H (.str x) (.str x)
 |Fn (b:Array UInt8):Dw K H (.Fn b) (.bytes b.toList)
 |lst {a:Addr} {xs:List V} {ds:List WData}:Zz K H a xs->Sq K H xs ds->Dw K H (.ref a) (.list ds)
 |tup {a:Addr} {xs:List V} {ds:List WData}:Vj K H a xs->Sq K H xs ds->Dw K H (.ref a) (.tuple ds)
inductive Sq(K:W.Frag)(H:Hp):List V->List WData->Prop
 |nil:Sq K H [] []
 |cons {v:V} {vs:List V} {d:WData} {ds:List WData}:Dw K H v d->Sq K H vs ds->Sq K H (v::vs) (d::ds)
end
theorem Dx{K:W.Frag}{H:Hp}:∀ns:List Int,Sq K H (ns.map V.int) (ns.map WData.int)
 |[]=>.nil
 |n::r=>.cons (.int n) (Dx r)
theorem Dv{K:W.Frag}{H:Hp}:∀(ns:List Int)(xs:List V),Sq K H xs (ns.map WData.int)->xs=ns.map V.int
 |[],xs,h=>by
  cases h;rfl
 |n::r,xs,h=>by
  cases h with
  |cons J h2=>
   cases J;rw[Dv r _ h2]<;>rfl
section
variable{P:Program}{w:World}{K:W.Frag}{H:Hp}{h:Heap}{R:W.WRecords}{cl:Str->Option Addr}
theorem tP{a:Addr}{xs:List V}(Ya:Tw P w H h)(KX:K.In h)(q:Zz K H a xs):∃(Y_:List Value) (o:Obj) (n:Nat),Vals xs Y_/\h.get? a=some o/\o.cls=.type "list"/\o.data=.seq Y_.toArray n:=by
 rcases q with q|⟨o,Y_,n,e,hc,_,hd,_,hv⟩
 ·obtain⟨_,Y_,n,hv,e⟩:=(show Xe P w H h a (.lst xs)from q.ok Ya);exact⟨Y_,_,n,hv,e,Y,Y⟩
 ·exact⟨Y_.toList,o,n,hv,KX _ _ e,hc,by simp[hd]⟩
theorem tO{a:Addr}{xs:List V}(Ya:Tw P w H h)(KX:K.In h)(q:Vj K H a xs):∃(Y_:List Value) (o:Obj) (n:Nat),Vals xs Y_/\h.get? a=some o/\o.cls=.type "tuple"/\o.data=.seq Y_.toArray n:=by
 rcases q with q|⟨o,Y_,n,e,hc,hd,_,hv⟩
 ·obtain⟨_,Y_,hv,o,e,hc,n,hd⟩:=(show Xe P w H h a (.tup xs)from q.ok Ya);exact⟨Y_,o,n,hv,e,hc,hd⟩
 ·exact⟨Y_.toList,o,n,hv,KX _ _ e,hc,by simp[hd]⟩
mutual
theorem Dw.reads(Ya:Tw P w H h)(KX:K.In h):∀(d:WData)(v:V)(u:Value),Dw K H v d->RelV v u->∃as,ReadsW R cl h u d as
 |.none,_,_,x,r=>by
  cases x;cases r;exact⟨_,ReadsW.none⟩
 |.bool b,_,_,x,r=>by
  cases x;cases r;exact⟨_,ReadsW.bool b⟩
 |.int i,_,_,x,r=>by
  cases x;obtain⟨t,rfl⟩:=r;exact⟨_,ReadsW.int i t⟩
 |.str s,_,_,x,r=>by
  cases x;obtain⟨t,rfl⟩:=r;exact⟨_,ReadsW.str s t⟩
 |.bytes b,_,_,x,r=>by
  cases x;obtain⟨t,rfl⟩:=r;exact⟨_,ReadsW.bytes _ t⟩
 |.list ds,_,_,x,r=>by
  cases x with
  |lst hs ha=>
   cases r;obtain⟨Y_,o,n,rv,ho,hc,hd⟩:=tP Ya KX hs;obtain⟨as,hr⟩:=Dw.readsAll Ya KX ds _ Y_ ha rv;exact⟨_,ReadsW.list ho hc hd hr⟩
 |.tuple ds,_,_,x,r=>by
  cases x with
  |tup hs ha=>
   cases r;obtain⟨Y_,o,n,rv,ho,hc,hd⟩:=tO Ya KX hs;obtain⟨as,hr⟩:=Dw.readsAll Ya KX ds _ Y_ ha rv;exact⟨_,ReadsW.tuple ho hc hd hr⟩
 |.float _,_,_,x,_=>by cases x
 |.dict _,_,_,x,_=>by cases x
 |.bytearray _,_,_,x,_=>by cases x
 |.set _,_,_,x,_=>by cases x
 |.frozenset _,_,_,x,_=>by cases x
 |.obj _ _,_,_,x,_=>by cases x
theorem Dw.readsAll(Ya:Tw P w H h)(KX:K.In h):∀(ds:List WData)(vs:List V)(us:List Value),Sq K H vs ds->Vals vs us->∃as,ReadsAllW R cl h us ds as
 |[],_,_,x,r=>by
  cases x;cases r;exact⟨_,ReadsAllW.nil⟩
 |d::ds,_,_,x,r=>by
  cases x with
  |cons J h2=>
   cases r with
   |cons r1 r2=>
    obtain⟨as,q1⟩:=Dw.reads Ya KX d _ _ J r1;obtain⟨bs,q2⟩:=Dw.readsAll Ya KX ds _ _ h2 r2;exact⟨_,ReadsAllW.cons q1 q2⟩
end
end
mutual
def Du:WData->Bool
 |.none=>true
 |.bool _=>true
 |.int _=>true
 |.str _=>true
 |.bytes _=>true
 |.list xs=>MZ xs
 |.tuple xs=>MZ xs
 |_=>false
def MZ:List WData->Bool
 |[]=>true
 |x::r=>Du x&&MZ r
end
theorem G1{α:Type}{f:α->WData}(h:∀a,Du (f a)=true):∀l:List α,MZ (l.map f)=true
 |[]=>rfl
 |x::r=>by
  show(Du (f x)&&MZ (r.map f))=true;rw[h x,G1 h r]<;>rfl
theorem RK:∀(c:Codec)(a:c.denote),Du (c.enc a)=true
 |.unit,_=>rfl
 |.bool,_=>rfl
 |.int _ _,_=>rfl
 |.nat _ _,_=>rfl
 |.u8,_=>rfl
 |.bytes _ _,_=>rfl
 |.text _ _ _ _,_=>rfl
 |.list _ _ c,a=>G1 (fun x=>RK c x) a
 |.pair c d,a=>by
  show(Du (c.enc a.1)&&(Du (d.enc a.2)&&true))=true;rw[RK c a.1,RK d a.2]<;>rfl
 |.triple c d e,a=>by
  show(Du (c.enc a.1)&&(Du (d.enc a.2.1)&&(Du (e.enc a.2.2)&&true)))=true;rw[RK c a.1,RK d a.2.1,RK e a.2.2]<;>rfl
 |.option c,none=>rfl
 |.option c,some x=>RK c x
theorem J5:∀(cs:List Codec)(a:Codec.denoteAll cs),MZ (Codec.encAll cs a)=true
 |[],_=>rfl
 |c::cs,a=>by
  show(Du (c.enc a.1)&&MZ (Codec.encAll cs a.2))=true;rw[RK c a.1,J5 cs a.2]<;>rfl
theorem Ql:∀{xs:List WData}{d:WData},d∈xs->d.weight<=WData.weightAll xs
 |[],d,h=>absurd h (by simp)
 |x::r,d,h=>by
  show d.weight<=x.weight+1+WData.weightAll r;rcases ZH.mp h with e|m
  ·rw[e];omega
  ·have z:=Ql m;omega
def toV:Value->V
 |.none=>.Xs
 |.bool b=>.bl b
 |.int i _=>.int i
 |.str x _=>.str x
 |.bytes b _=>.Fn b
 |.ref a=>.ref a
 |_=>.Xs
def B9(A:List Addr):Value->Prop
 |.none=>True
 |.bool _=>True
 |.int _ _=>True
 |.str _ _=>True
 |.bytes _ _=>True
 |.ref a=>a∈A
 |_=>False
theorem B9.mono{A B:List Addr}(h:∀a∈A,a∈B):∀{u:Value},B9 A u->B9 B u:=fun{u} x=>by
 cases u with
 |ref a=>exact h a x
 |none=>trivial
 |bool b=>trivial
 |int i t=>trivial
 |str s t=>trivial
 |bytes b t=>trivial
 |_=>exact False.elim x
theorem Ay{A:List Addr}{u:Value}(x:B9 A u):RelV (toV u) u:=by
 cases u with
 |ref a=>rfl
 |none=>rfl
 |bool b=>rfl
 |int i t=>exact ⟨t,Y⟩
 |str s t=>exact ⟨t,Y⟩
 |bytes b t=>exact ⟨t,Y⟩
 |_=>exact False.elim x
theorem Ts{A:List Addr}:∀{vs:List Value},(∀u∈vs,B9 A u)->Vals (vs.map toV) vs
 |[],_=>.nil
 |u::r,h=>.cons (Ay (h u (YM ..))) (Ts fun x hx=>h x (Zh _ hx))
def So(h:Heap)(A:List Addr)(a:Addr):Prop:=∃vs:List Value,vs.length<=sizeLine/\(∀u∈vs,B9 A u)/\
 (h.get? a=some {cls:=.type "list",data:=.seq vs.toArray}\/h.get? a=some {cls:=.type "tuple",data:=.seq vs.toArray})
theorem So.mono{h:Heap}{A B:List Addr}{a:Addr}(k:∀a∈A,a∈B)(x:So h A a):So h B a:=by
 obtain⟨vs,J,h2,h3⟩:=x;exact⟨vs,J,fun u hu=>(h2 u hu).mono k,h3⟩
theorem Uo{P:Params}{h:Heap}:∀{vs:List Value}{ds:List WData},WellAll P h vs ds->vs.length=ds.length
 |_,_,.nil=>rfl
 |_,_,.cons _ b=>by
  show _+1=_+1;rw[Uo b]
theorem J4{P:Params}{h:Heap}{v:Value}{ds:List WData}(x:Well P h v (.list ds)):∃(a:Addr) (vs:List Value),v=.ref a/\h.get? a=some {cls:=.type "list",data:=.seq vs.toArray}/\WellAll P h vs ds:=by
 cases x with
 |list ho T3=>exact ⟨_,_,Y,ho,T3⟩
theorem Mj{P:Params}{h:Heap}{v:Value}{ds:List WData}(x:Well P h v (.tuple ds)):∃(a:Addr) (vs:List Value),v=.ref a/\h.get? a=some {cls:=.type "tuple",data:=.seq vs.toArray}/\WellAll P h vs ds:=by
 cases x with
 |tuple ho T3=>exact ⟨_,_,Y,ho,T3⟩
theorem J3{P:Params}{h:Heap}{us:List Value}{d:WData}{ds:List WData}(x:WellAll P h us (d::ds)):∃(v:Value) (vs:List Value),us=v::vs/\Well P h v d/\WellAll P h vs ds:=by
 cases x with
 |cons a b=>exact ⟨_,_,Y,a,b⟩
theorem Dr{n:Nat}(h:n<=1048576):n<=sizeLine:=ZE h (by decide)
section
variable{P:Params}{h:Heap}
mutual
theorem Ax:∀(d:WData)(v:Value),Well P h v d->Du d=true->d.weight<=1048576->∃A:List Addr,B9 A v/\∀a∈A,So h A a
 |.none,_,x,_,_=>by
  cases x;exact⟨[],trivial,fun a m=>absurd m (by simp)⟩
 |.bool b,_,x,_,_=>by
  cases x;exact⟨[],trivial,fun a m=>absurd m (by simp)⟩
 |.int i,_,x,_,_=>by
  cases x;exact⟨[],trivial,fun a m=>absurd m (by simp)⟩
 |.str s,_,x,_,_=>by
  cases x;exact⟨[],trivial,fun a m=>absurd m (by simp)⟩
 |.bytes b,_,x,_,_=>by
  cases x;exact⟨[],trivial,fun a m=>absurd m (by simp)⟩
 |.list ds,_,x,p,z=>by
  obtain⟨a,vs,rfl,ho,T3⟩:=J4 x;have z2:WData.weightAll ds<=1048576:=z;obtain⟨A,J,h2⟩:=Pu ds _ T3 p fun d hd=>ZE (Ql hd) z2;have k:∀b∈A,b∈a::A:=fun b O=>Zh _ O;refine⟨a::A,YM ..,fun b O=>?_⟩;rcases ZH.mp O with e|m
  ·rw[e];exact⟨vs,Dr (by rw[Uo T3];exact ZE (W.length_le_weightAllW ds) z2),fun u hu=>(J u hu).mono k,.inl ho⟩
  ·exact(h2 b m).mono k
 |.tuple ds,_,x,p,z=>by
  obtain⟨a,vs,rfl,ho,T3⟩:=Mj x;have z2:WData.weightAll ds<=1048576:=z;obtain⟨A,J,h2⟩:=Pu ds _ T3 p fun d hd=>ZE (Ql hd) z2;have k:∀b∈A,b∈a::A:=fun b O=>Zh _ O;refine⟨a::A,YM ..,fun b O=>?_⟩;rcases ZH.mp O with e|m
  ·rw[e];exact⟨vs,Dr (by rw[Uo T3];exact ZE (W.length_le_weightAllW ds) z2),fun u hu=>(J u hu).mono k,.inr ho⟩
  ·exact(h2 b m).mono k
 |.float _,_,_,p,_=>Bool.noConfusion (show false=true from p)
 |.dict _,_,_,p,_=>Bool.noConfusion (show false=true from p)
 |.bytearray _,_,_,p,_=>Bool.noConfusion (show false=true from p)
 |.set _,_,_,p,_=>Bool.noConfusion (show false=true from p)
 |.frozenset _,_,_,p,_=>Bool.noConfusion (show false=true from p)
 |.obj _ _,_,_,p,_=>Bool.noConfusion (show false=true from p)
theorem Pu:∀(ds:List WData)(vs:List Value),WellAll P h vs ds->MZ ds=true->(∀d∈ds,d.weight<=1048576)->∃A:List Addr,(∀u∈vs,B9 A u)/\∀a∈A,So h A a
 |[],_,x,_,_=>by
  cases x;exact⟨[],fun u m=>absurd m (by simp),fun a m=>absurd m (by simp)⟩
 |d::ds,_,x,p,z=>by
  obtain⟨v,vs,rfl,x1,x2⟩:=J3 x;have q:Du d=true/\MZ ds=true:=Bool.and_eq_true_iff.mp p;obtain⟨A,a1,a2⟩:=Ax d v x1 q.1 (z d (YM ..));obtain⟨B,b1,b2⟩:=Pu ds vs x2 q.2 fun e he=>z e (Zh _ he);have kA:∀b∈A,b∈A++B:=fun b O=>Zm.mpr (.inl O);have kB:∀b∈B,b∈A++B:=fun b O=>Zm.mpr (.inr O);refine⟨A++B,fun u hu=>?_,fun b O=>?_⟩
  ·rcases ZH.mp hu with e|m
   ·rw[e];exact a1.mono kA
   ·exact(b1 u m).mono kB
  ·rcases Zm.mp O with m|m;·exact(a2 b m).mono kA
   ·exact(b2 b m).mono kB
end
end
def xt(o:Obj):Option HO:=match o.data with
 |.seq vs _=>if(o.cls==Value.type "list")=true then some (.Jl o (.lst (vs.toList.map toV)))else some (.Jl o (.tup (vs.toList.map toV)))
 |_=>none
def T1(K:W.Frag)(h:Heap)(A:List Addr):Hp:=fun b=>if b∈A then(if(K.lookup b).isNone=true then(h.get? b).bind xt else none)else none
def G0(H:Hp):Prop:=∀b,H b=none\/∃o u,H b=some (.Jl o u)
theorem GZ(vs:List Value):xt {cls:=.type "list",data:=.seq vs.toArray}=some (.Jl {cls:=.type "list",data:=.seq vs.toArray} (.lst (vs.map toV))):=by
 show(if(Value.type "list"==Value.type "list")=true then some (HO.Jl {cls:=.type "list",data:=.seq vs.toArray} (.lst (vs.toArray.toList.map toV)))else some (HO.Jl {cls:=.type "list",data:=.seq vs.toArray} (.tup (vs.toArray.toList.map toV))))=_;rw[Z7 (beq_self_eq_true _)]
theorem GY(vs:List Value):xt {cls:=.type "tuple",data:=.seq vs.toArray}=some (.Jl {cls:=.type "tuple",data:=.seq vs.toArray} (.tup (vs.map toV))):=by
 show(if(Value.type "tuple"==Value.type "list")=true then some (HO.Jl {cls:=.type "tuple",data:=.seq vs.toArray} (.lst (vs.toArray.toList.map toV)))else some (HO.Jl {cls:=.type "tuple",data:=.seq vs.toArray} (.tup (vs.toArray.toList.map toV))))=_;rw[Z8 (by decide)]
section
variable{P:Program}{w:World}{K:W.Frag}{h:Heap}{A:List Addr}
theorem MI{b:Addr}{o:Obj}(O:b∈A)(hk:K.lookup b=none)(e:h.get? b=some o):T1 K h A b=xt o:=by
 unfold T1;rw[Z7 O,hk,Z7 (show(none:Option Obj).isNone=true from rfl),e]<;>rfl
theorem xr{b:Addr}{u:HO}(q:T1 K h A b=some u):b∈A/\K.lookup b=none:=by
 unfold T1 at q;by_cases O:b∈A
 ·rw[Z7 O]at q;cases hk:K.lookup b with
  |none=>exact ⟨O,Y⟩
  |some o=>
   rw[hk,Z8 (by simp)]at q;cases q
 ·rw[Z8 O]at q;cases q
theorem Pt (ar : ∀ a ∈ A, So h A a) {b : Addr} {u : HO} (q : T1 K h A b = some u) : K.lookup b = none /\ ∃ vs : List Value, vs.length <= sizeLine /\ (∀ u ∈ vs, B9 A u) /\
    ((h.get? b = some { cls := .type "list", data := .seq vs.toArray } /\ u = .Jl { cls := .type "list", data := .seq vs.toArray } (.lst (vs.map toV))) \/
     (h.get? b = some { cls := .type "tuple", data := .seq vs.toArray } /\ u = .Jl { cls := .type "tuple", data := .seq vs.toArray } (.tup (vs.map toV)))) := by
  obtain ⟨O, hk⟩ := xr q
  obtain ⟨vs, J, h2, h3⟩ := ar b O
  refine ⟨hk, vs, J, h2, ?_⟩
  rcases h3 with e | e
  · rw [MI O hk e, GZ] at q
    exact .inl ⟨e, (Zb q).symm⟩
  · rw [MI O hk e, GY] at q
    exact .inr ⟨e, (Zb q).symm⟩
theorem B8(ar:∀a∈A,So h A a):G0 (T1 K h A):=fun b=>by
 cases q:T1 K h A b with
 |none=>exact .inl rfl
 |some u=>
  obtain⟨_,vs,_,_,⟨_,e⟩|⟨_,e⟩⟩:=Pt ar q;·exact .inr ⟨_,_,by rw[e]⟩
  ·exact .inr ⟨_,_,by rw[e]⟩
theorem xq(ar:∀a∈A,So h A a):Tw P w (T1 K h A) h:=fun b u q=>by
 obtain⟨_,vs,J,h2,⟨e,rfl⟩|⟨e,rfl⟩⟩:=Pt ar q;·exact⟨e,by rw[Z3];exact J,vs,_,Ts h2,e⟩
 ·exact⟨e,by rw[Z3];exact J,vs,Ts h2,_,e,Y,_,Y⟩
theorem MH{c c':Value}{vs us:List Value}(e:(some {cls:=c,data:=.seq vs.toArray}:Option Obj)=some {cls:=c',data:=.seq us.toArray}):c=c'/\vs=us:=by
 have e1:=Zb e;have e2:c=c':=congrArg Obj.cls e1;have e3:Data.seq vs.toArray=Data.seq us.toArray:=congrArg Obj.data e1;injection e3 with e4
 refine⟨e2,?_⟩;have e5:=congrArg Array.toList e4;simpa using e5
theorem lJ(KX:K.In h)(ar:∀a∈A,So h A a){a:Addr}{vs:List Value}(ha:a∈A)(e:h.get? a=some {cls:=.type "list",data:=.seq vs.toArray}):(∀u∈vs,B9 A u)/\Zz K (T1 K h A) a (vs.map toV):=by
 obtain⟨us,J,h2,h3⟩:=ar a ha;have hu:us=vs:=by
  rcases h3 with q|q
  ·rw[e]at q;exact(MH q).2.symm
  ·rw[e]at q;exact absurd (Value.type.inj (MH q).1) (by decide)
 subst hu;refine⟨h2,?_⟩;cases hk:K.lookup a with
 |none=>exact .inl (.inr ⟨_,by rw[MI ha hk e,GZ]⟩)
 |some o=>
  have e2:=KX a o hk;rw[e]at e2;obtain rfl:=Zb e2;exact .inr ⟨_,us.toArray,_,hk,Y,Y,Y,by rw[Y6];exact J,by simpa using Ts h2⟩
theorem lI(KX:K.In h)(ar:∀a∈A,So h A a){a:Addr}{vs:List Value}(ha:a∈A)(e:h.get? a=some {cls:=.type "tuple",data:=.seq vs.toArray}):(∀u∈vs,B9 A u)/\Vj K (T1 K h A) a (vs.map toV):=by
 obtain⟨us,J,h2,h3⟩:=ar a ha;have hu:us=vs:=by
  rcases h3 with q|q
  ·rw[e]at q;exact absurd (Value.type.inj (MH q).1) (by decide)
  ·rw[e]at q;exact(MH q).2.symm
 subst hu;refine⟨h2,?_⟩;cases hk:K.lookup a with
 |none=>exact .inl (.inr ⟨_,by rw[MI ha hk e,GY]⟩)
 |some o=>
  have e2:=KX a o hk;rw[e]at e2;obtain rfl:=Zb e2;exact .inr ⟨_,us.toArray,_,hk,Y,Y,by rw[Y6];exact J,by simpa using Ts h2⟩
mutual
theorem tN{Pm:Params}(KX:K.In h)(ar:∀a∈A,So h A a):∀(d:WData)(v:Value),Well Pm h v d->Du d=true->B9 A v->Dw K (T1 K h A) (toV v) d
 |.none,_,x,_,_=>by
  cases x;exact .Xs
 |.bool b,_,x,_,_=>by
  cases x;exact .bl b
 |.int i,_,x,_,_=>by
  cases x;exact .int i
 |.str s,_,x,_,_=>by
  cases x;exact .str s
 |.bytes b,_,x,_,_=>by
  cases x;have z:=Dw.Fn (K:=K) (H:=T1 K h A) b.toArray;exact z
 |.list ds,_,x,p,hu=>by
  obtain⟨a,vs,rfl,ho,T3⟩:=J4 x;obtain⟨h2,hs⟩:=lJ KX ar hu ho;exact .lst hs (I0 KX ar ds _ T3 p h2)
 |.tuple ds,_,x,p,hu=>by
  obtain⟨a,vs,rfl,ho,T3⟩:=Mj x;obtain⟨h2,hs⟩:=lI KX ar hu ho;exact .tup hs (I0 KX ar ds _ T3 p h2)
 |.float _,_,_,p,_=>Bool.noConfusion (show false=true from p)
 |.dict _,_,_,p,_=>Bool.noConfusion (show false=true from p)
 |.bytearray _,_,_,p,_=>Bool.noConfusion (show false=true from p)
 |.set _,_,_,p,_=>Bool.noConfusion (show false=true from p)
 |.frozenset _,_,_,p,_=>Bool.noConfusion (show false=true from p)
 |.obj _ _,_,_,p,_=>Bool.noConfusion (show false=true from p)
theorem I0{Pm:Params}(KX:K.In h)(ar:∀a∈A,So h A a):∀(ds:List WData)(vs:List Value),WellAll Pm h vs ds->MZ ds=true->(∀u∈vs,B9 A u)->Sq K (T1 K h A) (vs.map toV) ds
 |[],_,x,_,_=>by
  cases x;exact .nil
 |d::ds,_,x,p,hu=>by
  obtain⟨v,vs,rfl,x1,x2⟩:=J3 x;have q:Du d=true/\MZ ds=true:=Bool.and_eq_true_iff.mp p;exact .cons (tN KX ar d v x1 q.1 (hu _ (YM ..))) (I0 KX ar ds vs x2 q.2 fun u m=>hu u (Zh _ m))
end
end
theorem B7{P:Program}{w:World}{K:W.Frag}{mg mb:Str->Option Value}{CX:Be}{k:Nat}{fa:Addr}{fd:FuncData}{ps:List Str}{sp:Sp}{X5:Shared}{vals:List Value}{ds:List WData}{R:W.WRecords}{cl:Str->Option Addr}{d0:WData}(KX:K.In X5.heap)(iV:X5.heap.Ns mainGlobals mg)(O:X5.heap.Ns builtinsNs mb)(fj:∀x:Str,x≠"__name__"->mb x=bootBuiltins x)(lH:X5.heap.NoLimit)(xp:X5.heap.NoSeer)(GW:P.given.tree=none)(hg:X5.gens=#[])(xo:WellAll w.params X5.heap vals ds)(KL:MZ ds=true)(fi:∀d∈ds,d.weight<=1048576)(hr:WA k callerA)(F:∀base:Heap,K.In base->base.Ns mainGlobals mg->Y' P w K mg base CX k fa fd ps sp)(qb:∀(s:Shared)(us:List Value),us.length=ps.length->BindsTo s fd ⟨us,[]⟩ (ps.zip us))(hlen:ds.length=ps.length)(yi:∀(H:Hp)(xs:List V),G0 H->Sq K H xs ds->sp xs H (fun v H'=>Dw K H' v d0) fun _ _ _=>False)(p_:∀H e s',CX [] H X5 (fun _ _ _=>False) e s'->False):codeAny (model P w) callerA (.call (.ref fa) ⟨vals,[]⟩) (fun r s'=>∃u as,r=.ok (.ret u)/\ReadsW R cl s'.heap u d0 as/\OldK X5.heap s'.heap/\s'.os=X5.os/\AllBare s'.gens) X5:=by
 obtain⟨A,ho,ar⟩:=Pu ds vals xo KL fi;have hO:G0 (T1 K X5.heap A):=B8 ar;have Ya:Tw P w (T1 K X5.heap A) X5.heap:=xq ar;have hS:=I0 KX ar ds vals xo KL ho;have hV:=Ts ho;have hK:∀b u,T1 K X5.heap A b=some u->K.lookup b=none:=fun b u q=>(Pt ar q).1;have rR:∀{b:Addr}{o:Obj}{es:Array DictEntry}{ep:Nat},X5.heap.get? b=some o->o.data=.dict es ep->T1 K X5.heap A b=none:=fun{b o es ep} e d=>by
  cases q:T1 K X5.heap A b with
  |none=>rfl
  |some u=>
   obtain⟨_,vs,_,_,⟨e2,_⟩|⟨e2,_⟩⟩:=Pt ar q
   ·rw[e2]at e;cases e;have d':Data.seq vs.toArray _=Data.dict es ep:=d;cases d'
   ·rw[e2]at e;cases e;have d':Data.seq vs.toArray _=Data.dict es ep:=d;cases d'
 have iU:∀{b:Addr}{o:Obj},X5.heap.get? b=some o->o.cls=.type "module"->T1 K X5.heap A b=none:=fun{b o} e d=>by
  cases q:T1 K X5.heap A b with
  |none=>rfl
  |some u=>
   obtain⟨_,vs,_,_,⟨e2,_⟩|⟨e2,_⟩⟩:=Pt ar q
   ·rw[e2]at e;cases e;exact absurd (show Value.type "list"=Value.type "module" from d) (by decide)
   ·rw[e2]at e;cases e;exact absurd (show Value.type "tuple"=Value.type "module" from d) (by decide)
 generalize T1 K X5.heap A=H at hO Ya hS hK rR iU;have IZ:∀{b:Addr}{o:Obj},X5.heap.get? b=some o->H b=none->(Jj X5.heap H).get? b=some o:=fun e n=>A_ e n;have ve:∀{b:Addr}{m:Str->Option Value},X5.heap.Ns b m->(Jj X5.heap H).Ns b m:=fun{b m} ⟨o,es,ep,e,d,r⟩=>⟨o,es,ep,IZ e (rR e d),d,r⟩;have nK:∀b o,K.lookup b=some o->H b=none:=fun b o e=>by
  cases q:H b with
  |none=>rfl
  |some u=>
   rw[hK b u q]at e;cases e
 have iT:K.In (Jj X5.heap H):=fun b o e=>IZ (KX b o e) (nK b o e);have hM:Mod K mg (Jj X5.heap H):=⟨iT,ve iV,⟨mb,ve O,fj⟩,let⟨mc,J,h2⟩:=lH;⟨mc,ve J,h2⟩,
  ⟨let⟨mc,a,b⟩:=xp.statics;⟨mc,ve a,b⟩,let⟨mc,a,b⟩:=xp.mods;⟨mc,ve a,b⟩,let⟨mc,a,b⟩:=xp.imp;⟨mc,ve a,b⟩,let⟨g,bm,ob,a,b,c,d,e⟩:=xp.main;⟨g,bm,ob,ve a,b,IZ c (iU c d),d,e⟩⟩⟩
 have e0:E6 P w K mg (Jj X5.heap H) callerA [] X5 H:=⟨Y,hM,fun b o e=>xY e,Nat.le_of_eq (Cu _ _),trivial,fun b O=>absurd (show b∈([]:List Addr)from O) (by simp),Ya,.of_eq hg,GW⟩;have hl:vals.length=ps.length:=by rw[Uo xo];exact hlen
 refine codeAny_mono ((F _ iT (ve iV)).run callerA [] X5 H ⟨vals,[]⟩ vals (vals.map toV) _ _ hr e0 (qb X5 vals hl) hV (yi H _ hO hS)) fun r s' x=>?_;cases r with
 |error e=>exact (p_ H e s' x).elim
 |ok fl=>
  cases fl with
  |next=>exact False.elim x
  |brk=>exact False.elim x
  |cont=>exact False.elim x
  |ret u=>
   obtain⟨v,H',os,bare,un,p8,r',q⟩:=x;have kept:∀b o,X5.heap.get? b=some o->s'.heap.get? b=some o:=fun b o e=>by
    cases q2:H b with
    |none=>exact un.keep b o e q2 (by intro z;exact absurd (show b∈([]:List Addr)from z) (by simp)) (by simp)
    |some u2=>
     rcases hO b with z|⟨ob,u3,z⟩
     ·rw[q2]at z;cases z
     ·have z2:=un.Jk b ob _ z;obtain⟨e1,_⟩:=Ya b _ z;obtain⟨e2,_⟩:=p8 b _ z2;rw[e]at e1;cases e1;exact e2
   have fh:K.In s'.heap:=fun b o e=>kept b o (KX b o e);obtain⟨as,iS⟩:=Dw.reads (R:=R) (cl:=cl) p8 fh d0 v u q r';exact⟨u,as,Y,iS,OldK.of_keep kept,os,bare⟩
theorem Mi{ds:List WData}(h:WData.layableAll ds=true):∀d∈ds,d.weight<=1048576:=fun d hd=>
 (W.layableW_iff.mp (We.mp h d hd)).2.2
theorem Mh:∀(cs:List Codec)(a:Codec.denoteAll cs),(Codec.encAll cs a).length=cs.length
 |[],_=>rfl
 |c::cs,a=>by
  show(Codec.encAll cs a.2).length+1=cs.length+1;rw[Mh cs a.2]
theorem B6{r:OpenSpec}{k:Nat}{q:Program}{loose:List Str}{XP:(Str->Option Value)->Heap->Prop}{YP:World->Heap->Prop}{d:DefRec}{K:Params->W.Frag}{CX:World->Be}{ps:List Str}{sp:World->Sp}(himp:importsNone q=true)(GW:r.prog.given.tree=none)(Aw:r.wellSaid=true)(iR:d.params.defaults=[])(hlen:r.args.length=ps.length)(hr:WA k callerA)(hY:∀(w:World)(h:Heap),YP w h->(K w.params).In h)(F:∀(w:World)(mg:Str->Option Value)(fa:Addr)(h:Heap),YP w h->(K w.params).In h->h.Ns mainGlobals mg->mg d.name=some (.ref fa)->∃fd:FuncData,(∀(s:Shared)(us:List Value),us.length=ps.length->BindsTo s fd ⟨us,[]⟩ (ps.zip us))/\∀base:Heap,(K w.params).In base->base.Ns mainGlobals mg->Y' r.prog w (K w.params) mg base (CX w) k fa fd ps (sp w))(yi:∀(w:World)(H:Hp)(xs:List V)(a:Codec.denoteAll r.args),G0 H->Codec.withinAll r.args a=true->Codec.app r.args r.asked a=true->Sq (K w.params) H xs (Codec.encAll r.args a)->sp w xs H (fun v H'=>Dw (K w.params) H' v (r.ret.enc (Codec.app r.args r.f a))) fun _ _ _=>False)(p_:∀(w:World)(H:Hp)(s:Shared)(e:Value)(s':Shared),CX w [] H s (fun _ _ _=>False) e s'->False):W.WalkOS q loose XP YP r d [] (fun f vs=>PySem.call f vs):=by
 intro w Kg X5 mg mb G p7 fa o pm cd doc dV kV ho hd Bg hD lF hg args vals as lE lD iS xo aN;obtain⟨a,e1,e2⟩:=W.os_pre_some lE;obtain⟨e3,lB⟩:=Codec.encAll_of_decAll r.args args a e1;subst e3;have KX:=hY w _ p7;obtain⟨fd,O,hF⟩:=F w mg fa _ p7 KX G.T.g lF;refine W.enter_call (codeAny_mono (B7 (R:=[]) (cl:=classAt Kg.heap) (d0:=r.ret.enc (Codec.app r.args r.f a)) KX G.T.g G.T.b G.T.builtins G.T.nolimit (G.T.seer himp) GW hg xo (J5 _ _) (Mi lD) hr hF O (by rw[Mh];exact hlen)
  (fun H xs hO hS=>yi w H xs a hO lB e2 hS) fun H e s'=>p_ w H X5 e s') fun r' s' hq=>?_)
 obtain⟨u,e_,rfl,J,h2,h3,h4⟩:=hq;exact⟨.inl ⟨u,_,e_,Y,fun _=>rfl,J,(OpenSpec.post_iff Aw lB _ _).mpr Y,fun z=>Bool.noConfusion (show false=true from z)⟩,h2,h3,h4⟩
theorem ES{r:OpenSpec}{k:Nat}{q:Program}{loose:List Str}{XP:(Str->Option Value)->Heap->Prop}{YP:World->Heap->Prop}{d:DefRec}{K:Params->W.Frag}{CX:Be}{ps:List Str}{sp:W.Frag->Sp}(himp:importsNone q=true)(GW:r.prog.given.tree=none)(Aw:r.wellSaid=true)(iR:d.params.defaults=[])(hlen:r.args.length=ps.length)(hr:WA k callerA)(hY:∀(w:World)(h:Heap),YP w h->(K w.params).In h)(F:∀(w:World)(mg:Str->Option Value)(fa:Addr)(h:Heap),YP w h->(K w.params).In h->h.Ns mainGlobals mg->mg d.name=some (.ref fa)->∃fd:FuncData,(∀(s:Shared)(us:List Value),us.length=ps.length->BindsTo s fd ⟨us,[]⟩ (ps.zip us))/\∀base:Heap,(K w.params).In base->base.Ns mainGlobals mg->Y' r.prog w (K w.params) mg base CX k fa fd ps (sp (K w.params)))(yi:∀(K:W.Frag)(H:Hp)(xs:List V)(a:Codec.denoteAll r.args),G0 H->Codec.withinAll r.args a=true->Codec.app r.args r.asked a=true->Sq K H xs (Codec.encAll r.args a)->sp K xs H (fun v H'=>Dw K H' v (r.ret.enc (Codec.app r.args r.f a))) fun _ _ _=>False)(p_:∀(H:Hp)(s:Shared)(e:Value)(s':Shared),CX [] H s (fun _ _ _=>False) e s'->False):W.WalkOS q loose XP YP r d [] (fun f vs=>PySem.call f vs):=
 B6 (K:=K) (CX:=fun _=>CX) (sp:=fun w=>sp (K w.params)) himp GW Aw iR hlen hr hY F (fun w H xs a J h2 h3 h4=>yi (K w.params) H xs a J h2 h3 h4) fun _ H s e s'=>p_ H s e s'
end L2
end
namespace L2
open PySem PySem.Spec PyProof.Rows
def inClass(s:Stmt)(j:Nat):Stmt:=match s with
 |.ClassDef _ _ _ body _ _ _ _ _ _ _=>body.getD j (.Pass ⟨0,0,0,0⟩)
 |_=>.Pass ⟨0,0,0,0⟩
def Xz(s:Stmt):Arguments:=match s with
 |.FunctionDef _ a _ _ _ _ _ _ _ _=>a
 |_=>{posonlyargs:=[],args:=[],vararg:=none,kwonlyargs:=[],kw_defaults:=[],kwarg:=none,defaults:=[]}
def XR(s:Stmt):List Stmt:=match s with
 |.FunctionDef _ _ b _ _ _ _ _ _ _=>b
 |_=>[]
def Z0(s:Stmt):Scope:=match s with
 |.FunctionDef _ _ _ _ _ _ sc _ _ _=>sc
 |_=>{kind:=.function,names:=[],isGenerator:=false,isCoroutine:=false}
abbrev XO:Be:=fun _ _ _ _ _ _=>False
abbrev E0:XK:=fun _ _ _=>False
theorem GV{X:Cx}:Passes XO X E0:=fun _ _ _ _ _ _ _ h=>h.elim
structure vc(K:W.Frag)(x qual:Str)(st:Stmt)(f:Addr)(fd:FuncData):Prop where
 ex:∃(oc:Value) (od:Option Addr) (kV doc pm:Value) (an:Option Addr) (Yx ct:Value) (xM:Array (Option Value)),
  fd=W.fnOf x qual (Xz st) (XR st) (Z0 st) .none kV doc pm an Yx ct/\K.lookup f=some ⟨oc,od,.func fd,xM⟩/\W.codeIn K Yx qual=true
 kp:W.keepIn K (.ref f)=true
section
variable{P:Program}{w:World}{K:W.Frag}{mg:Str->Option Value}{base:Heap}
theorem vc.ok{x qual:Str}{st:Stmt}{f:Addr}{fd:FuncData}{N ps:List Str}{k:Nat}{sp:Sp}(F:vc K x qual st f fd)(S:ZN N ps (Z0 st))(len:∀vs H Q E,sp vs H Q E->vs.length=ps.length)(AR:∀(Yx:Value)(A:Around)(outer:List Env)(s:Shared)(H:Hp)(vs:List V)(Q:VK)(E:XK),WA k (A.deeper (envOfC qual (Z0 st) s.heap.objs.size f Yx))->sp vs H Q E->∃t,Ct (Cj XO P w K mg base N qual (Z0 st) f Yx A outer s H E).ox (XR st) t/\t {nx:=fun _ H'=>Q .Xs H',rt:=Q} (start N vs) H):Y' P w K mg base XO (k+1) f fd ps sp:=by
 obtain⟨oc,od,kV,doc,pm,an,Yx,ct,xM,rfl,lk,Bg⟩:=F.ex;refine qC lk Bg S len fun A outer s H vs Q E hr yi=>?_;obtain⟨t,h,q⟩:=AR Yx A outer s H vs Q E hr yi;exact⟨t,h.ox,q⟩
theorem vc.binds{x qual:Str}{st:Stmt}{f:Addr}{fd:FuncData}{ps:List Str}(F:vc K x qual st f fd)(h:∀(kV doc pm:Value)(an:Option Addr)(Yx ct:Value)(us:List Value),us.length=ps.length->bindArgs (W.fnOf x qual (Xz st) (XR st) (Z0 st) .none kV doc pm an Yx ct) ⟨us,[]⟩=pure (ps.zip us)):Binds K fd ps []:=by
 obtain⟨oc,od,kV,doc,pm,an,Yx,ct,xM,rfl,lk,Bg⟩:=F.ex;exact .all (h kV doc pm an Yx ct)
theorem Ov{x qual:Str}{st:Stmt}{f:Addr}{oc:Value}{od an:Option Addr}{xM:Array (Option Value)}{kV doc pm Yx ct:Value}(l:K.lookup f=some ⟨oc,od,.func (W.fnOf x qual (Xz st) (XR st) (Z0 st) .none kV doc pm an Yx ct),xM⟩)(c:W.codeIn K Yx qual=true)(k:W.keepIn K (.ref f)=true):vc K x qual st f (W.fnOf x qual (Xz st) (XR st) (Z0 st) .none kV doc pm an Yx ct):=⟨⟨oc,od,kV,doc,pm,an,Yx,ct,xM,Y,l,c⟩,k⟩
end
theorem QK{A:Around}{k:Nat}(hr:WA k A):A.units+1<cLine:=YG (Nat.add_le_add_left (by decide:1<=64) _) hr.units
section
variable{X:Cx}
theorem Z(i:Nat){x:Str}{pos:Pos}(hN:X.N[i]?=some x:=by rfl)(hv:rV X.env.scope x:=by first|exact Or.inl rfl|exact Or.inr (Or.inl Y)|exact Or.inr (Or.inr Y))(hd:(x==("__debug__":Str))=false:=by decide)(Bg:(x==("__classdict__":Str))=false:=by decide):PE X (.Name x pos) (Hs i):=uy hN hv hd Bg
end
theorem YJ{A B:Prop}(h:B):if false=true then A else B:=by
 rw[Z8 Yz];exact h
theorem Y2{A B:Prop}(h:A):if true=true then A else B:=by
 rw[Z7 rfl];exact h
theorem Ws{c A B:Prop}[Decidable c](J:c->A)(h2:¬c->B):if c then A else B:=by
 by_cases h:c
 ·rw[Z7 h];exact J h
 ·rw[Z8 h];exact h2 h
def ZY(H H':Hp):Prop:=∀b o,H b=some o->H' b=some o
theorem ZY.refl(H:Hp):ZY H H:=fun _ _ h=>h
theorem ZY.trans{H H1 H2:Hp}(a:ZY H H1)(b:ZY H1 H2):ZY H H2:=fun c o h=>b c o (a c o h)
theorem ZY.free{H H':Hp}(e:ZY H H'){l:Addr}(h:H' l=Option.none):H l=Option.none:=by
 cases q:H l with
 |none=>rfl
 |some o=>
  rw[e l o q]at h;cases h
section
variable{κ:Type}[DecidableEq κ]
theorem Au{Zs:List (κ×V)}{k:κ}(h:VH Zs k=none):¬k∈Zs.map (·.1):=by
 intro m;obtain⟨p,hp,e⟩:=Zc.mp m;have q:(Zs.any fun kv=>decide (kv.1=k))=true:=UR.mpr ⟨p,hp,ZR e⟩;rw[V6,h]at q;exact absurd q (by simp)
theorem xi{Zs:List (κ×V)}{k:κ}{v:V}(h:VH Zs k=some v):k∈Zs.map (·.1):=by
 have q:(Zs.any fun kv=>decide (kv.1=k))=true:=by
  rw[V6,h];all_goals rfl
 obtain⟨p,hp,e⟩:=UR.mp q;exact Zc.mpr ⟨p,hp,ZG e⟩
theorem Pr:∀{l:List κ}{k:κ},l.Nodup->¬k∈l->(l++[k]).Nodup
 |[],k,_,_=>by simp
 |a::r,k,h,hk=>by
  obtain⟨J,h2⟩:=Ww.mp h;show(a::(r++[k])).Nodup;refine Ww.mpr ⟨fun m=>?_,Pr h2 fun m=>hk (ZH.mpr (Or.inr m))⟩;rcases Zm.mp m with q|q;·exact J q
  ·exact hk (ZH.mpr (Or.inl (Zp.mp q).symm))
theorem xh{Zs:List (κ×V)}{k:κ}(v:V)(hn:(Zs.map (·.1)).Nodup)(h:VH Zs k=none):((putK Zs k v).map (·.1)).Nodup:=by
 rw[G8 v h,Y1];exact Pr hn (Au h)
end
theorem As{α:Type}{l:List α}(hN:l.Nodup){i j:Nat}{x:α}(a:l[i]?=some x)(b:l[j]?=some x):i=j:=by
 obtain⟨J,e1⟩:=ZC.mp a;obtain⟨h2,e2⟩:=ZC.mp b;exact(List.getElem_inj hN).mp (e1.trans e2.symm)
theorem ZY.made{H H1:Hp}{x dx C:Addr}(nx:H x=Option.none)(nd:H dx=Option.none)(k:∀b o,(upd (upd H dx (.own x)) x (.ins C dx [])) b=some o->b≠x->H1 b=some o):ZY H H1:=fun b o e=>
 k b o (by rw[ZW (ZA e nx),ZW (ZA e nd)];exact e) (ZA e nx)
end L2
namespace L2
open PySem PySem.Spec PyProof.Rows
section
variable{X:Cx}
theorem Ar{pins:List (Addr×Obj)}{σ:St}{H:Hp}{s:Shared}(I:Inv X pins σ H s)(hd:X.A.depth+100<recursionLimit):PylongRoom (model X.prog X.w) X.A s:=by
 obtain⟨env,l,e,J,h2,h3,h4⟩:=I.ok.top;exact PylongRoom.of I.nolimit hd (SeerAt.of (I.ok.mod.seer.keeps I.bk) I.ok.tree (I.ok.frames.trans (congrArg some e)) J h2 h3 h4)
theorem WA.div{k:Nat}{A:Around}(r:WA k A)(h:32<=k):A.depth+100<recursionLimit:=by
 have:=r.dp;omega
theorem V5(hd:X.A.depth+100<recursionLimit):PF X (binaryOp .FloorDiv) (rI (fun _ j=>0<j) fun i j=>.int (i/j)):=by
 intro pins s σ H x y v u Q I rx ry h;obtain⟨i,j,rfl,rfl,hc,q⟩:=h;obtain⟨t,rfl⟩:=rx;obtain⟨t',rfl⟩:=ry;have J:(0:Int)<j:=hc;refine floordiv_int (by omega) ?_ (.inr (Ar I hd));rw[Int.fdiv_eq_ediv_of_nonneg i (by omega)];exact⟨.int (i/j),H,I.tok _,⟨_,Y⟩,q⟩
theorem YX:PF X (binaryOp .Mult) (rI IntMulOk fun i j=>.int (i*j)):=je fun _ _ _ _ _ _ _ hc q=>mul_int q hc
end
end L2
namespace RR
def sm:Nat->(Nat->Rat)->Rat
 |0,_=>0
 |n+1,f=>sm n f+f n
theorem ZQ{n:Nat}{f g:Nat->Rat}(h:∀i,i<n->f i=g i):sm n f=sm n g:=by
 induction n with
 |zero=>rfl
 |succ n ih=>
  simp only[sm];rw[ih (fun i hi=>h i (by omega)),h n (by omega)]
theorem TZ(n:Nat)(f g:Nat->Rat):sm n (fun i=>f i+g i)=sm n f+sm n g:=by
 induction n with
 |zero=>(simp[sm]<;>grind)
 |succ n ih=>simp only[sm];rw[ih];grind
theorem WS(n:Nat)(f g:Nat->Rat):sm n (fun i=>f i-g i)=sm n f-sm n g:=by
 induction n with
 |zero=>(simp[sm]<;>grind)
 |succ n ih=>simp only[sm];rw[ih];grind
theorem WZ(n:Nat)(k:Rat)(f:Nat->Rat):sm n (fun i=>k*f i)=k*sm n f:=by
 induction n with
 |zero=>(simp[sm]<;>grind)
 |succ n ih=>simp only[sm];rw[ih];grind
theorem Xq(n:Nat):sm n (fun _=>0)=0:=by
 induction n with
 |zero=>rfl
 |succ n ih=>simp only[sm];rw[ih];grind
theorem Q4{n:Nat}{f:Nat->Rat}(h:∀i,i<n->0<=f i):0<=sm n f:=by
 induction n with
 |zero=>(simp[sm]<;>grind)
 |succ n ih=>
  simp only[sm];have:=ih (fun i hi=>h i (by omega));have:=h n (by omega);grind
theorem Aq{n:Nat}{f g:Nat->Rat}(h:∀i,i<n->f i<=g i):sm n f<=sm n g:=by
 induction n with
 |zero=>(simp[sm]<;>grind)
 |succ n ih=>
  simp only[sm];have:=ih (fun i hi=>h i (by omega));have:=h n (by omega);grind
theorem Ap{n:Nat}{f:Nat->Rat}(h:∀i,i<n->0<=f i){k:Nat}(hk:k<n)(hp:0<f k):0<sm n f:=by
 induction n with
 |zero=>omega
 |succ n ih=>
  simp only[sm];by_cases e:k=n
  ·subst e;have:=Q4 (n:=k) (f:=f) (fun i hi=>h i (by omega));grind
  ·have:=ih (fun i hi=>h i (by omega)) (by omega);have:=h n (by omega);grind
theorem VG{n:Nat}{f:Nat->Rat}(h:∀i,i<n->0<=f i)(z:sm n f<=0):∀i,i<n->f i=0:=by
 intro i hi;have J:=h i hi;by_cases e:f i=0;·exact e
 ·have:=Ap h hi (by grind);grind
theorem YO{n k:Nat}(hk:k<n)(f:Nat->Rat):sm n (fun i=>if i=k then f i else 0)=f k:=by
 induction n with
 |zero=>omega
 |succ n ih=>
  simp only[sm];by_cases e:k=n
  ·subst e;rw[ZQ (g:=fun _=>0) (fun i hi=>Z8 (by omega)),Xq];(simp<;>grind)
  ·rw[ih (by omega),Z8 (by omega)];grind
theorem MG(n m:Nat)(f:Nat->Nat->Rat):sm n (fun i=>sm m (f i))=sm m (fun j=>sm n (fun i=>f i j)):=by
 induction n with
 |zero=>simp only[sm];rw[Xq]
 |succ n ih=>simp only[sm];rw[ih,<-TZ]
theorem RJ(a b:Nat)(f:Nat->Rat):sm (a+b) f=sm a f+sm b (fun i=>f (a+i)):=by
 induction b with
 |zero=>(simp[sm]<;>grind)
 |succ b ih=>rw [Nat.add_succ];simp only[sm];rw[ih];grind
def ls{α:Type}(q:List α)(f:α->Rat):Rat:=(q.map f).foldr (fun(a b:Rat)=>a+b) 0
theorem TY{α:Type}(f:α->Rat):ls [] f=0:=rfl
theorem X_{α:Type}(x:α)(q:List α)(f:α->Rat):ls (x::q) f=f x+ls q f:=rfl
theorem J2{α:Type}(p q:List α)(f:α->Rat):ls (p++q) f=ls p f+ls q f:=by
 induction p with
 |nil=>(simp[TY]<;>grind)
 |cons x p ih=>simp only[List.cons_append,X_];rw[ih];grind
theorem X4{α:Type}{q:List α}{f g:α->Rat}(h:∀x,x∈q->f x=g x):ls q f=ls q g:=by
 induction q with
 |nil=>rfl
 |cons x q ih=>
  rw[X_,X_,h x (by simp),ih (fun y hy=>h y (by simp[hy]))]
theorem Ao{α:Type}(q:List α)(f g:α->Rat):ls q (fun x=>f x+g x)=ls q f+ls q g:=by
 induction q with
 |nil=>(simp[TY]<;>grind)
 |cons x q ih=>simp only[X_];rw[ih];grind
theorem Mg{α:Type}(q:List α)(f g:α->Rat):ls q (fun x=>f x-g x)=ls q f-ls q g:=by
 induction q with
 |nil=>(simp[TY]<;>grind)
 |cons x q ih=>simp only[X_];rw[ih];grind
theorem Qk{α:Type}(q:List α)(k:Rat)(f:α->Rat):ls q (fun x=>k*f x)=k*ls q f:=by
 induction q with
 |nil=>(simp[TY]<;>grind)
 |cons x q ih=>simp only[X_];rw[ih];grind
theorem Dq{α:Type}{q:List α}{f:α->Rat}(h:∀x,x∈q->f x=0):ls q f=0:=by
 induction q with
 |nil=>rfl
 |cons x q ih=>rw [X_,h x (by simp),ih (fun y hy=>h y (by simp[hy]))];grind
theorem J1{α:Type}{q:List α}{f:α->Rat}(h:∀x,x∈q->0<=f x):0<=ls q f:=by
 induction q with
 |nil=>(simp[TY]<;>grind)
 |cons x q ih=>
  rw[X_];have:=h x (by simp);have:=ih (fun y hy=>h y (by simp[hy]));grind
theorem L'{α:Type}{q:List α}{f:α->Rat}(h:∀x,x∈q->0<=f x)(z:ls q f<=0):∀x,x∈q->f x=0:=by
 induction q with
 |nil=>intro x hx;simp at hx
 |cons y q ih=>
  rw[X_]at z;have J:=h y (by simp);have h2:=J1 (q:=q) (f:=f) (fun x hx=>h x (by simp[hx]));intro x hx;rcases ZH.mp hx with rfl|hx;·grind
  ·exact ih (fun x hx=>h x (by simp[hx])) (by grind) x hx
theorem JZ{α:Type}(q:List α)(p:α->Bool)(f:α->Rat):ls (q.filter p) f=ls q (fun x=>if p x=true then f x else 0):=by
 induction q with
 |nil=>rfl
 |cons x q ih=>
  rw[X_,YN];by_cases e:p x=true;·rw[Z7 e,Z7 e,X_,ih]
  ·rw[Z8 e,Z8 e,ih];grind
theorem vb{α:Type}(q:List α)(n:Nat)(f:α->Nat->Rat):ls q (fun x=>sm n (f x))=sm n (fun i=>ls q (fun x=>f x i)):=by
 induction q with
 |nil=>simp only[TY];rw[Xq]
 |cons x q ih=>simp only[X_];rw[ih,<-TZ]
theorem An(n:Nat)(f:Nat->Rat):ls (List.range n) f=sm n f:=by
 induction n with
 |zero=>rfl
 |succ n ih=>rw [WU,J2,ih,X_,TY];simp only[sm];grind
theorem ER{α β:Type}(q:List α)(g:α->β)(f:β->Rat):ls (q.map g) f=ls q (fun x=>f (g x)):=by
 induction q with
 |nil=>rfl
 |cons x q ih=>rw [Y7,X_,X_,ih]
theorem Yi{α:Type}(l:List α)(d:α):l.zipIdx=(List.range l.length).map (fun i=>(l.getD i d,i)):=by
 apply UQ;intro i;simp only[List.getElem?_zipIdx,Zf,List.getD];by_cases h:i<l.length;·simp[h]
 ·simp[h]
theorem JY{α:Type}(l:List α)(d:α)(f:α×Nat->Rat):ls l.zipIdx f=sm l.length (fun i=>f (l.getD i d,i)):=by rw[Yi l d,ER,An]
theorem sq_nonneg(x:Rat):0<=x*x:=by
 by_cases h:0<=x;·exact Tz h h
 ·have:0<=(-x)*(-x):=Tz (by grind) (by grind);grind
theorem MF{x:Rat}(h:x*x=0):x=0:=by rcases XY.mp h with h|h<;>exact h
theorem Xh{x y:Rat}(hx:0<=x)(hy:0<=y):0<=x*y:=Tz hx hy
theorem V4{x y:Rat}(hx:0<x)(hy:0<y):0<x*y:=Rat.mul_pos hx hy
end RR
namespace RR
structure Net where
 n:Nat
 m:Nat
 fr:Nat->Nat
 to:Nat->Nat
 c:Nat->Rat
 b:Nat->Rat
 op:Nat->Bool
 s:Nat
 t:Nat
 d:Rat
structure Net.Ok(N:Net):Prop where
 hs:N.s<N.n
 ht:N.t<N.n
 st:N.s≠N.t
 hd:0<N.d
 Bc:∀e,e<N.m->N.fr e<N.n
 Am:∀e,e<N.m->N.to e<N.n
 ne:∀e,e<N.m->N.fr e≠N.to e
 hc:∀e,e<N.m->0<=N.c e
 O:∀e,e<N.m->0<N.b e
def Net.price(N:Net)(x:Nat->Rat)(e:Nat):Rat:=N.c e+N.b e*x e
def Net.inc(N:Net)(v e:Nat):Rat:=if N.to e=v then 1 else if N.fr e=v then-1 else 0
def Net.dv(N:Net)(x:Nat->Rat)(v:Nat):Rat:=sm N.m (fun e=>N.inc v e*x e)
def Net.due(N:Net)(v:Nat):Rat:=if v=N.t then N.d else if v=N.s then-N.d else 0
inductive Net.Reach(N:Net):Nat->Prop where
 |s:Net.Reach N N.s
 |go (e:Nat):e<N.m->N.op e=true->Net.Reach N (N.fr e)->Net.Reach N (N.to e)
theorem Net.Reach.lt{N:Net}(h:N.Ok){v:Nat}(r:N.Reach v):v<N.n:=by
 cases r with
 |s=>exact h.hs
 |go e he _ _=>exact h.Am e he
theorem Net.parts{N:Net}(h:N.Ok)(w x:Nat->Rat):sm N.n (fun v=>w v*N.dv x v)=sm N.m (fun e=>(w (N.to e)-w (N.fr e))*x e):=by
 have e1:sm N.n (fun v=>w v*N.dv x v)=sm N.n (fun v=>sm N.m (fun e=>w v*(N.inc v e*x e))):=
  ZQ fun v _=>by rw[WZ];rfl
 rw[e1,MG];apply ZQ;intro e he;have e2:∀v,v<N.n->w v*(N.inc v e*x e)=(if v=N.to e then w v*x e else 0)-(if v=N.fr e then w v*x e else 0):=by
  intro v _;unfold Net.inc;have:=h.ne e he;by_cases a:N.to e=v
  ·subst a;rw[Z7 Y,Z7 Y,Z8 (fun q=>this q.symm)];grind
  ·by_cases b:N.fr e=v
   ·subst b;rw[Z8 a,Z7 Y,Z8 (fun q=>a q.symm),Z7 rfl];grind
   ·rw[Z8 a,Z8 b,Z8 (fun q=>a q.symm),Z8 (fun q=>b q.symm)];grind
 rw[ZQ e2,WS,YO (h.Am e he) (fun v=>w v*x e),YO (h.Bc e he) (fun v=>w v*x e)];grind
structure Net.Flow(N:Net)(x:Nat->Rat):Prop where
 nn:∀e,e<N.m->0<=x e
 sh:∀e,e<N.m->N.op e=false->x e=0
 cons:∀v,v<N.n->N.dv x v=N.due v
structure Net.lu(N:Net)(x:Nat->Rat)(p:Nat->Rat):Prop where
 le:∀e,e<N.m->N.op e=true->N.Reach (N.fr e)->p (N.to e)<=p (N.fr e)+N.price x e
 eq:∀e,e<N.m->x e≠0->N.Reach (N.fr e)/\p (N.to e)=p (N.fr e)+N.price x e
def Net.WC(N:Net)(x:Nat->Rat):Prop:=N.Flow x/\∃p,N.lu x p
theorem Net.L_{N:Net}(h:N.Ok)(w:Nat->Rat){x y:Nat->Rat}(hx:N.Flow x)(hy:N.Flow y):sm N.m (fun e=>(w (N.to e)-w (N.fr e))*(x e-y e))=0:=by
 have e1:=Net.parts h w x;have e2:=Net.parts h w y;have e3:sm N.n (fun v=>w v*N.dv x v)=sm N.n (fun v=>w v*N.dv y v):=ZQ fun v hv=>by rw[hx.cons v hv,hy.cons v hv]
 have e4:sm N.m (fun e=>(w (N.to e)-w (N.fr e))*(x e-y e))=sm N.m (fun e=>(w (N.to e)-w (N.fr e))*x e)-sm N.m (fun e=>(w (N.to e)-w (N.fr e))*y e):=by rw[<-WS];exact ZQ fun e _=>by grind
 rw[e4,<-e1,<-e2,e3];grind
theorem Net.Flow.op{N:Net}{x:Nat->Rat}(h:N.Flow x){e:Nat}(he:e<N.m)(hx:x e≠0):N.op e=true:=by
 cases q:N.op e with
 |true=>rfl
 |false=>exact absurd (h.sh e he q) hx
theorem Net.uniq{N:Net}(h:N.Ok){x y:Nat->Rat}(hx:N.WC x)(hy:N.WC y):∀e,e<N.m->x e=y e:=by
 obtain⟨fx,p,px⟩:=hx;obtain⟨fy,q,py⟩:=hy;have s1:=Net.L_ h p fx fy;have s2:=Net.L_ h q fx fy;have t1:sm N.m (fun e=>N.b e*((x e-y e)*(x e-y e)))<=0:=by
  have e1:sm N.m (fun e=>N.b e*((x e-y e)*(x e-y e)))=
   sm N.m (fun e=>(N.price x e-(p (N.to e)-p (N.fr e))-(N.price y e-(q (N.to e)-q (N.fr e))))*(x e-y e)):=by
   have:sm N.m (fun e=>N.b e*((x e-y e)*(x e-y e)))=sm N.m (fun e=>N.b e*((x e-y e)*(x e-y e)))-(sm N.m (fun e=>(p (N.to e)-p (N.fr e))*(x e-y e))-sm N.m (fun e=>(q (N.to e)-q (N.fr e))*(x e-y e))):=by rw[s1,s2];grind
   rw[this,<-WS,<-WS];refine ZQ fun e _=>?_;unfold Net.price;grind
  have z:sm N.m (fun _=>0)=0:=Xq _;rw[e1,<-z];refine Aq fun e he=>?_;have nx:=fx.nn e he;have ny:=fy.nn e he;have k1:(N.price x e-(p (N.to e)-p (N.fr e)))*x e=0:=by
   by_cases a:x e=0;·rw[a];grind
   ·have:=(px.eq e he a).2;grind
  have k2:(N.price y e-(q (N.to e)-q (N.fr e)))*y e=0:=by
   by_cases a:y e=0;·rw[a];grind
   ·have:=(py.eq e he a).2;grind
  have k3:0<=(N.price x e-(p (N.to e)-p (N.fr e)))*y e:=by
   by_cases a:y e=0;·rw[a];grind
   ·have:=px.le e he (fy.op he a) (py.eq e he a).1;exact Xh (by grind) ny
  have k4:0<=(N.price y e-(q (N.to e)-q (N.fr e)))*x e:=by
   by_cases a:x e=0;·rw[a];grind
   ·have:=py.le e he (fx.op he a) (px.eq e he a).1;exact Xh (by grind) nx
  grind
 intro e he;have k:=VG (f:=fun e=>N.b e*((x e-y e)*(x e-y e))) (fun e he=>Xh (YH (h.O e he)) (sq_nonneg _)) t1 e he;have:(x e-y e)*(x e-y e)=0:=by
  rcases XY.mp k with k|k;·have:=h.O e he;grind
  ·exact k
 have:=MF this;grind
theorem Net.WC.reach{N:Net}(h:N.Ok){x:Nat->Rat}(hx:N.WC x):N.Reach N.t:=by
 obtain⟨fx,p,px⟩:=hx;have e1:=fx.cons N.t h.ht;unfold Net.due at e1;rw[Z7 rfl]at e1;by_cases q:∃e,e<N.m/\N.to e=N.t/\x e≠0
 ·obtain⟨e,he,et,ex⟩:=q;have:=Net.Reach.go e he (fx.op he ex) (px.eq e he ex).1;rw[et]at this;exact this
 ·have z:N.dv x N.t<=0:=by
   unfold Net.dv;rw[<-Xq N.m];refine Aq fun e he=>?_;unfold Net.inc;have:=fx.nn e he;by_cases a:N.to e=N.t
   ·have:x e=0:=by
     by_cases b:x e=0;·exact b
     ·exact absurd ⟨e,he,a,b⟩ q
    rw[this];grind
   ·rw[Z8 a];split<;>grind
  have:=h.hd;grind
def Net.nd(N:Net)(es:Nat->Nat):Nat->Nat
 |0=>N.s
 |i+1=>N.to (es i)
def Net.Row(N:Net)(es:Nat->Nat)(k:Nat):Prop:=∀i,i<k->es i<N.m/\N.op (es i)=true/\N.fr (es i)=N.nd es i
def Net.Walk(N:Net)(w:Nat->Rat)(k v:Nat)(c:Rat):Prop:=∃es,N.Row es k/\N.nd es k=v/\sm k (fun i=>w (es i))=c
theorem Net.Walk.nil{N:Net}(w:Nat->Rat):N.Walk w 0 N.s 0:=⟨fun _=>0,fun i hi=>by omega,Y,Y⟩
theorem Net.Walk.snoc{N:Net}{w:Nat->Rat}{k e:Nat}{c:Rat}(h:N.Walk w k (N.fr e) c)(he:e<N.m)(ho:N.op e=true):N.Walk w (k+1) (N.to e) (c+w e):=by
 obtain⟨es,r,v,s⟩:=h;have n8:∀i,i<=k->N.nd (fun i=>if i=k then e else es i) i=N.nd es i:=by
  intro i hi;cases i with
  |zero=>rfl
  |succ i=>
   show N.to (if i=k then e else es i)=N.to (es i);rw[Z8 (by omega)]
 refine⟨fun i=>if i=k then e else es i,fun i hi=>?_,?_,?_⟩
 ·show(if i=k then e else es i)<N.m/\N.op (if i=k then e else es i)=true/\N.fr (if i=k then e else es i)=_;rw[n8 i (by omega)];by_cases a:i=k
  ·subst a;rw[Z7 rfl];exact⟨he,ho,v.symm⟩
  ·rw[Z8 a];exact r i (by omega)
 ·show N.to (if k=k then e else es k)=N.to e;rw[Z7 rfl]
 ·simp only[sm];rw[<-s];have:sm k (fun i=>w (if i=k then e else es i))=sm k (fun i=>w (es i)):=ZQ fun i hi=>by rw[Z8 (by omega)]
  rw[this];simp
theorem Net.Walk.cases{N:Net}{w:Nat->Rat}{k v:Nat}{c:Rat}(h:N.Walk w (k+1) v c):∃e c',e<N.m/\N.op e=true/\N.to e=v/\N.Walk w k (N.fr e) c'/\c=c'+w e:=by
 obtain⟨es,r,hv,s⟩:=h;have:=r k (by omega);exact⟨es k,_,this.1,this.2.1,hv,⟨es,fun i hi=>r i (by omega),this.2.2.symm,Y⟩,s.symm⟩
theorem Net.Walk.zero{N:Net}{w:Nat->Rat}{v:Nat}{c:Rat}(h:N.Walk w 0 v c):v=N.s/\c=0:=by
 obtain⟨es,r,hv,s⟩:=h;exact⟨hv.symm,s.symm⟩
theorem Net.Walk.reach{N:Net}{w:Nat->Rat}:∀{k v:Nat}{c:Rat},N.Walk w k v c->N.Reach v
 |0,v,c,h=>by rw[h.zero.1];exact .s
 |k+1,v,c,h=>by
  obtain⟨e,c',he,ho,rfl,h',_⟩:=h.cases;exact .go e he ho h'.reach
theorem Net.Reach.walk{N:Net}(w:Nat->Rat){v:Nat}(h:N.Reach v):∃k c,N.Walk w k v c:=by
 induction h with
 |s=>exact ⟨0,0,.nil w⟩
 |go e he ho _ ih=>
  obtain⟨k,c,h⟩:=ih;exact⟨k+1,_,h.snoc he ho⟩
theorem Ak:∀(n:Nat)(f:Nat->Nat),(∀i,i<=n->f i<n)->∃i j,i<j/\j<=n/\f i=f j
 |0,f,h=>by have:=h 0 (by omega);omega
 |n+1,f,h=>by
  by_cases q:∃i,i<=n/\f i=f (n+1)
  ·obtain⟨i,hi,e⟩:=q;exact⟨i,n+1,by omega,by omega,e⟩
  ·have q':∀i,i<=n->f i≠f (n+1):=fun i hi e=>q ⟨i,hi,e⟩;obtain⟨i,j,JX,hj,e⟩:=Ak n (fun i=>if f i=n then f (n+1)else f i) (fun i hi=>by
    have J:=h i (by omega);have h2:=h (n+1) (by omega);have h3:=q' i hi;show(if f i=n then f (n+1)else f i)<n;split<;>omega)
   refine⟨i,j,JX,by omega,?_⟩;have h3:=q' i (by omega);have h4:=q' j (by omega);have h5:=h i (by omega);have h6:=h j (by omega);split at e<;>split at e<;>omega
theorem Net.Row.lt{N:Net}(h:N.Ok){es:Nat->Nat}{k:Nat}(r:N.Row es k):∀i,i<=k->N.nd es i<N.n
 |0,_=>h.hs
 |i+1,hi=>h.Am _ (r i (by omega)).1
theorem Net.Walk.cut{N:Net}(h:N.Ok){w:Nat->Rat}(hw:∀e,e<N.m->N.op e=true->0<=w e){k v:Nat}{c:Rat}(r:N.Walk w k v c)(hk:N.n<=k):∃k' c',k'<k/\c'<=c/\N.Walk w k' v c':=by
 obtain⟨es,r,hv,s⟩:=r;obtain⟨i,j,JX,hj,e⟩:=Ak N.n (N.nd es) (fun i hi=>r.lt h i (by omega));have n8:∀a,N.nd (fun a=>if a<i then es a else es (a+(j-i))) a=if a<=i then N.nd es a else N.nd es (a+(j-i)):=by
  intro a;cases a with
  |zero=>rw [Z7 (by omega)];rfl
  |succ a=>
   show N.to (if a<i then es a else es (a+(j-i)))=_;by_cases q:a<i;·rw[Z7 q,Z7 (by omega)];rfl
   ·rw[Z8 q,Z8 (by omega)];have:a+1+(j-i)=(a+(j-i))+1:=by omega
    rw[this];rfl
 refine⟨k-(j-i),_,by omega,?_,fun a=>if a<i then es a else es (a+(j-i)),fun a ha=>?_,?_,Y⟩
 ·obtain⟨b,rfl⟩:∃b,k=j+b:=⟨k-j,by omega⟩;have e1:j+b-(j-i)=i+b:=by omega
  obtain⟨g,rfl⟩:∃g,j=i+g:=⟨j-i,by omega⟩;rw[e1,RJ,<-s,RJ,RJ];have f1:sm i (fun a=>w (if a<i then es a else es (a+(i+g-i))))=sm i (fun a=>w (es a)):=ZQ fun a ha=>by rw[Z7 ha]
  have f2:sm b (fun a=>w (if i+a<i then es (i+a)else es (i+a+(i+g-i))))=sm b (fun a=>w (es (i+g+a))):=ZQ fun a ha=>by
   rw[Z8 (by omega)];have:i+a+(i+g-i)=i+g+a:=by omega
   rw[this]
  have f3:0<=sm g (fun a=>w (es (i+a))):=Q4 fun a ha=>hw _ (r (i+a) (by omega)).1 (r (i+a) (by omega)).2.1;rw[f1,f2];grind
 ·show(if a<i then es a else es (a+(j-i)))<N.m/\N.op (if a<i then es a else es (a+(j-i)))=true/\N.fr (if a<i then es a else es (a+(j-i)))=_;rw[n8 a];by_cases q:a<i
  ·rw[Z7 q,Z7 (by omega)];exact r a (by omega)
  ·rw[Z8 q];have:=r (a+(j-i)) (by omega);refine⟨this.1,this.2.1,?_⟩;rw[this.2.2];by_cases q2:a=i
   ·subst q2;rw[Z7 (by omega),e];congr 1;omega
   ·rw[Z8 (by omega)]
 ·rw[n8,<-hv];by_cases q:k-(j-i)=i
  ·rw[Z7 (by omega),q,e];congr 1;omega
  ·rw[Z8 (by omega)];congr 1;omega
theorem Net.Walk.short{N:Net}(h:N.Ok){w:Nat->Rat}(hw:∀e,e<N.m->N.op e=true->0<=w e):∀{k v:Nat}{c:Rat},N.Walk w k v c->∃k' c',k'<N.n/\c'<=c/\N.Walk w k' v c':=by
 intro k;induction k using Nat.strongRecOn with
 |ind k ih=>
  intro v c r;by_cases q:k<N.n;·exact⟨k,c,q,by grind,r⟩
  ·obtain⟨k',c',J,h2,h3⟩:=r.cut h hw (by omega);obtain⟨k2,c2,h4,h5,h6⟩:=ih k' J h3;exact⟨k2,c2,h4,by grind,h6⟩
def Net.GU(N:Net)(w:Nat->Rat)(v:Nat)(c:Rat):Prop:=(∃k,N.Walk w k v c)/\∀k c',N.Walk w k v c'->c<=c'
theorem Net.GU.uniq{N:Net}{w:Nat->Rat}{v:Nat}{c c':Rat}(h:N.GU w v c)(h':N.GU w v c'):c=c':=by
 obtain⟨k,a⟩:=h.1;obtain⟨k',a'⟩:=h'.1;have:=h.2 _ _ a';have:=h'.2 _ _ a;grind
end RR
namespace RR
open RhRoads (num times less pick solveFrom solve)
def dot(n:Nat)(r:List Rat)(y:Nat->Rat):Rat:=sm n (fun j=>num r j*y j)
theorem Q3(k:Rat)(r:List Rat)(j:Nat):num (times k r) j=k*num r j:=by
 unfold num times;rw[ZX,ZX,Zf];cases r[j]?<;>simp
theorem GS{r q:List Rat}(h:r.length=q.length)(j:Nat):num (less r q) j=num r j-num q j:=by
 unfold num less;rw[ZX,ZX,ZX,List.getElem?_zipWith];by_cases a:j<r.length;·rw[ZU a,ZU (show j<q.length by omega)];rfl
 ·rw[YQ (show r.length<=j by omega),YQ (show q.length<=j by omega)];show(0:Rat)=0-0;grind
theorem Q2(k:Rat)(r:List Rat):(times k r).length=r.length:=by unfold times;rw[Z3]
theorem Aj{r q:List Rat}(h:r.length=q.length):(less r q).length=r.length:=by unfold less;rw[List.length_zipWith];omega
theorem JW(n:Nat)(k:Rat)(r:List Rat)(y:Nat->Rat):dot n (times k r) y=k*dot n r y:=by
 unfold dot;rw[<-WZ];exact ZQ fun j _=>by rw[Q3];grind
theorem Ai(n:Nat){r q:List Rat}(h:r.length=q.length)(y:Nat->Rat):dot n (less r q) y=dot n r y-dot n q y:=by
 unfold dot;rw[<-WS];exact ZQ fun j _=>by rw[GS h];grind
theorem JV{j:Nat}:∀{L:List (List Rat)}{r:List Rat}{l:List (List Rat)},pick j L=some (r,l)->num r j≠0/\L.Perm (r::l)
 |[],r,l,h=>by simp[pick]at h
 |q::L,r,l,h=>by
  unfold pick at h;by_cases a:num q j=0
  ·rw[Z7 a]at h;cases e:pick j L with
   |none=>rw [e]at h;simp at h
   |some x=>
    rw[e]at h;simp at h;obtain⟨J,h2⟩:=h;obtain⟨x1,x2⟩:=x;subst J h2;obtain⟨i1,i2⟩:=JV e;exact⟨i1,(List.Perm.cons q i2).trans (List.Perm.swap _ _ _)⟩
  ·rw[Z8 a]at h;simp at h;obtain⟨J,h2⟩:=h;subst J h2;exact⟨a,List.Perm.refl _⟩
theorem JU{j:Nat}:∀{L:List (List Rat)},pick j L=none->∀r,r∈L->num r j=0
 |[],_,r,h=>by simp at h
 |q::L,h,r,hr=>by
  unfold pick at h;by_cases a:num q j=0
  ·rw[Z7 a]at h;cases e:pick j L with
   |none=>
    rcases ZH.mp hr with rfl|hr;·exact a
    ·exact JU e r hr
   |some x=>rw [e]at h;simp at h
  ·rw[Z8 a]at h;simp at h
structure yg(n:Nat)(Tr:List (List Rat))(j:Nat)(done left:List (List Rat)):Prop where
 ld:done.length=j
 ll:left.length+j=n
 rl:∀r,r∈done++left->r.length=n+1
 un:∀i,i<j->∀c,c<j->num (done.getD i []) c=if c=i then 1 else 0
 ze:∀r,r∈left->∀c,c<j->num r c=0
 sol:∀y:Nat->Rat,(∀r,r∈done++left->dot (n+1) r y=0)->∀r,r∈Tr->dot (n+1) r y=0
def xg(n:Nat)(Tr:List (List Rat)):Prop:=∀y:Nat->Rat,y n=0->(∀r,r∈Tr->dot (n+1) r y=0)->∀j,j<n->y j=0
theorem getD_map{α β:Type}(f:α->β)(l:List α)(i:Nat)(a:α)(b:β)(h:i<l.length):(l.map f).getD i b=f (l.getD i a):=by rw[ZX,ZX,Zf,ZU h];rfl
theorem getD_mem{α:Type}(l:List α)(i:Nat)(a:α)(h:i<l.length):l.getD i a∈l:=by rw[ZX,ZU h];exact W6 h
theorem L9{α:Type}(p q:List α)(i:Nat)(a:α)(h:i<p.length):(p++q).getD i a=p.getD i a:=by rw[ZX,ZX,V_ h]
theorem L8{α:Type}(p:List α)(x:α)(a:α):(p++[x]).getD p.length a=x:=by rw[ZX,UO (by omega)];simp
theorem Dm{n:Nat}{r:List Rat}{y:Nat->Rat}{i j:Nat}(JX:i≠j)(hi:i<n)(hj:j<n)(h:∀c,c<n->c≠i->c≠j->num r c*y c=0):dot n r y=num r i*y i+num r j*y j:=by
 unfold dot;have:sm n (fun c=>num r c*y c)=sm n (fun c=>(if c=i then num r c*y c else 0)+(if c=j then num r c*y c else 0)):=ZQ fun c hc=>by
  by_cases a:c=i
  ·subst a;rw[Z7 Y,Z8 JX];grind
  ·by_cases b:c=j
   ·subst b;rw[Z7 Y,Z8 a];grind
   ·rw[Z8 a,Z8 b,h c hc a b];grind
 rw[this,TZ,YO hi (fun c=>num r c*y c),YO hj (fun c=>num r c*y c)]
theorem Ah{n:Nat}{r:List Rat}{y:Nat->Rat}(h:∀c,c<n->num r c*y c=0):dot n r y=0:=by
 unfold dot;rw[ZQ h,Xq]
theorem yg.pick{n:Nat}{Tr:List (List Rat)}{j:Nat}{done left:List (List Rat)}(M:yg n Tr j done left)(hj:j<n)(T:xg n Tr):∃r l,pick j left=some (r,l):=by
 cases e:RhRoads.pick j left with
 |some x=>exact ⟨x.1,x.2,Y⟩
 |none=>
  exfalso;have z:=JU e;have ld:=M.ld;have J:∀j',j'<n->(fun c=>if c=j then(1:Rat)else if c<j then-num (done.getD c []) j else 0) j'=0:=by
   refine T _ ?_ ?_
   ·show(if n=j then(1:Rat)else if n<j then _ else 0)=0;rw[Z8 (by omega),Z8 (by omega)]
   ·refine M.sol _ fun r hr=>?_;rcases Zm.mp hr with hr|hr
    ·obtain⟨i,hi,rfl⟩:=X8.mp hr;have ei:done.getD i []=done[i]:=by rw[ZX,ZU hi];rfl
     rw[Dm (i:=i) (j:=j) (by omega) (by omega) (by omega)]
     ·have:=M.un i (by omega) i (by omega);rw[ei,Z7 rfl]at this;rw[this,Z7 Y,Z8 (by omega),Z7 (by omega),ei];grind
     ·intro c hc ci cj;show num done[i] c*(if c=j then(1:Rat)else if c<j then-num (done.getD c []) j else 0)=0;rw[Z8 cj];by_cases q:c<j
      ·have:=M.un i (by omega) c q;rw[ei,Z8 ci]at this;rw[this];grind
      ·rw[Z8 q];grind
    ·refine Ah fun c hc=>?_;show num r c*(if c=j then(1:Rat)else if c<j then-num (done.getD c []) j else 0)=0;by_cases a:c=j;·subst a;rw[z r hr];grind
     ·by_cases b:c<j;·rw[M.ze r hr c b];grind
      ·rw[Z8 a,Z8 b];grind
  have:=J j hj;simp at this
theorem yg.step{n:Nat}{Tr:List (List Rat)}{j:Nat}{done left:List (List Rat)}(M:yg n Tr j done left){r:List Rat}{l:List (List Rat)}(e:RhRoads.pick j left=some (r,l)):yg n Tr (j+1) (done.map (fun q=>less q (times (num q j) (times (1/num r j) r)))++[times (1/num r j) r]) (l.map (fun q=>less q (times (num q j) (times (1/num r j) r)))):=by
 obtain⟨hp,pm⟩:=JV e;have ld:=M.ld;have ll:=M.ll;have pl:=pm.length_eq;rw[Zj]at pl;have rm:r∈left:=pm.mem_iff.mpr (YM ..);have lm:∀q,q∈l->q∈left:=fun q hq=>pm.mem_iff.mpr (Zh _ hq);have rr:r.length=n+1:=M.rl r (XD _ rm);have al:(times (1/num r j) r).length=n+1:=by rw[Q2,rr]
 have cl:∀q:List Rat,q.length=n+1->(less q (times (num q j) (times (1/num r j) r))).length=n+1:=fun q hq=>by rw[Aj (by rw[Q2,al,hq]),hq]
 have cn:∀q:List Rat,q.length=n+1->∀c,num (less q (times (num q j) (times (1/num r j) r))) c=num q c-num q j*(1/num r j*num r c):=fun q hq c=>by rw[GS (by rw[Q2,al,hq]),Q3,Q3]
 have dm:∀q,q∈done->q.length=n+1:=fun q hq=>M.rl q (Yu _ hq);have km:∀q,q∈left->q.length=n+1:=fun q hq=>M.rl q (XD _ hq);refine⟨by rw[ZI,Z3];simp;omega,by rw[Z3];omega,?_,?_,?_,?_⟩
 ·intro q hq;rcases Zm.mp hq with hq|hq
  ·rcases Zm.mp hq with hq|hq
   ·obtain⟨q',DG,rfl⟩:=Zc.mp hq;exact cl q' (dm q' DG)
   ·rw[Zp.mp hq];exact al
  ·obtain⟨q',DG,rfl⟩:=Zc.mp hq;exact cl q' (km q' (lm q' DG))
 ·intro i hi c hc;by_cases a:i<j
  ·rw[L9 _ _ _ _ (by rw[Z3];omega),getD_map _ done i [] [] (by omega)];have hq:=dm _ (getD_mem done i [] (by omega));rw[cn _ hq c];by_cases b:c<j;·rw[M.un i a c b,M.ze r rm c b];grind
   ·have:c=j:=by omega
    subst this;rw[Z8 (by omega)];grind
  ·have ij:i=j:=by omega
   have:i=(done.map (fun q=>less q (times (num q j) (times (1/num r j) r)))).length:=by rw[Z3];omega
   rw[this,L8,Q3,<-this];by_cases b:c<j;·rw[M.ze r rm c b,Z8 (by omega)];grind
   ·have:c=j:=by omega
    subst this;rw[Z7 (by omega)];grind
 ·intro q hq c hc;obtain⟨q',DG,rfl⟩:=Zc.mp hq;rw[cn q' (km q' (lm q' DG)) c];by_cases b:c<j;·rw[M.ze q' (lm q' DG) c b,M.ze r rm c b];grind
  ·have:c=j:=by omega
   subst this;grind
 ·intro y hy;refine M.sol y ?_;have ha:dot (n+1) (times (1/num r j) r) y=0:=hy _ (Yu _ (XD _ (Zp.mpr Y)));have hr:dot (n+1) r y=0:=by
   rw[JW]at ha;grind
  have back:∀q:List Rat,q.length=n+1->dot (n+1) (less q (times (num q j) (times (1/num r j) r))) y=0->dot (n+1) q y=0:=fun q hq h=>by
   rw[Ai _ (by rw[Q2,al,hq]),JW,ha]at h;grind
  intro q hq;rcases Zm.mp hq with hq|hq;·exact back q (dm q hq) (hy _ (Yu _ (Yu _ (UN hq))))
  ·rcases ZH.mp (pm.mem_iff.mp hq)with rfl|DG;·exact hr
   ·exact back q (km q hq) (hy _ (XD _ (UN DG)))
theorem yg.run{n:Nat}{Tr:List (List Rat)}(T:xg n Tr):∀(k j:Nat)(done left:List (List Rat)),j+k=n->yg n Tr j done left->∃D,solveFrom k j done left=some D/\∃L,yg n Tr n D L
 |0,j,done,left,hk,M=>by
  have:j=n:=by omega
  subst this;exact⟨done,Y,left,M⟩
 |k+1,j,done,left,hk,M=>by
  obtain⟨r,l,e⟩:=M.pick (by omega) T;obtain⟨D,J,h2⟩:=yg.run T k (j+1) _ _ (by omega) (M.step e);refine⟨D,?_,h2⟩;unfold solveFrom;rw[e];exact J
theorem Ag{n:Nat}{Tr:List (List Rat)}(hl:Tr.length=n)(hr:∀r,r∈Tr->r.length=n+1)(T:xg n Tr):∃h,solve n Tr=some h/\∀r,r∈Tr->sm n (fun j=>num r j*num h j)=num r n:=by
 obtain⟨D,e,L,M⟩:=yg.run T n 0 [] Tr (by omega) ⟨Y,by omega,by simpa using hr,fun i hi=>by omega,fun r _ c hc=>by omega,fun y hy=>by simpa using hy⟩;refine⟨D.map (fun r=>num r n),by unfold solve;rw[e];rfl,?_⟩;have ld:=M.ld;have ll:=M.ll;have nh:∀i,i<n->num (D.map (fun r=>num r n)) i=num (D.getD i []) n:=fun i hi=>getD_map _ D i [] 0 (by omega);have key:=M.sol (fun c=>if c=n then-1 else num (D.map (fun r=>num r n)) c) ?_
 ·intro r GR;have:=key r GR;unfold dot at this;simp only[sm]at this;rw[Z7 trivial]at this;have e2:sm n (fun j=>num r j*(if j=n then(-1:Rat)else num (D.map (fun r=>num r n)) j))=sm n (fun j=>num r j*num (D.map (fun r=>num r n)) j):=ZQ fun j hj=>by rw[Z8 (by omega)]
  rw[e2]at this;grind
 ·intro r GR;have l0:L=[]:=XF.mp (by omega);rw[l0,XH]at GR;obtain⟨i,hi,rfl⟩:=X8.mp GR;have ei:D.getD i []=D[i]:=by rw[ZX,ZU hi];rfl
  rw[Dm (i:=i) (j:=n) (by omega) (by omega) (by omega)]
  ·have:=M.un i (by omega) i (by omega);rw[ei,Z7 rfl]at this;rw[this,Z7 Y,Z8 (by omega),nh i (by omega),ei];grind
  ·intro c hc ci cn;have:=M.un i (by omega) c (by omega);rw[ei,Z8 ci]at this;rw[this];grind
end RR
namespace RR
theorem Net.conn{N:Net}(h:N.Ok){x p g:Nat->Rat}(nn:∀e,e<N.m->0<=x e)(cons:∀v,v<N.n->N.dv x v=N.due v)(hp:∀e,e<N.m->x e≠0->p (N.fr e)<p (N.to e))(hg:∀e,e<N.m->x e≠0->g (N.to e)=g (N.fr e))(gs:g N.s=0):∀e,e<N.m->x e≠0->g (N.fr e)=0:=by
 have sums:∀w:Nat->Rat,sm N.m (fun e=>(w (N.to e)-w (N.fr e))*x e)=N.d*(w N.t-w N.s):=by
  intro w;rw[<-Net.parts h w x];have:sm N.n (fun v=>w v*N.dv x v)=sm N.n (fun v=>(if v=N.t then w v*N.d else 0)-(if v=N.s then w v*N.d else 0)):=ZQ fun v hv=>by
   rw[cons v hv];unfold Net.due;have:=h.st;by_cases a:v=N.t;·rw[Z7 a,Z7 a,Z8 (by omega)];grind
   ·by_cases b:v=N.s;·rw[Z8 a,Z7 b,Z8 a,Z7 b];grind
    ·rw[Z8 a,Z8 b,Z8 a,Z8 b];grind
  rw[this,WS,YO h.ht (fun v=>w v*N.d),YO h.hs (fun v=>w v*N.d)];grind
 have s1:=sums (fun v=>if g v=0 then 0 else 1);have z1:sm N.m (fun e=>((if g (N.to e)=0 then(0:Rat)else 1)-(if g (N.fr e)=0 then 0 else 1))*x e)=0:=by
  rw[<-Xq N.m];refine ZQ fun e he=>?_;by_cases a:x e=0;·rw[a];grind
  ·rw[hg e he a];grind
 have gt:g N.t=0:=by
  rw[z1,Z7 gs]at s1;have:=h.hd;by_cases a:g N.t=0;·exact a
  ·rw[Z8 a]at s1;grind
 have s2:=sums (fun v=>if g v=0 then 0 else p v);simp only[gs,gt,Z7]at s2;have pZ:∀e,e<N.m->0<=((if g (N.to e)=0 then 0 else p (N.to e))-(if g (N.fr e)=0 then 0 else p (N.fr e)))*x e:=by
  intro e he;by_cases a:x e=0;·rw[a];grind
  ·rw[hg e he a];have:=hp e he a;refine Xh ?_ (nn e he);split<;>grind
 intro e he hx;have k:=VG pZ (by rw[s2];grind) e he;rw[hg e he hx]at k;have:=hp e he hx;by_cases a:g (N.fr e)=0;·exact a
 ·rw[Z8 a,Z8 a]at k;rcases XY.mp k with k|k;·grind
  ·exact absurd k hx
def Net.RI(N:Net)(U:List Nat)(y:Nat->Rat)(z:Rat)(v:Nat):Rat:=ls U (fun e=>N.inc v e*((y (N.to e)-y (N.fr e)+N.c e*z)/N.b e))
theorem Net.Dl{N:Net}(h:N.Ok){e:Nat}(he:e<N.m)(w:Nat->Rat):sm N.n (fun v=>w v*N.inc v e)=w (N.to e)-w (N.fr e):=by
 have:sm N.n (fun v=>w v*N.inc v e)=sm N.n (fun v=>(if v=N.to e then w v else 0)-(if v=N.fr e then w v else 0)):=ZQ fun v _=>by
  unfold Net.inc;have:=h.ne e he;by_cases a:N.to e=v
  ·subst a;rw[Z7 Y,Z7 Y,Z8 (fun q=>this q.symm)];grind
  ·by_cases b:N.fr e=v
   ·subst b;rw[Z8 a,Z7 Y,Z8 (fun q=>a q.symm),Z7 rfl];grind
   ·rw[Z8 a,Z8 b,Z8 (fun q=>a q.symm),Z8 (fun q=>b q.symm)];grind
 rw[this,WS,YO (h.Am e he),YO (h.Bc e he)]
def Net.Ys(N:Net)(U:List Nat)(v:Nat):Prop:=∃e,e∈U/\(N.fr e=v\/N.to e=v)
def Net.Pq(N:Net)(U:List Nat):Prop:=∀g:Nat->Rat,(∀e,e∈U->g (N.to e)=g (N.fr e))->g N.s=0->∀e,e∈U->g (N.fr e)=0
theorem Net.EO{N:Net}(h:N.Ok){U:List Nat}(hU:∀e,e∈U->e<N.m)(y u:Nat->Rat)(z:Rat):sm N.n (fun v=>u v*N.RI U y z v)=ls U (fun e=>(u (N.to e)-u (N.fr e))*((y (N.to e)-y (N.fr e)+N.c e*z)/N.b e)):=by
 have:sm N.n (fun v=>u v*N.RI U y z v)=sm N.n (fun v=>ls U (fun e=>(u v*N.inc v e)*((y (N.to e)-y (N.fr e)+N.c e*z)/N.b e))):=ZQ fun v _=>by
  unfold Net.RI;rw[<-Qk];exact X4 fun e _=>by grind
 rw[this,<-vb];refine X4 fun e he=>?_;have k:sm N.n (fun i=>u i*N.inc i e*((y (N.to e)-y (N.fr e)+N.c e*z)/N.b e))=((y (N.to e)-y (N.fr e)+N.c e*z)/N.b e)*sm N.n (fun i=>u i*N.inc i e):=by rw[<-WZ];exact ZQ fun i _=>by grind
 rw[k,Net.Dl h (hU e he) u];grind
theorem Net.kernel{N:Net}(h:N.Ok){U:List Nat}(hU:∀e,e∈U->e<N.m)(T:N.Pq U){u:Nat->Rat}(J:∀v,v<N.n->(v=N.s\/¬N.Ys U v)->u v=0)(h2:∀v,v<N.n->v≠N.s->N.Ys U v->N.RI U u 0 v=0):∀v,v<N.n->u v=0:=by
 have s:=Net.EO h hU u u 0;have z:sm N.n (fun v=>u v*N.RI U u 0 v)=0:=by
  refine Vz (ZQ (g:=fun _=>0) fun v hv=>?_) (Xq N.n);by_cases a:v=N.s\/¬N.Ys U v;·rw[J v hv a];grind
  ·have b:N.Ys U v:=Classical.byContradiction fun q=>a (.inr q);rw[h2 v hv (fun q=>a (.inl q)) b];grind
 rw[z]at s;have nn:∀e,e∈U->0<=(u (N.to e)-u (N.fr e))*((u (N.to e)-u (N.fr e)+N.c e*0)/N.b e):=by
  intro e he;have O:=h.O e (hU e he);have:(u (N.to e)-u (N.fr e))*((u (N.to e)-u (N.fr e)+N.c e*0)/N.b e)=(u (N.to e)-u (N.fr e))*(u (N.to e)-u (N.fr e))*(1/N.b e):=by grind
  rw[this];refine Xh (sq_nonneg _) ?_;have:0<(N.b e)⁻¹:=Rat.inv_pos.mpr O;grind
 have k:=L' nn (by rw[<-s];grind);have eqs:∀e,e∈U->u (N.to e)=u (N.fr e):=by
  intro e he;have O:=h.O e (hU e he);have:=k e he;rcases XY.mp this with q|q;·grind
  ·grind
 have fin:=T u eqs (J N.s h.hs (.inl Y));intro v hv;by_cases a:N.Ys U v
 ·obtain⟨e,he,hh⟩:=a;rcases hh with rfl|rfl;·exact fin e he
  ·rw[eqs e he];exact fin e he
 ·exact J v hv (.inr a)
theorem Net.pY{N:Net}(h:N.Ok){x p D:Nat->Rat}(fx:N.Flow x)(px:N.lu x p)(hD:∀v,N.Reach v->N.GU (N.price x) v (D v)):∀e,e<N.m->x e≠0->D (N.to e)=D (N.fr e)+N.price x e:=by
 have rt:N.Reach N.t:=Net.WC.reach h ⟨fx,p,px⟩;have e9:∀k v c,N.Walk (N.price x) k v c->p v-p N.s<=c:=by
  intro k;induction k with
  |zero=>
   intro v c r;obtain⟨rfl,rfl⟩:=r.zero;grind
  |succ k ih=>
   intro v c r;obtain⟨e,c',he,ho,rfl,h',rfl⟩:=r.cases;have:=ih _ _ h';have:=px.le e he ho h'.reach;grind
 have ge:∀v,N.Reach v->p v-p N.s<=D v:=fun v r=>by
  obtain⟨k,w⟩:=(hD v r).1;exact e9 _ _ _ w
 have Ds:D N.s<=0:=(hD N.s .s).2 _ _ (.nil _);have st:∀e,e<N.m->x e≠0->D (N.to e)<=D (N.fr e)+N.price x e:=fun e he hx=>by
  have r:=(px.eq e he hx).1;have o:=fx.op he hx;obtain⟨k,w⟩:=(hD _ r).1;exact(hD _ (.go e he o r)).2 _ _ (w.snoc he o)
 have sums:sm N.m (fun e=>((D (N.to e)-p (N.to e))-(D (N.fr e)-p (N.fr e)))*x e)=N.d*((D N.t-p N.t)-(D N.s-p N.s)):=by
  rw[<-Net.parts h (fun v=>D v-p v) x];have:sm N.n (fun v=>(D v-p v)*N.dv x v)=sm N.n (fun v=>(if v=N.t then(D v-p v)*N.d else 0)-(if v=N.s then(D v-p v)*N.d else 0)):=ZQ fun v hv=>by
   rw[fx.cons v hv];unfold Net.due;have:=h.st;by_cases a:v=N.t;·rw[Z7 a,Z7 a,Z8 (by omega)];grind
   ·by_cases b:v=N.s;·rw[Z8 a,Z7 b,Z8 a,Z7 b];grind
    ·rw[Z8 a,Z8 b,Z8 a,Z8 b];grind
  rw[this,WS,YO h.ht (fun v=>(D v-p v)*N.d),YO h.hs (fun v=>(D v-p v)*N.d)];grind
 have nn:∀e,e<N.m->0<=(-1)*(((D (N.to e)-p (N.to e))-(D (N.fr e)-p (N.fr e)))*x e):=by
  intro e he;by_cases a:x e=0;·rw[a];grind
  ·have J:=st e he a;have h2:=(px.eq e he a).2;have h3:0<=((D (N.fr e)-p (N.fr e))-(D (N.to e)-p (N.to e)))*x e:=Xh (by grind) (fx.nn e he);grind
 have va:sm N.m (fun e=>(-1)*(((D (N.to e)-p (N.to e))-(D (N.fr e)-p (N.fr e)))*x e))<=0:=by
  rw[WZ,sums];have:=ge N.t rt;have:0<=N.d*((D N.t-p N.t)-(D N.s-p N.s)):=Xh (YH h.hd) (by grind);grind
 intro e he hx;have k:=VG nn va e he;have h2:=(px.eq e he hx).2;have:((D (N.to e)-p (N.to e))-(D (N.fr e)-p (N.fr e)))*x e=0:=by grind
 rcases XY.mp this with q|q;·grind
 ·exact absurd q hx
theorem Net.EN{N:Net}(h:N.Ok){x p:Nat->Rat}(fx:N.Flow x)(px:N.lu x p){U:List Nat}(hU:∀e,e∈U↔e<N.m/\x e≠0)(nd:U.Nodup):N.Pq U/\∀hh:Nat->Rat,(∀v,v<N.n->(v=N.s\/¬N.Ys U v)->hh v=0)->(∀v,v<N.n->v≠N.s->N.Ys U v->N.RI U hh (-1) v=if v=N.t then N.d else 0)->∀e,e∈U->(hh (N.to e)-hh (N.fr e)-N.c e)/N.b e=x e:=by
 have T:N.Pq U:=by
  intro g hg gs e he;refine Net.conn h (p:=p) fx.nn fx.cons (fun e he hx=>?_) (fun e he hx=>hg e ((hU e).mpr ⟨he,hx⟩)) gs e ((hU e).mp he).1 ((hU e).mp he).2;have:=(px.eq e he hx).2;have J:0<N.b e*x e:=V4 (h.O e he) (by have:=fx.nn e he;grind);have:=h.hc e he;unfold Net.price at this;unfold Net.price at*;grind
 refine⟨T,fun hh g1 g2=>?_⟩
 classical
 have key:∀v,v<N.n->hh v-(if N.Ys U v then p v-p N.s else 0)=0:=by
  refine Net.kernel h (fun e he=>((hU e).mp he).1) T (u:=fun v=>hh v-(if N.Ys U v then p v-p N.s else 0)) (fun v hv a=>?_) (fun v hv vs tv=>?_)
  ·show hh v-_=0;rw[g1 v hv a];rcases a with rfl|a;·split<;>grind
   ·rw[Z8 a];grind
  ·have e1:=g2 v hv vs tv;unfold Net.RI at e1⊢;have e2:ls U (fun e=>N.inc v e*((hh (N.to e)-(if N.Ys U (N.to e)then p (N.to e)-p N.s else 0)-(hh (N.fr e)-(if N.Ys U (N.fr e)then p (N.fr e)-p N.s else 0))+N.c e*0)/N.b e))=
    ls U (fun e=>N.inc v e*((hh (N.to e)-hh (N.fr e)+N.c e*-1)/N.b e))-ls U (fun e=>N.inc v e*x e):=by
    rw[<-Mg];refine X4 fun e he=>?_;have hm:=(hU e).mp he;have O:=h.O e hm.1;rw[Z7 ⟨e,he,.inr Y⟩,Z7 ⟨e,he,.inl Y⟩];have q:=(px.eq e hm.1 hm.2).2;unfold Net.price at q;have q2:x e=(p (N.to e)-p (N.fr e)-N.c e)/N.b e:=by rw[q];grind
    rw[q2];grind
   rw[e2,e1];have e3:ls U (fun e=>N.inc v e*x e)=N.dv x v:=by
    have:∀k,k<=N.m->∀V:List Nat,V.Nodup->(∀e,e∈V↔e<k/\x e≠0)->ls V (fun e=>N.inc v e*x e)=sm k (fun e=>N.inc v e*x e):=by
     intro k;induction k with
     |zero=>
      intro _ V _ hV;have:V=[]:=List.eq_nil_iff_forall_not_mem.mpr fun e he=>by have:=((hV e).mp he).1;omega
      rw[this];rfl
     |succ k ih=>
      intro hk V nV hV;simp only[sm];by_cases a:x k=0
      ·rw[ih (by omega) V nV (fun e=>by
        rw[hV e];constructor
        ·rintro⟨J,h2⟩;refine⟨?_,h2⟩;have:e≠k:=fun q=>h2 (by rw[q];exact a);omega
        ·rintro⟨J,h2⟩;exact⟨by omega,h2⟩),a]
       grind
      ·have mk:k∈V:=(hV k).mpr ⟨by omega,a⟩;have pm:=List.perm_cons_erase mk;have:ls V (fun e=>N.inc v e*x e)=ls (k::V.erase k) (fun e=>N.inc v e*x e):=by
        unfold ls;refine List.Perm.foldr_eq' (pm.map _) ?_ 0;intro a _ b _ c;grind
       rw[this,X_,ih (by omega) (V.erase k) (nV.erase k) (fun e=>by
        rw[nV.mem_erase_iff,hV e];constructor
        ·rintro⟨J,h2,h3⟩;exact⟨by omega,h3⟩
        ·rintro⟨J,h2⟩;exact⟨by omega,by omega,h2⟩)]
       grind
    exact this N.m (by omega) U nd hU
   rw[e3,fx.cons v hv];unfold Net.due;by_cases a:v=N.t;·rw[Z7 a,Z7 a];grind
   ·rw[Z8 a,Z8 a,Z8 vs];grind
 intro e he;have hm:=(hU e).mp he;have k1:=key (N.to e) (h.Am e hm.1);have k2:=key (N.fr e) (h.Bc e hm.1);rw[Z7 ⟨e,he,.inr Y⟩]at k1;rw[Z7 ⟨e,he,.inl Y⟩]at k2;have q:=(px.eq e hm.1 hm.2).2;have O:=h.O e hm.1;unfold Net.price at q;have:hh (N.to e)-hh (N.fr e)-N.c e=N.b e*x e:=by grind
 rw[this];grind
end RR
namespace RR
open RhRoads
def Wz:Road:=⟨0,1,0,1,0,true⟩
def rd(l:Land)(e:Nat):Road:=l.roads.getD e Wz
def Ze(l:Land)(all:Bool):Net:=⟨l.places,l.roads.length,fun e=>(rd l e).from_,fun e=>(rd l e).to_,fun e=>(rd l e).first all,fun e=>(rd l e).each all,fun e=>!(rd l e).shut,l.source,l.goal,(l.units:Rat)⟩
structure UI(n:Nat)(r:Road):Prop where
 f:r.from_<n
 t:r.to_<n
 ne:r.from_≠r.to_
 base:r.base<=1000
 s1:1<=r.slope
 s2:r.slope<=1000
 tn:0<=r.toll
 n4:r.toll.num<=1000000
 td:r.toll.den<=1000000
structure Zk(l:Land):Prop where
 p2:2<=l.places
 p6:l.places<=6
 s:l.source<l.places
 t:l.goal<l.places
 st:l.source≠l.goal
 u1:1<=l.units
 u2:l.units<=1000
 r9:l.roads.length<=9
 rs:∀r,r∈l.roads->UI l.places r
theorem Zk.rd{l:Land}(h:Zk l){e:Nat}(he:e<l.roads.length):UI l.places (rd l e):=h.rs _ (getD_mem _ _ _ he)
theorem natCast_pos{n:Nat}(h:1<=n):(0:Rat)<(n:Rat):=by
 have:((0:Nat):Rat)<(n:Rat):=Rat.natCast_lt_natCast.mpr h;simpa using this
theorem VF(n:Nat):(0:Rat)<=(n:Rat):=by
 have:((0:Nat):Rat)<=(n:Rat):=Rat.natCast_le_natCast.mpr (Zw n);simpa using this
theorem Vp{l:Land}(h:Zk l)(all:Bool):(Ze l all).Ok where
 hs:=h.s
 ht:=h.t
 st:=h.st
 hd:=natCast_pos h.u1
 Bc:=fun e he=>(h.rd he).f
 Am:=fun e he=>(h.rd he).t
 ne:=fun e he=>(h.rd he).ne
 hc:=fun e he=>by
  have:=(h.rd he).tn;have:=VF (RR.rd l e).base;show 0<=(RR.rd l e).first all
  unfold Road.first;cases all<;>simp<;>grind
 O:=fun e he=>by
  have:=natCast_pos (h.rd he).s1;show 0<(RR.rd l e).each all;unfold Road.each;cases all<;>simp<;>grind
theorem IY(l:Land):l.open_=((List.range l.roads.length).filter (fun e=>!(rd l e).shut)).map (fun e=>(e,rd l e)):=by
 unfold Land.open_;rw[Yi l.roads Wz,Yv,List.filter_map];rfl
theorem GQ{l:Land}{y:Nat×Road}:y∈l.open_↔y.1<l.roads.length/\y.2=rd l y.1/\(rd l y.1).shut=false:=by
 rw[IY,Zc];constructor
 ·rintro⟨e,he,rfl⟩;rw[XX,YW]at he;exact⟨he.1,Y,by simpa using he.2⟩
 ·rintro⟨J,h2,h3⟩;refine⟨y.1,?_,by rw[<-h2]⟩;rw[XX,YW];exact⟨J,by simp[h3]⟩
theorem L7(l:Land)(all:Bool)(f:Flow)(v:Nat):sumAt l f v=(Ze l all).dv (on f) v:=by
 have:sumAt l f v=ls l.roads.zipIdx (fun x=>if x.1.to_=v then on f x.2 else if x.1.from_=v then-(on f x.2)else 0):=rfl;rw[this,JY _ Wz];unfold Net.dv;refine ZQ fun e _=>?_;show(if(rd l e).to_=v then on f e else if(rd l e).from_=v then-(on f e)else 0)=(if(rd l e).to_=v then(1:Rat)else if(rd l e).from_=v then-1 else 0)*on f e;split;·grind
 ·split<;>grind
theorem Af(l:Land)(all:Bool)(v:Nat):due l v=(Ze l all).due v:=rfl
theorem B5{a b:Option Rat}{c:Rat}(h:nearer a b=some c):a=some c\/b=some c:=by
 unfold nearer at h;split at h;·exact .inr h
 ·exact .inl h
 ·split at h;·exact .inr h
  ·exact .inl h
theorem tM{x:Rat}(b:Option Rat):∃c,c<=x/\nearer (some x) b=some c:=by
 unfold nearer;cases b with
 |none=>exact ⟨x,by grind,Y⟩
 |some y=>
  by_cases a:y<x;·exact⟨y,by grind,by simp[a]⟩
  ·exact⟨x,by grind,by simp[a]⟩
theorem tL{x:Rat}(a:Option Rat):∃c,c<=x/\nearer a (some x)=some c:=by
 unfold nearer;cases a with
 |none=>exact ⟨x,by grind,Y⟩
 |some y=>
  by_cases q:x<y;·exact⟨x,by grind,by simp[q]⟩
  ·exact⟨y,by grind,by simp[q]⟩
theorem JT{α:Type}{g:α->Option Rat}:∀{L:List α}{a:Option Rat}{c:Rat},L.foldl (fun m x=>nearer m (g x)) a=some c->a=some c\/∃x,x∈L/\g x=some c
 |[],a,c,h=>.inl h
 |x::L,a,c,h=>by
  rcases JT (L:=L) h with h|⟨y,hy,h⟩
  ·rcases B5 h with h|h;·exact .inl h
   ·exact .inr ⟨x,by simp,h⟩
  ·exact .inr ⟨y,by simp[hy],h⟩
theorem EM{α:Type}{g:α->Option Rat}:∀{L:List α}{x:Rat},∃c,c<=x/\L.foldl (fun m x=>nearer m (g x)) (some x)=some c
 |[],x=>⟨x,by grind,Y⟩
 |y::L,x=>by
  obtain⟨c,J,h2⟩:=tM (x:=x) (g y);obtain⟨c',h3,h4⟩:=EM (g:=g) (L:=L) (x:=c);refine⟨c',by grind,?_⟩;rw[R6,h2,h4]
theorem Ae{α:Type}{g:α->Option Rat}:∀{L:List α}{a:Option Rat}{y:α}{x:Rat},y∈L->g y=some x->∃c,c<=x/\L.foldl (fun m x=>nearer m (g x)) a=some c
 |[],a,y,x,h,_=>by simp at h
 |z::L,a,y,x,h,e=>by
  rcases ZH.mp h with rfl|h
  ·obtain⟨c,J,h2⟩:=tL (x:=x) a;obtain⟨c',h3,h4⟩:=EM (g:=g) (L:=L) (x:=c);refine⟨c',by grind,?_⟩;rw[R6,e,h2,h4]
  ·obtain⟨c,J,h2⟩:=Ae (g:=g) (L:=L) (a:=nearer a (g z)) h e;exact⟨c,J,h2⟩
theorem W_{α:Type}(n:Nat)(f:Nat->α)(v:Nat)(d:α):((List.range n).map f).getD v d=if v<n then f v else d:=by
 rw[ZX,Zf];by_cases h:v<n;·rw[XG h,Z7 h];rfl
 ·rw[Z8 h,YQ (by rw[Zd];omega)];rfl
theorem SY(l:Land)(all:Bool)(f:Flow):∀(k v:Nat)(c:Rat),(costs l all f k).getD v none=some c->∃j,j<=k/\(Ze l all).Walk ((Ze l all).price (on f)) j v c
 |0,v,c,h=>by
  unfold costs at h;rw[W_]at h;split at h
  ·split at h
   ·next _ e=>
    cases h;subst e;exact⟨0,by omega,.nil _⟩
   ·cases h
  ·cases h
 |k+1,v,c,h=>by
  unfold costs at h;rw[W_]at h;split at h
  ·rcases JT h with h|⟨x,hx,h⟩
   ·obtain⟨j,J,h2⟩:=SY l all f k v c h;exact⟨j,by omega,h2⟩
   ·rw[XX]at hx;obtain⟨hx,ev⟩:=hx;obtain⟨m1,m2,m3⟩:=GQ.mp hx;cases q:(costs l all f k).getD x.2.from_ none with
    |none=>rw [q]at h;cases h
    |some c'=>
     rw[q]at h;have h:c'+x.2.price all (on f x.1)=c:=Zb h;obtain⟨j,J,h2⟩:=SY l all f k _ _ q;rw[m2]at h2 h ev;have ev:(rd l x.1).to_=v:=by simpa using ev
     refine⟨j+1,by omega,?_⟩;have:=Net.Walk.snoc (N:=Ze l all) (e:=x.1) h2 m1 (by show(!(rd l x.1).shut)=true;rw[m3];rfl);rw[<-h,<-ev];exact this
  ·cases h
theorem Wr{l:Land}(hl:Zk l)(all:Bool)(f:Flow):∀(k j v:Nat)(c:Rat),(Ze l all).Walk ((Ze l all).price (on f)) j v c->j<=k->∃c',c'<=c/\(costs l all f k).getD v none=some c'
 |0,j,v,c,h,hj=>by
  have:j=0:=by omega
  subst this;obtain⟨rfl,rfl⟩:=h.zero;refine⟨0,by grind,?_⟩;unfold costs;rw[W_,Z7 (show(Ze l all).s<l.places from hl.s)];exact Z7 rfl
 |k+1,j,v,c,h,hj=>by
  have hv:v<l.places:=h.reach.lt (Vp hl all);unfold costs;rw[W_,Z7 hv];by_cases a:j<=k
  ·obtain⟨c1,J,h2⟩:=Wr hl all f k j v c h a;simp only[h2];obtain⟨c2,h3,h4⟩:=EM (g:=fun x:Nat×Road=>((costs l all f k).getD x.2.from_ none).map fun(c:Rat)=>c+x.2.price all (on f x.1)) (L:=l.open_.filter fun(x:Nat×Road)=>x.2.to_==v) (x:=c1);exact⟨c2,by grind,h4⟩
  ·have:j=k+1:=by omega
   subst this;obtain⟨e,c',he,ho,ev,h',rfl⟩:=h.cases;obtain⟨c1,J,h2⟩:=Wr hl all f k k _ c' h' (by omega);have ev:(rd l e).to_=v:=ev;have ho:(!(rd l e).shut)=true:=ho;obtain⟨c2,h3,h4⟩:=Ae (g:=fun x:Nat×Road=>((costs l all f k).getD x.2.from_ none).map fun(c:Rat)=>c+x.2.price all (on f x.1)) (L:=l.open_.filter fun(x:Nat×Road)=>x.2.to_==v) (a:=(costs l all f k).getD v none) (y:=(e,rd l e)) (x:=c1+(rd l e).price all (on f e)) (by
    rw[XX];exact⟨GQ.mpr ⟨he,Y,by simpa using ho⟩,by simpa using ev⟩) (by
    have h2:(costs l all f k).getD (rd l e).from_ none=some c1:=h2;show((costs l all f k).getD (rd l e).from_ none).map _=_;rw[h2];rfl)
   refine⟨c2,?_,h4⟩;have:c2<=c1+(Ze l all).price (on f) e:=h3;grind
theorem L6{l:Land}(hl:Zk l)(all:Bool){x:Nat->Rat}(hx:∀e,e<l.roads.length->0<=x e):∀e,e<(Ze l all).m->(Ze l all).op e=true->0<=(Ze l all).price x e:=fun e he _=>by
 have J:=(Vp hl all).hc e he;have h2:=(Vp hl all).O e he;have h3:=Xh (YH h2) (hx e he);unfold Net.price;grind
theorem Um{l:Land}(hl:Zk l)(all:Bool){f:Flow}(hf:∀e,e<l.roads.length->0<=on f e){v:Nat}{c:Rat}:costTo l all f v=some c↔(Ze l all).GU ((Ze l all).price (on f)) v c:=by
 have pn:=L6 hl all hf;have fw:∀c,costTo l all f v=some c->(Ze l all).GU ((Ze l all).price (on f)) v c:=by
  intro c h;obtain⟨j,_,w⟩:=SY l all f _ _ _ h;refine⟨⟨j,w⟩,fun k c' w'=>?_⟩;obtain⟨k2,c2,J,h2,h3⟩:=w'.short (Vp hl all) pn;obtain⟨c3,h4,h5⟩:=Wr hl all f l.places k2 v c2 h3 (Y5 J);have:some c=some c3:=h.symm.trans h5;cases this;grind
 refine⟨fw c,fun h=>?_⟩;obtain⟨k,w⟩:=h.1;obtain⟨k2,c2,J,h2,h3⟩:=w.short (Vp hl all) pn;obtain⟨c3,h4,h5⟩:=Wr hl all f l.places k2 v c2 h3 (Y5 J);have:=(fw c3 h5).uniq h;rw[<-this];exact h5
theorem WR{l:Land}(hl:Zk l)(all:Bool){f:Flow}(hf:∀e,e<l.roads.length->0<=on f e){v:Nat}(r:(Ze l all).Reach v):∃c,costTo l all f v=some c:=by
 obtain⟨k,c,w⟩:=r.walk ((Ze l all).price (on f));obtain⟨k2,c2,J,h2,h3⟩:=w.short (Vp hl all) (L6 hl all hf);obtain⟨c3,h4,h5⟩:=Wr hl all f l.places k2 v c2 h3 (Y5 J);exact⟨c3,h5⟩
theorem Po{l:Land}(all:Bool){f:Flow}{v:Nat}{c:Rat}(h:costTo l all f v=some c):(Ze l all).Reach v:=by
 obtain⟨j,_,w⟩:=SY l all f _ _ _ h;exact w.reach
theorem GP{l:Land}(hl:Zk l)(all:Bool){f:Flow}(h:wrong l all f=none):(Ze l all).WC (on f):=by
 unfold wrong at h;split at h;·cases h
 ·next e1=>
  split at h;·cases h
  ·next e2=>
   rw[Wb]at e1 e2;have h:=Option.map_eq_none_iff.mp h;rw[Wb]at h;have mz:∀e,e<l.roads.length->(rd l e,e)∈l.roads.zipIdx:=fun e he=>by
    rw[Yi l.roads Wz];exact Zc.mpr ⟨e,YW.mpr he,Y⟩
   have a1:∀e,e<l.roads.length->0<=on f e/\((rd l e).shut=true->on f e=0):=fun e he=>by
    have:=e1 _ (mz e he);simp at this;refine⟨by grind,fun q=>this.2 q⟩
   have fl:(Ze l all).Flow (on f):=by
    refine⟨fun e he=>(a1 e he).1,fun e he ho=>(a1 e he).2 ?_,fun v hv=>?_⟩
    ·have:(!(rd l e).shut)=false:=ho;simpa using this
    ·have:=e2 v (YW.mpr hv);rw[<-L7 l all,<-Af l all];simpa using this
   have nn:∀e,e<l.roads.length->0<=on f e:=fun e he=>(a1 e he).1;refine⟨fl,fun v=>(costTo l all f v).getD 0,fun e he ho r=>?_,fun e he hx=>?_⟩
   ·obtain⟨c,hc⟩:=WR hl all nn r;obtain⟨g,hg⟩:=WR hl all nn (.go e he ho r);rw[hc,hg];show g<=c+_;obtain⟨k,w⟩:=((Um hl all nn).mp hc).1;exact((Um hl all nn).mp hg).2 _ _ (w.snoc he ho)
   ·have:=h _ (mz e he);simp only[Yq,not_and,bne_iff_ne]at this;have:=this hx;have c1:costTo l all f ((Ze l all).fr e)=(costs l all f l.places).getD (rd l e).from_ none:=rfl;have c2:costTo l all f ((Ze l all).to e)=(costs l all f l.places).getD (rd l e).to_ none:=rfl;rw[<-c1,<-c2]at this;split at this
    ·next c g q1 q2=>
     rw[q1,q2];refine⟨Po all q1,?_⟩;have:c+(rd l e).price all (on f e)=g:=by simpa using this
     exact this.symm
    ·exact absurd rfl this
theorem GO{l:Land}(hl:Zk l)(all:Bool){f:Flow}(h:(Ze l all).WC (on f)):wrong l all f=none:=by
 obtain⟨fl,p,px⟩:=h;have nn:∀e,e<l.roads.length->0<=on f e:=fl.nn;unfold wrong;have e1:(l.roads.zipIdx.find? fun(x:Road×Nat)=>decide (on f x.2<0)||(x.1.shut&&on f x.2!=0))=none:=by
  rw[Wb];intro y hy;rw[Yi l.roads Wz]at hy;obtain⟨e,he,rfl⟩:=Zc.mp hy;have he:=YW.mp he;have J:=nn e he;have h2:=fl.sh e he;simp;refine⟨by grind,fun q=>h2 ?_⟩;show(!(rd l e).shut)=false;have:(rd l e).shut=true:=q;rw[this];rfl
 have e2:((List.range l.places).find? fun(v:Nat)=>sumAt l f v !=due l v)=none:=by
  rw[Wb];intro v hv;have:=fl.cons v (YW.mp hv);rw[L7 l all,Af l all,this];simp
 rw[e1,e2];show Option.map _ _=none;rw[Option.map_eq_none_iff,Wb];intro y hy;rw[Yi l.roads Wz]at hy;obtain⟨e,he,rfl⟩:=Zc.mp hy;have he:=YW.mp he;by_cases hx:on f e=0;·simp[hx]
 ·obtain⟨r,_⟩:=px.eq e he hx;have ho:=fl.op he hx;obtain⟨c,hc⟩:=WR hl all nn r;obtain⟨g,hg⟩:=WR hl all nn (.go e he ho r);have hD:∀v,(Ze l all).Reach v->(Ze l all).GU ((Ze l all).price (on f)) v ((costTo l all f v).getD 0):=fun v r=>by
   obtain⟨c,hc⟩:=WR hl all nn r;rw[hc];exact(Um hl all nn).mp hc
  have:=Net.pY (Vp hl all) fl px hD e he hx;rw[hc,hg]at this;have c1:(costs l all f l.places).getD (rd l e).from_ none=some c:=hc;have c2:(costs l all f l.places).getD (rd l e).to_ none=some g:=hg;have c3:(l.roads.getD e Wz)=rd l e:=rfl;simp only[c3,c1,c2];have t2:g=c+(rd l e).price all (on f e):=this;rw[t2];simp
end RR
namespace RR
open RhRoads
theorem L5{α:Type}{n:Nat}(key:α->Nat)(w:α->Rat)(y:Nat->Rat):∀(L:List α),(∀x,x∈L->key x<n)->sm n (fun u=>ls (L.filter (fun x=>key x==u)) w*y u)=ls L (fun x=>w x*y (key x))
 |[],_=>by
  rw[TY];refine Vz (ZQ (g:=fun _=>0) fun u _=>?_) (Xq n);show ls [] w*y u=0;rw[TY];grind
 |x::L,h=>by
  rw[X_,<-L5 key w y L (fun z hz=>h z (by simp[hz]))];have e:∀u,u<n->ls ((x::L).filter (fun x=>key x==u)) w*y u=(if u=key x then w x*y u else 0)+ls (L.filter (fun x=>key x==u)) w*y u:=by
   intro u _;rw[YN];by_cases a:u=key x;·rw[Z7 (by simp[a]),Z7 a,X_];grind
   ·rw[Z8 (by simp;omega),Z8 a];grind
  rw[ZQ e,TZ,YO (h x (by simp)) (fun u=>w x*y u)]
def pr(l:Land)(e:Nat):Nat×Road:=(e,rd l e)
def Ground(l:Land)(q:List (Nat×Road))(v:Nat):Prop:=v=l.source\/(q.any fun(x:Nat×Road)=>x.2.from_==v||x.2.to_==v)=false
theorem L0{l:Land}{all:Bool}{U:List Nat}{v:Nat}:Ground l (U.map (pr l)) v↔v=(Ze l all).s\/¬(Ze l all).Ys U v:=by
 unfold Ground Net.Ys;refine or_congr Iff.rfl ?_;rw[<-Bool.not_eq_true,UR];refine not_congr ?_;constructor
 ·rintro⟨x,hx,h⟩;obtain⟨e,he,rfl⟩:=Zc.mp hx;refine⟨e,he,?_⟩;rw[Bool.or_eq_true,Xl,Xl]at h;exact h
 ·rintro⟨e,he,h⟩;refine⟨pr l e,UN he,?_⟩;rw[Bool.or_eq_true,Xl,Xl];exact h
theorem Dk{L:List Rat}{z:Rat}{n:Nat}(h:L.length=n):(∀u,u<n->num (L++[z]) u=L.getD u 0)/\num (L++[z]) n=z:=by
 refine⟨fun u hu=>L9 _ _ _ _ (by omega),?_⟩;subst h;exact L8 _ _ _
theorem Ul(l:Land)(all:Bool)(q:List (Nat×Road)):(heights l all q).length=l.places:=by
 unfold heights;rw[Z3,Zd]
theorem RH{l:Land}(hl:Zk l)(all:Bool){U:List Nat}(hU:∀e,e∈U->e<l.roads.length){v:Nat}(hv:v<l.places):∃r,r∈heights l all (U.map (pr l))/\(heights l all (U.map (pr l))).getD v []=r/\r.length=l.places+1/\((v=l.source\/¬(Ze l all).Ys U v)/\(∀y:Nat->Rat,dot (l.places+1) r y=y v)\/v≠l.source/\(Ze l all).Ys U v/\∀y:Nat->Rat,dot (l.places+1) r y=(Ze l all).RI U y (y l.places) v+(if v=l.goal then(l.units:Rat)else 0)*y l.places):=by
 refine⟨_,getD_mem _ v [] (by rw[Ul];exact hv),Y,?_⟩;unfold heights;rw[W_,Z7 hv];by_cases g:Ground l (U.map (pr l)) v
 ·have g':=g;unfold Ground at g';rw[Z7 g'];refine⟨by simp,.inl ⟨(L0 (all:=all)).mp g,fun y=>?_⟩⟩;unfold dot;simp only[sm];obtain⟨n1,n2⟩:=Dk (L:=(List.range l.places).map (fun(u:Nat)=>if u=v then(1:Rat)else 0)) (z:=0) (n:=l.places) (by simp);rw[n2];have:sm l.places (fun j=>num ((List.range l.places).map (fun(u:Nat)=>if u=v then(1:Rat)else 0)++[0]) j*y j)=sm l.places (fun j=>if j=v then y j else 0):=ZQ fun u hu=>by
   rw[n1 u hu,W_,Z7 hu];split<;>grind
  rw[this,YO hv];grind
 ·have g':=g;unfold Ground at g';rw[Z8 g'];have g2:=fun q=>g ((L0 (all:=all)).mpr q);refine⟨by simp,.inr ⟨fun q=>g2 (.inl q),Classical.byContradiction fun q=>g2 (.inr q),fun y=>?_⟩⟩;unfold dot;simp only[sm];generalize u_:(U.map (pr l)).filter (fun x=>x.2.to_==v)=into;generalize Ad:(U.map (pr l)).filter (fun x=>x.2.from_==v)=out;obtain⟨n1,n2⟩:=Dk (L:=(List.range l.places).map (fun(u:Nat)=>(if u=v then ls into (fun x=>1/x.2.each all)+ls out (fun x=>1/x.2.each all)else 0)-ls (into.filter fun x=>x.2.from_==u) (fun x=>1/x.2.each all)-ls (out.filter fun x=>x.2.to_==u) (fun x=>1/x.2.each all)))
   (z:=(if v=l.goal then(l.units:Rat)else 0)+ls into (fun x=>x.2.first all/x.2.each all)-ls out (fun x=>x.2.first all/x.2.each all)) (n:=l.places) (by simp)
  refine Vz (congrArg (fun z=>_+z*y l.places) n2) ?_;show _+((if v=l.goal then(l.units:Rat)else 0)+ls into (fun x=>x.2.first all/x.2.each all)-ls out (fun x=>x.2.first all/x.2.each all))*y l.places=_;have mi:∀x,x∈into->x.2.from_<l.places:=by
   intro x hx;rw[<-u_,XX]at hx;obtain⟨e,he,rfl⟩:=Zc.mp hx.1;exact(hl.rd (hU e he)).f
  have mo:∀x,x∈out->x.2.to_<l.places:=by
   intro x hx;rw[<-Ad,XX]at hx;obtain⟨e,he,rfl⟩:=Zc.mp hx.1;exact(hl.rd (hU e he)).t
  have s1:sm l.places (fun j=>num ((List.range l.places).map (fun(u:Nat)=>(if u=v then ls into (fun x=>1/x.2.each all)+ls out (fun x=>1/x.2.each all)else 0)-ls (into.filter fun x=>x.2.from_==u) (fun x=>1/x.2.each all)-ls (out.filter fun x=>x.2.to_==u) (fun x=>1/x.2.each all))++[(if v=l.goal then(l.units:Rat)else 0)+ls into (fun x=>x.2.first all/x.2.each all)-ls out (fun x=>x.2.first all/x.2.each all)]) j*y j)
   =(ls into (fun x=>1/x.2.each all)+ls out (fun x=>1/x.2.each all))*y v-ls into (fun x=>1/x.2.each all*y x.2.from_)-ls out (fun x=>1/x.2.each all*y x.2.to_):=by
   rw[<-L5 (fun x:Nat×Road=>x.2.from_) (fun x=>1/x.2.each all) y into mi,<-L5 (fun x:Nat×Road=>x.2.to_) (fun x=>1/x.2.each all) y out mo];rw[<-YO hv (fun j=>(ls into (fun x=>1/x.2.each all)+ls out (fun x=>1/x.2.each all))*y j),<-WS,<-WS];refine ZQ fun u hu=>?_;rw[n1 u hu,W_,Z7 hu];split<;>grind
  refine Vz (congrArg (fun z=>z+((if v=l.goal then(l.units:Rat)else 0)+ls into (fun x=>x.2.first all/x.2.each all)-ls out (fun x=>x.2.first all/x.2.each all))*y l.places) s1) ?_;show(ls into (fun x=>1/x.2.each all)+ls out (fun x=>1/x.2.each all))*y v-ls into (fun x=>1/x.2.each all*y x.2.from_)-ls out (fun x=>1/x.2.each all*y x.2.to_)+_=_;unfold Net.RI;have i1:∀f:Nat×Road->Rat,ls into f=ls U (fun e=>if(rd l e).to_=v then f (pr l e)else 0):=by
   intro f;rw[<-u_,JZ,ER];refine X4 fun e _=>?_;show(if((rd l e).to_==v)=true then _ else _)=_;simp
  have o1:∀f:Nat×Road->Rat,ls out f=ls U (fun e=>if(rd l e).from_=v then f (pr l e)else 0):=by
   intro f;rw[<-Ad,JZ,ER];refine X4 fun e _=>?_;show(if((rd l e).from_==v)=true then _ else _)=_;simp
  rw[i1,i1,i1,o1,o1,o1];have fin:ls U (fun e=>(Ze l all).inc v e*((y ((Ze l all).to e)-y ((Ze l all).fr e)+(Ze l all).c e*y l.places)/(Ze l all).b e))=
   y v*ls U (fun e=>if(rd l e).to_=v then 1/(rd l e).each all else 0)+y v*ls U (fun e=>if(rd l e).from_=v then 1/(rd l e).each all else 0)
   -ls U (fun e=>if(rd l e).to_=v then 1/(rd l e).each all*y (rd l e).from_ else 0)-ls U (fun e=>if(rd l e).from_=v then 1/(rd l e).each all*y (rd l e).to_ else 0)
   +y l.places*ls U (fun e=>if(rd l e).to_=v then(rd l e).first all/(rd l e).each all else 0)-y l.places*ls U (fun e=>if(rd l e).from_=v then(rd l e).first all/(rd l e).each all else 0):=by
   rw[<-Qk,<-Qk,<-Qk,<-Qk,<-Ao,<-Mg,<-Mg,<-Ao,<-Mg];refine X4 fun e he=>?_;have ne:=(hl.rd (hU e he)).ne;show(if(rd l e).to_=v then(1:Rat)else if(rd l e).from_=v then-1 else 0)*((y (rd l e).to_-y (rd l e).from_+(rd l e).first all*y l.places)/(rd l e).each all)=_;by_cases a:(rd l e).to_=v
   ·rw[Z7 a,Z7 a,Z7 a,Z7 a,Z8 (by omega),Z8 (by omega),Z8 (by omega),a];grind
   ·by_cases b:(rd l e).from_=v
    ·rw[Z8 a,Z7 b,Z8 a,Z8 a,Z8 a,Z7 b,Z7 b,Z7 b,b];grind
    ·rw[Z8 a,Z8 b,Z8 a,Z8 a,Z8 a,Z8 b,Z8 b,Z8 b];grind
  rw[fin];show(ls U (fun e=>if(rd l e).to_=v then 1/(rd l e).each all else 0)+ls U (fun e=>if(rd l e).from_=v then 1/(rd l e).each all else 0))*y v-ls U (fun e=>if(rd l e).to_=v then 1/(rd l e).each all*y (rd l e).from_ else 0)-ls U (fun e=>if(rd l e).from_=v then 1/(rd l e).each all*y (rd l e).to_ else 0)+((if v=l.goal then(l.units:Rat)else 0)+ls U (fun e=>if(rd l e).to_=v then(rd l e).first all/(rd l e).each all else 0)-ls U (fun e=>if(rd l e).from_=v then(rd l e).first all/(rd l e).each all else 0))*y l.places=_;grind
end RR
namespace RR
open RhRoads
theorem UH{α:Type}(p:α->Bool):∀(L:List α),L.filter p∈subsets L
 |[]=>by simp[subsets]
 |x::L=>by
  unfold subsets;rw[YN];split;·exact XD _ (UN (UH p L))
  ·exact Yu _ (UH p L)
theorem IX{l:Land}(hl:Zk l)(all:Bool){U:List Nat}(hU:∀e,e∈U->e<l.roads.length)(T:(Ze l all).Pq U):xg l.places (heights l all (U.map (pr l))):=by
 intro y yn hy;refine Net.kernel (Vp hl all) hU T (fun v hv g=>?_) (fun v hv vs tv=>?_)
 ·obtain⟨r,hr,_,_,h⟩:=RH hl all hU hv;rcases h with⟨_,h⟩|⟨J,h2,_⟩;·rw[<-h y];exact hy r hr
  ·rcases g with g|g;·exact absurd g J
   ·exact absurd h2 g
 ·obtain⟨r,hr,_,_,h⟩:=RH hl all hU hv;rcases h with⟨h,_⟩|⟨J,h2,h⟩
  ·rcases h with h|h;·exact absurd h vs
   ·exact absurd tv h
  ·have:=h y;rw[hy r hr,yn]at this;grind
theorem tK(n:Nat)(r h:List Rat):sm n (fun j=>num r j*num h j)=sm n (fun j=>num r j*(if j=n then-1 else num h j)):=ZQ fun j hj=>by rw[Z8 (by omega)]
theorem IW{l:Land}(hl:Zk l)(all:Bool){x:Nat->Rat}(hx:(Ze l all).WC x):flowOn l all (l.open_.filter (fun y=>decide (x y.1≠0)))=some ((List.range l.roads.length).map x):=by
 obtain⟨fx,p,px⟩:=hx;let U:=((List.range l.roads.length).filter (fun e=>!(rd l e).shut)).filter (fun e=>decide (x e≠0))
 have hq:l.open_.filter (fun y=>decide (x y.1≠0))=U.map (pr l):=by
  rw[IY,List.filter_map];rfl
 have mU:∀e,e∈U↔e<l.roads.length/\x e≠0:=by
  intro e;show e∈((List.range l.roads.length).filter (fun e=>!(rd l e).shut)).filter (fun e=>decide (x e≠0))↔_;rw[XX,XX,YW];constructor
  ·rintro⟨⟨J,h2⟩,h3⟩;exact⟨J,by simpa using h3⟩
  ·rintro⟨J,h2⟩;exact⟨⟨J,fx.op J h2⟩,by simpa using h2⟩
 have nZ:U.Nodup:=(R5.filter _).filter _;have hU:∀e,e∈U->e<l.roads.length:=fun e he=>((mU e).mp he).1;obtain⟨T,S⟩:=Net.EN (Vp hl all) fx px (U:=U) mU nZ;obtain⟨h,eh,sat⟩:=Ag (Ul l all (U.map (pr l))) (fun r hr=>by
  obtain⟨v,hv,rfl⟩:=X8.mp hr;rw[Ul]at hv;obtain⟨r',_,e,h,_⟩:=RH hl all hU hv;rw[ZX,ZU (by rw[Ul];exact hv)]at e;have e:(heights l all (U.map (pr l)))[v]=r':=e;rw[e];exact h) (IX hl all hU T)
 have pX:∀r,r∈heights l all (U.map (pr l))->dot (l.places+1) r (fun j=>if j=l.places then-1 else num h j)=0:=fun r hr=>by
  unfold dot;simp only[sm];rw[<-tK,sat r hr,Z7 trivial];grind
 have S2:=S (num h) (fun v hv g=>by
  obtain⟨r,hr,_,_,k⟩:=RH hl all hU hv;rcases k with⟨_,k⟩|⟨J,h2,_⟩
  ·have:=pX r hr;rw[k]at this;rw[Z8 (show v≠l.places from Za hv)]at this;exact this
  ·rcases g with g|g;·exact absurd g J
   ·exact absurd h2 g) (fun v hv vs tv=>by
  obtain⟨r,hr,_,_,k⟩:=RH hl all hU hv;rcases k with⟨k,_⟩|⟨J,h2,k⟩
  ·rcases k with k|k;·exact absurd k vs
   ·exact absurd tv k
  ·have:=pX r hr;rw[k]at this;simp only[Z7]at this;have e2:(Ze l all).RI U (fun j=>if j=l.places then-1 else num h j) (-1) v=(Ze l all).RI U (num h) (-1) v:=by
    unfold Net.RI;refine X4 fun e he=>?_;have J:(Ze l all).to e≠l.places:=Za ((Vp hl all).Am e (hU e he));have h2:(Ze l all).fr e≠l.places:=Za ((Vp hl all).Bc e (hU e he));simp only[Z8 J,Z8 h2]
   rw[e2]at this;show _=if v=l.goal then(l.units:Rat)else 0
   grind)
 unfold flowOn;rw[hq,eh];show some _=some _;congr 1;rw[Yi l.roads Wz];show List.map _ (List.map _ _)=_;rw[Yv];refine V9 fun e he=>?_;have he:=YW.mp he;show(if((U.map (pr l)).any fun y=>y.1==e)=true then(num h (rd l e).to_-num h (rd l e).from_-(rd l e).first all)/(rd l e).each all else 0)=x e;by_cases a:x e=0
 ·rw[Z8,a];rw[UR];rintro⟨y,hy,q⟩;obtain⟨e',rP,rfl⟩:=Zc.mp hy;have:e'=e:=by rw[Xl]at q;exact q
  subst this;exact((mU e').mp rP).2 a
 ·rw[Z7];·exact S2 e ((mU e).mpr ⟨he,a⟩)
  ·rw[UR];exact⟨pr l e,UN ((mU e).mpr ⟨he,a⟩),by show(e==e)=true;simp⟩
theorem Ac{n:Nat}{x:Nat->Rat}{e:Nat}(he:e<n):on ((List.range n).map x) e=x e:=by
 unfold on;rw[W_,Z7 he]
theorem Net.Ab{N:Net}{x y:Nat->Rat}(h:∀e,e<N.m->x e=y e)(v:Nat):N.dv x v=N.dv y v:=ZQ fun e he=>by rw[h e he]
theorem Net.NX{N:Net}{x y:Nat->Rat}(h:∀e,e<N.m->x e=y e){e:Nat}(he:e<N.m):N.price x e=N.price y e:=by unfold Net.price;rw[h e he]
theorem Net.WC.congr{N:Net}{x y:Nat->Rat}(h:∀e,e<N.m->x e=y e)(hx:N.WC x):N.WC y:=by
 obtain⟨fx,p,px⟩:=hx;refine⟨⟨fun e he=>by rw[<-h e he];exact fx.nn e he,fun e he ho=>by rw[<-h e he];exact fx.sh e he ho,fun v hv=>by rw[<-Net.Ab h v];exact fx.cons v hv⟩,p,fun e he ho r=>?_,fun e he hy=>?_⟩;·rw[<-Net.NX h he];exact px.le e he ho r
 ·rw[<-Net.NX h he];exact px.eq e he (by rw[h e he];exact hy)
theorem EL{l:Land}{all:Bool}{q:List (Nat×Road)}{f:Flow}(h:flowOn l all q=some f):f.length=l.roads.length:=by
 unfold flowOn at h;cases e:solve l.places (heights l all q)with
 |none=>rw [e]at h;cases h
 |some y=>
  rw[e]at h;have:=Zb h;rw[<-this,Z3,List.length_zipIdx]
theorem YY{l:Land}(hl:Zk l){all:Bool}{f:Flow}(h:settled l all=some f):f.length=l.roads.length/\(Ze l all).WC (on f):=by
 unfold settled at h;obtain⟨q,hq,e⟩:=List.exists_of_findSome?_eq_some h;split at e
 ·next f' ef=>
  split at e
  ·next w=>
   cases e;exact⟨EL ef,GP hl all (by simpa using w)⟩
  ·cases e
 ·cases e
theorem KI{l:Land}(hl:Zk l)(all:Bool){x:Nat->Rat}(hx:(Ze l all).WC x):settled l all=some ((List.range l.roads.length).map x):=by
 have e8:(Ze l all).WC (on ((List.range l.roads.length).map x)):=hx.congr fun e he=>(Ac he).symm;cases e:settled l all with
 |some f=>
  obtain⟨J,h2⟩:=YY hl e;have u:=Net.uniq (Vp hl all) h2 hx;congr 1;apply UQ;intro i;by_cases hi:i<l.roads.length
  ·have k:on f i=x i:=u i hi;unfold on at k;rw[ZX,ZU (by omega)]at k;rw[Zf,XG hi,ZU (by omega)];exact congrArg some k
  ·rw[YQ (by omega),YQ (by simp;omega)]
 |none=>
  exfalso;unfold settled at e;rw[List.findSome?_eq_none_iff]at e;have:=e _ (UH (fun y=>decide (x y.1≠0)) l.open_);rw[IW hl all hx]at this;simp only[GO hl all e8]at this;simp at this
theorem IV{l:Land}(hl:Zk l)(all:Bool)(h:¬(Ze l all).Reach l.goal):settled l all=none:=by
 cases e:settled l all with
 |none=>rfl
 |some f=>exact absurd (Net.WC.reach (Vp hl all) (YY hl e).2) h
end RR
namespace RR
structure Net.KH(N:Net)(x:Nat->Rat):Prop where
 nn:∀e,e<N.m->0<=x e
 cons:∀v,v<N.n->N.dv x v=N.due v
structure Net.Vo(N:Net)(U:List Nat)(y h:Nat->Rat):Prop where
 off:∀e,e<N.m->e∉U->y e=0
 on:∀e,e∈U->h (N.to e)-h (N.fr e)=N.c e+N.b e*y e
 cons:∀v,v<N.n->N.dv y v=N.due v
 hs:h N.s=0
def Net.PV(N:Net)(x:Nat->Rat):Rat:=sm N.m (fun e=>N.c e*x e+N.b e*(x e*x e)/2)
def Net.IU(N:Net)(x y:Nat->Rat):Rat:=sm N.m (fun e=>N.b e*((x e-y e)*(x e-y e)))
theorem Net.Q1{N:Net}(h:N.Ok)(w:Nat->Rat){x y:Nat->Rat}(hx:∀v,v<N.n->N.dv x v=N.due v)(hy:∀v,v<N.n->N.dv y v=N.due v):sm N.m (fun e=>(w (N.to e)-w (N.fr e))*(x e-y e))=0:=by
 have e1:=Net.parts h w x;have e2:=Net.parts h w y;have e3:sm N.n (fun v=>w v*N.dv x v)=sm N.n (fun v=>w v*N.dv y v):=ZQ fun v hv=>by rw[hx v hv,hy v hv]
 have e4:sm N.m (fun e=>(w (N.to e)-w (N.fr e))*(x e-y e))=sm N.m (fun e=>(w (N.to e)-w (N.fr e))*x e)-sm N.m (fun e=>(w (N.to e)-w (N.fr e))*y e):=by rw[<-WS];exact ZQ fun e _=>by grind
 rw[e4,<-e1,<-e2,e3];grind
theorem Net.Aa{N:Net}(h:N.Ok)(x y:Nat->Rat):0<=N.IU x y:=Q4 fun e he=>Xh (YH (h.O e he)) (sq_nonneg _)
theorem Net.IT{N:Net}(h:N.Ok){x y:Nat->Rat}{e:Nat}(he:e<N.m)(ne:x e≠y e):0<N.IU x y:=by
 refine Ap (fun e he=>Xh (YH (h.O e he)) (sq_nonneg _)) he (V4 (h.O e he) ?_);have J:=sq_nonneg (x e-y e);have h2:(x e-y e)*(x e-y e)≠0:=fun q=>ne (by have:=MF q;grind);grind
theorem Net.GN{N:Net}(h:N.Ok){x y:Nat->Rat}(z:N.IU x y<=0):∀e,e<N.m->x e=y e:=fun e he=>by
 by_cases q:x e=y e;·exact q
 ·have:=Net.IT h he q;grind
theorem Net.Pn{N:Net}(ok:N.Ok){U:List Nat}{x y h:Nat->Rat}(B:N.Vo U y h)(hx:∀v,v<N.n->N.dv x v=N.due v)(off:∀e,e<N.m->e∉U->x e=0):N.PV x-N.PV y=N.IU x y/2:=by
 have z:=Net.Q1 ok h hx B.cons;have:N.PV x-N.PV y=N.IU x y/2+sm N.m (fun e=>(h (N.to e)-h (N.fr e))*(x e-y e)):=by
  unfold Net.PV Net.IU;have e2:sm N.m (fun e=>N.b e*((x e-y e)*(x e-y e)))/2=sm N.m (fun e=>(1/2)*(N.b e*((x e-y e)*(x e-y e)))):=by rw[WZ];grind
  rw[e2,<-WS,<-TZ];refine ZQ fun e he=>?_;by_cases a:e∈U
  ·have:=B.on e a;rw[this];grind
  ·rw[off e he a,B.off e he a];grind
 rw[this,z];grind
def mix(k:Rat)(x y:Nat->Rat):Nat->Rat:=fun e=>(1-k)*x e+k*y e
theorem Net.GL{N:Net}{x y:Nat->Rat}(k:Rat)(hx:∀v,v<N.n->N.dv x v=N.due v)(hy:∀v,v<N.n->N.dv y v=N.due v):∀v,v<N.n->N.dv (mix k x y) v=N.due v:=by
 intro v hv;have:N.dv (mix k x y) v=(1-k)*N.dv x v+k*N.dv y v:=by
  unfold Net.dv;rw[<-WZ,<-WZ,<-TZ];refine ZQ fun e _=>?_;unfold mix;grind
 rw[this,hx v hv,hy v hv];grind
theorem Net.xf{N:Net}(k:Rat)(x y:Nat->Rat):N.IU (mix k x y) y=(1-k)*(1-k)*N.IU x y:=by
 unfold Net.IU;rw[<-WZ];refine ZQ fun e _=>?_;unfold mix;grind
theorem Net.xc{N:Net}(ok:N.Ok){U:List Nat}{x y h:Nat->Rat}(B:N.Vo U y h)(hx:∀v,v<N.n->N.dv x v=N.due v)(off:∀e,e<N.m->e∉U->x e=0){k:Rat}(k0:0<k)(k1:k<=1){e:Nat}(he:e<N.m)(ne:x e≠y e):N.PV (mix k x y)<N.PV x:=by
 have J:=Net.Pn ok B hx off;have h2:=Net.Pn ok B (Net.GL k hx B.cons) (fun e he a=>by unfold mix;rw[off e he a,B.off e he a];grind);rw[Net.xf]at h2;have h3:=Net.IT ok he ne;have h4:(1-k)*(1-k)*N.IU x y<N.IU x y:=by
  have:0<(1-(1-k)*(1-k))*N.IU x y:=by
   refine V4 ?_ h3;have:0<k*(2-k):=V4 k0 (by grind);grind
  grind
 grind
theorem Net.w_{N:Net}(ok:N.Ok){U:List Nat}{x y h:Nat->Rat}(B:N.Vo U y h)(hx:∀v,v<N.n->N.dv x v=N.due v)(off:∀e,e<N.m->e∉U->x e=0):N.PV y<=N.PV x:=by
 have J:=Net.Pn ok B hx off;have:=Net.Aa ok x y;grind
theorem Net.EK{N:Net}(ok:N.Ok){U:List Nat}{x y h:Nat->Rat}(B:N.Vo U y h)(hx:∀v,v<N.n->N.dv x v=N.due v)(off:∀e,e<N.m->e∉U->x e=0){e:Nat}(he:e<N.m)(ne:x e≠y e):N.PV y<N.PV x:=by
 have J:=Net.Pn ok B hx off;have:=Net.IT ok he ne;grind
theorem Net.IS{N:Net}(ok:N.Ok){x:Nat->Rat}(F:N.KH x):∃e,e<N.m/\N.to e=N.t/\x e≠0:=by
 refine Classical.byContradiction fun q=>?_;have e1:=F.cons N.t ok.ht;unfold Net.due at e1;rw[Z7 rfl]at e1;have z:N.dv x N.t<=0:=by
  unfold Net.dv;rw[<-Xq N.m];refine Aq fun e he=>?_;unfold Net.inc;have:=F.nn e he;by_cases a:N.to e=N.t
  ·have:x e=0:=by
    by_cases b:x e=0;·exact b
    ·exact absurd ⟨e,he,a,b⟩ q
   rw[this];grind
  ·rw[Z8 a];split<;>grind
 have:=ok.hd;grind
theorem Net.EJ{N:Net}(ok:N.Ok){x p:Nat->Rat}(F:N.KH x)(hp:∀e,e<N.m->x e≠0->p (N.fr e)<p (N.to e)){U:List Nat}(hU:∀e,e∈U↔e<N.m/\x e≠0):N.Pq U:=
 fun g hg gs e he=>Net.conn ok F.nn F.cons hp (fun e he hx=>hg e ((hU e).mpr ⟨he,hx⟩)) gs e ((hU e).mp he).1 ((hU e).mp he).2
structure Net.Good(N:Net)(x h:Nat->Rat):Prop where
 VE:N.KH x
 on:∀e,e<N.m->x e≠0->h (N.to e)-h (N.fr e)=N.c e+N.b e*x e
 hs:h N.s=0
theorem Net.Good.rise{N:Net}(ok:N.Ok){x h:Nat->Rat}(G:N.Good x h):∀e,e<N.m->x e≠0->h (N.fr e)<h (N.to e):=fun e he hx=>by
 have J:=G.on e he hx;have h2:0<N.b e*x e:=V4 (ok.O e he) (by have:=G.VE.nn e he;grind);have:=ok.hc e he;grind
theorem Net.Vo.good{N:Net}{U:List Nat}{y h:Nat->Rat}(B:N.Vo U y h)(nn:∀e,e<N.m->0<=y e):N.Good y h:=
 ⟨⟨nn,B.cons⟩,fun e he hx=>B.on e (Classical.byContradiction fun q=>hx (B.off e he q)),B.hs⟩
theorem Net.Good.same{N:Net}(ok:N.Ok){x h x' h':Nat->Rat}(G:N.Good x h)(G':N.Good x' h')(s:∀e,e<N.m->(x e≠0↔x' e≠0)):∀e,e<N.m->x e=x' e:=by
 refine Net.GN ok ?_;have z:=Net.Q1 ok (fun v=>h v-h' v) G.VE.cons G'.VE.cons;have:N.IU x x'=sm N.m (fun e=>(h (N.to e)-h' (N.to e)-(h (N.fr e)-h' (N.fr e)))*(x e-x' e)):=by
  unfold Net.IU;refine ZQ fun e he=>?_;by_cases a:x e=0
  ·have b:x' e=0:=Classical.byContradiction fun q=>(s e he).mpr q a;rw[a,b];grind
  ·have J:=G.on e he a;have h2:=G'.on e he ((s e he).mp a);have:h (N.to e)-h' (N.to e)-(h (N.fr e)-h' (N.fr e))=N.b e*(x e-x' e):=by grind
   rw[this];grind
 rw[this,z];grind
theorem Net.JS{N:Net}{x y:Nat->Rat}(h:∀e,e<N.m->x e=y e):N.PV x=N.PV y:=ZQ fun e he=>by rw[h e he]
theorem Net.z_{N:Net}(ok:N.Ok){U:List Nat}(hU:∀e,e∈U->e<N.m)(nd:U.Nodup){h:Nat->Rat}(hs:h N.s=0)(tt:N.Ys U N.t)(O:∀v,v<N.n->v≠N.s->N.Ys U v->N.RI U h (-1) v=if v=N.t then N.d else 0){y:Nat->Rat}(y1:∀e,e∈U->y e=(h (N.to e)-h (N.fr e)-N.c e)/N.b e)(y0:∀e,e<N.m->e∉U->y e=0):N.Vo U y h:=by
 have e6:∀f:Nat->Rat,ls U (fun e=>f e*y e)=sm N.m (fun e=>f e*y e):=by
  intro f;have:∀k,k<=N.m->∀V:List Nat,V.Nodup->(∀e,e∈V->e<k/\e∈U)->(∀e,e<k->e∈U->e∈V)->ls V (fun e=>f e*y e)=sm k (fun e=>f e*y e):=by
   intro k;induction k with
   |zero=>
    intro _ V _ hV _;have:V=[]:=List.eq_nil_iff_forall_not_mem.mpr fun e he=>by have:=(hV e he).1;omega
    rw[this];rfl
   |succ k ih=>
    intro hk V nV hV lr;simp only[sm];by_cases a:k∈U
    ·have mk:k∈V:=lr k (by omega) a;have pm:=List.perm_cons_erase mk;have:ls V (fun e=>f e*y e)=ls (k::V.erase k) (fun e=>f e*y e):=by
      unfold ls;refine List.Perm.foldr_eq' (pm.map _) ?_ 0;intro a _ b _ c;grind
     rw[this,X_,ih (by omega) (V.erase k) (nV.erase k) (fun e he=>by
      rw[nV.mem_erase_iff]at he;have:=hV e he.2;exact⟨by omega,this.2⟩) (fun e he hu=>by
      rw[nV.mem_erase_iff];exact⟨by omega,lr e (by omega) hu⟩)]
     grind
    ·rw[ih (by omega) V nV (fun e he=>by
      have:=hV e he;refine⟨?_,this.2⟩;have:e≠k:=fun q=>a (by rw[<-q];exact this.2);omega) (fun e he hu=>lr e (by omega) hu),y0 k (by omega) a]
     grind
  exact this N.m (by omega) U nd (fun e he=>⟨hU e he,he⟩) (fun e _ he=>he)
 have iQ:∀v,N.dv y v=N.RI U h (-1) v:=by
  intro v;unfold Net.dv Net.RI;rw[<-e6];refine X4 fun e he=>?_;rw[y1 e he];grind
 have other:∀v,v<N.n->v≠N.s->N.dv y v=N.due v:=by
  intro v hv vs;by_cases t:N.Ys U v
  ·rw[iQ v,O v hv vs t];unfold Net.due;rw[Z8 vs]
  ·have vt:v≠N.t:=fun q=>t (by rw[q];exact tt);unfold Net.due;rw[Z8 vt,Z8 vs,iQ v];unfold Net.RI;refine Dq fun e he=>?_;unfold Net.inc;rw[Z8 (fun q=>t ⟨e,he,.inr q⟩),Z8 (fun q=>t ⟨e,he,.inl q⟩)];grind
 refine⟨y0,fun e he=>?_,fun v hv=>?_,hs⟩
 ·have:=ok.O e (hU e he);rw[y1 e he];grind
 ·by_cases vs:v=N.s
  ·subst vs;have p:=Net.parts ok (fun _=>1) y;have p0:sm N.m (fun e=>((1:Rat)-1)*y e)=0:=by
    refine Vz (ZQ (g:=fun _=>0) fun e _=>?_) (Xq _);grind
   rw[p0]at p;have p1:sm N.n (fun v=>1*N.dv y v)=sm N.n (fun v=>(if v=N.s then N.dv y v else 0)+(if v=N.t then N.d else 0)):=ZQ fun v hv=>by
    by_cases a:v=N.s;·rw[Z7 a,Z8 (by have:=ok.st;omega)];grind
    ·rw[Z8 a,other v hv a];unfold Net.due;rw[Z8 a];grind
   rw[p1,TZ,YO ok.hs (fun v=>N.dv y v),YO ok.ht (fun _=>N.d)]at p;unfold Net.due;rw[Z8 ok.st,Z7 rfl];grind
  ·exact other v hv vs
end RR
namespace RR
structure Net.Wm(N:Net)(x h:Nat->Rat)(Ht:Nat->Prop)(lab:Nat->Rat)(Ye:Nat->Nat)(T:Nat)(ks:Nat->Nat)(r:Nat):Prop where
 s:Ht N.s
 RG:∀v,Ht v->v=N.s\/∃e,e<N.m/\x e≠0/\(N.fr e=v\/N.to e=v)
 all:∀e,e<N.m->x e≠0->Ht (N.fr e)/\Ht (N.to e)
 lh:∀v,Ht v->lab v=h v
 t0:∀v,Ht v->Ye v=0
 tT:∀v,Ye v<=T
 emp:∀i,i<=r->ks i<N.m/\x (ks i)=0
 last:Ht (N.to (ks 0))
 gap:lab (N.fr (ks 0))+N.c (ks 0)<h (N.to (ks 0))
 link:∀i,i<r->N.fr (ks i)=N.to (ks (i+1))/\¬Ht (N.to (ks (i+1)))/\lab (N.to (ks (i+1)))=lab (N.fr (ks (i+1)))+N.c (ks (i+1))/\Ye (N.fr (ks (i+1)))<Ye (N.to (ks (i+1)))
 first:Ht (N.fr (ks r))
section
variable{N:Net}{x h lab:Nat->Rat}{Ht:Nat->Prop}{Ye:Nat->Nat}{T:Nat}{ks:Nat->Nat}{r:Nat}
theorem Net.Wm.LZ(D:N.Wm x h Ht lab Ye T ks r):∀i j,1<=i->i<j->j<=r->Ye (N.to (ks j))<Ye (N.to (ks i)):=by
 intro i j hi JX;induction j with
 |zero=>omega
 |succ j ih=>
  intro hj;have step:∀k,1<=k->k<r->Ye (N.to (ks (k+1)))<Ye (N.to (ks k)):=fun k hk hr=>by
   have J:=(D.link k hr).1;obtain⟨k',rfl⟩:∃k',k=k'+1:=⟨k-1,by omega⟩;have h2:=(D.link k' (by omega)).2.2.2;rw[<-J];exact h2
  by_cases e:i=j;·subst e;exact step i hi (by omega)
  ·have:=ih (by omega) (by omega);have:=step j (by omega) (by omega);omega
theorem Net.Wm.inj(D:N.Wm x h Ht lab Ye T ks r){i j:Nat}(hi:i<=r)(hj:j<=r)(e:N.to (ks i)=N.to (ks j)):i=j:=by
 by_cases a:i=0
 ·by_cases b:j=0;·omega
  ·obtain⟨j',rfl⟩:∃j',j=j'+1:=⟨j-1,by omega⟩;subst a;exact absurd D.last (by rw[e];exact(D.link j' (by omega)).2.1)
 ·by_cases b:j=0
  ·obtain⟨i',rfl⟩:∃i',i=i'+1:=⟨i-1,by omega⟩;subst b;exact absurd D.last (by rw[<-e];exact(D.link i' (by omega)).2.1)
  ·by_cases c:i<j;·have:=D.LZ i j (by omega) c hj;rw[e]at this;omega
   ·by_cases c':j<i;·have:=D.LZ j i (by omega) c' hi;rw[e]at this;omega
    ·omega
theorem Net.Wm.KG(ok:N.Ok)(G:N.Good x h)(D:N.Wm x h Ht lab Ye T ks r){U:List Nat}(hU:∀e,e∈U↔e<N.m/\(x e≠0\/∃i,i<=r/\e=ks i)):N.Pq U:=by
 intro g hg gs;have c:=Net.conn ok G.VE.nn G.VE.cons (G.rise ok) (fun e he hx=>hg e ((hU e).mpr ⟨he,.inl hx⟩)) gs;have ht:∀v,Ht v->g v=0:=fun v hv=>by
  rcases D.RG v hv with rfl|⟨e,he,hx,rfl|rfl⟩;·exact gs
  ·exact c e he hx
  ·rw[hg e ((hU e).mpr ⟨he,.inl hx⟩)];exact c e he hx
 have ch:∀k i,i+k=r->g (N.fr (ks i))=0:=by
  intro k;induction k with
  |zero=>
   intro i hi;have:i=r:=by omega
   subst this;exact ht _ D.first
  |succ k ih=>
   intro i hi;rw[(D.link i (by omega)).1,hg _ ((hU _).mpr ⟨(D.emp (i+1) (by omega)).1,.inr ⟨i+1,by omega,Y⟩⟩)];exact ih (i+1) (by omega)
 intro e he;obtain⟨hm,hx|⟨i,hi,rfl⟩⟩:=(hU e).mp he;·exact c e hm hx
 ·exact ch (r-i) i (by omega)
theorem Net.Wm.rise(ok:N.Ok)(G:N.Good x h)(D:N.Wm x h Ht lab Ye T ks r):∃p:Nat->Rat,∀e,e<N.m->(x e≠0\/∃i,i<=r/\e=ks i)->p (N.fr e)<p (N.to e):=by
 have gp:=D.gap;have Tp:(0:Rat)<(T:Rat)+1:=by
  have:(0:Rat)<=(T:Rat):=by
   have:((0:Nat):Rat)<=(T:Rat):=Rat.natCast_le_natCast.mpr (Zw T);simpa using this
  grind
 generalize hg:(h (N.to (ks 0))-lab (N.fr (ks 0))-N.c (ks 0))/((T:Rat)+1)=tJ;have e1:tJ*((T:Rat)+1)=h (N.to (ks 0))-lab (N.fr (ks 0))-N.c (ks 0):=by rw[<-hg];grind
 have ep:0<tJ:=by
  rw[<-hg,Zn];exact V4 (by grind) (Rat.inv_pos.mpr Tp)
 refine⟨fun v=>lab v+tJ*(Ye v:Rat),fun e he k=>?_⟩;show lab (N.fr e)+tJ*(Ye (N.fr e):Rat)<lab (N.to e)+tJ*(Ye (N.to e):Rat);have hc:=ok.hc e he;rcases k with hx|⟨i,hi,rfl⟩
 ·obtain⟨J,h2⟩:=D.all e he hx;rw[D.t0 _ J,D.t0 _ h2,D.lh _ J,D.lh _ h2];have:=G.rise ok e he hx;grind
 ·by_cases i0:i=0
  ·subst i0;rw[D.t0 _ D.last,D.lh _ D.last];have h3:(Ye (N.fr (ks 0)):Rat)<=(T:Rat):=Rat.natCast_le_natCast.mpr (D.tT _);have h4:0<=tJ*((T:Rat)-(Ye (N.fr (ks 0)):Rat)):=Xh (YH ep) (by grind);have:((0:Nat):Rat)=0:=rfl;rw[this];grind
  ·obtain⟨j,rfl⟩:∃j,i=j+1:=⟨i-1,by omega⟩;obtain⟨_,_,h2,h3⟩:=D.link j (by omega);have h4:(Ye (N.fr (ks (j+1))):Rat)<(Ye (N.to (ks (j+1))):Rat):=Rat.natCast_lt_natCast.mpr h3;have h5:0<tJ*((Ye (N.to (ks (j+1))):Rat)-(Ye (N.fr (ks (j+1))):Rat)):=V4 ep (by grind);rw[h2];grind
theorem Net.Wm.pos(ok:N.Ok)(G:N.Good x h)(D:N.Wm x h Ht lab Ye T ks r){U:List Nat}(hU:∀e,e∈U↔e<N.m/\(x e≠0\/∃i,i<=r/\e=ks i)){y hy:Nat->Rat}(B:N.Vo U y hy):∀i,i<=r->0<y (ks i):=by
 have z1:=Net.Q1 ok lab B.cons G.VE.cons;have z2:=Net.Q1 ok hy B.cons G.VE.cons;have k0:=D.emp 0 (by omega);generalize hg:h (N.to (ks 0))-lab (N.fr (ks 0))-N.c (ks 0)=gap;have gp:0<gap:=by have:=D.gap;grind
 have IU:N.IU y x=gap*y (ks 0):=by
  have e1:N.IU y x=sm N.m (fun e=>(hy (N.to e)-hy (N.fr e))*(y e-x e))-sm N.m (fun e=>(lab (N.to e)-lab (N.fr e))*(y e-x e))+sm N.m (fun e=>if e=ks 0 then gap*y e else 0):=by
   unfold Net.IU;rw[<-WS,<-TZ];refine ZQ fun e he=>?_;by_cases a:e∈U
   ·have J:=B.on e a;obtain⟨_,hx|⟨i,hi,rfl⟩⟩:=(hU e).mp a
    ·have h2:=G.on e he hx;obtain⟨q1,q2⟩:=D.all e he hx;have ne:e≠ks 0:=fun q=>hx (by rw[q];exact k0.2);rw[Z8 ne,D.lh _ q1,D.lh _ q2,J,h2];grind
    ·have xe:=(D.emp i hi).2;by_cases i0:i=0
     ·subst i0;rw[Z7 Y,xe,D.lh _ D.last,J];grind
     ·obtain⟨j,rfl⟩:∃j,i=j+1:=⟨i-1,by omega⟩;obtain⟨_,_,h2,_⟩:=D.link j (by omega);have ne:ks (j+1)≠ks 0:=fun q=>by
       have:=D.inj hi (by omega) (show N.to (ks (j+1))=N.to (ks 0) by rw[q]);omega
      rw[Z8 ne,xe,J,h2];grind
   ·have y0:=B.off e he a;have x0:x e=0:=Classical.byContradiction fun q=>a ((hU e).mpr ⟨he,.inl q⟩);rw[x0,y0];split<;>grind
  rw[e1,z1,z2,YO k0.1 (fun e=>gap*y e)];grind
 have fn:=Net.Aa ok y x;have y0:0<y (ks 0):=by
  have ge:0<=y (ks 0):=by
   by_cases q:0<=y (ks 0);·exact q
   ·have:0<gap*-y (ks 0):=V4 gp (by grind);grind
  by_cases q:y (ks 0)=0
  ·exfalso;have same:=Net.GN ok (x:=y) (y:=x) (by rw[IU,q];grind);have cn:=Net.conn ok (g:=fun v=>hy v-h v) G.VE.nn G.VE.cons (G.rise ok) (fun e he hx=>by
    have J:=B.on e ((hU e).mpr ⟨he,.inl hx⟩);have h2:=G.on e he hx;have h3:=same e he;rw[h3]at J;grind) (by have:=B.hs;have:=G.hs;grind)
   have ht:∀v,Ht v->hy v=h v:=fun v hv=>by
    rcases D.RG v hv with rfl|⟨e,he,hx,rfl|rfl⟩;·rw[B.hs,G.hs]
    ·have:=cn e he hx;grind
    ·have:=cn e he hx;have J:=B.on e ((hU e).mpr ⟨he,.inl hx⟩);have h2:=G.on e he hx;have h3:=same e he;rw[h3]at J;grind
   have cl:∀i,i<=r->hy (N.to (ks i))=hy (N.fr (ks i))+N.c (ks i):=fun i hi=>by
    have J:=B.on (ks i) ((hU _).mpr ⟨(D.emp i hi).1,.inr ⟨i,hi,Y⟩⟩);have h3:=same (ks i) (D.emp i hi).1;rw[h3,(D.emp i hi).2]at J;grind
   have ch:∀k i,i+k=r->hy (N.fr (ks i))=lab (N.fr (ks i)):=by
    intro k;induction k with
    |zero=>
     intro i hi;have:i=r:=by omega
     subst this;rw[ht _ D.first,D.lh _ D.first]
    |succ k ih=>
     intro i hi;obtain⟨J,_,h2,_⟩:=D.link i (by omega);rw[J,cl (i+1) (by omega),ih (i+1) (by omega),h2]
   have J:=cl 0 (by omega);rw[ch r 0 (by omega),ht _ D.last]at J;have:=D.gap;grind
  ·grind
 have eqs:∀i,i<r->y (ks (i+1))=y (ks i):=by
  intro i hi;obtain⟨l1,l2,_,_⟩:=D.link i hi;have m1:=D.emp (i+1) (by omega);have m0:=D.emp i (by omega);have c:=B.cons (N.to (ks (i+1))) (ok.Am _ m1.1);have ws:N.to (ks (i+1))≠N.s:=fun q=>l2 (by rw[q];exact D.s);have wt:N.to (ks (i+1))≠N.t:=fun q=>by
   obtain⟨e,he,et,ex⟩:=Net.IS ok G.VE;exact l2 (by rw[q,<-et];exact(D.all e he ex).2)
  unfold Net.due at c;rw[Z8 wt,Z8 ws]at c;have nk:ks (i+1)≠ks i:=fun q=>by
   have:=D.inj (i:=i+1) (j:=i) (by omega) (by omega) (by rw[q]);omega
  have e1:N.dv y (N.to (ks (i+1)))=sm N.m (fun e=>(if e=ks (i+1)then y e else 0)-(if e=ks i then y e else 0)):=by
   unfold Net.dv;refine ZQ fun e he=>?_;unfold Net.inc;by_cases a:e=ks (i+1)
   ·subst a;rw[Z7 Y,Z7 Y,Z8 nk];grind
   ·rw[Z8 a];by_cases b:e=ks i
    ·subst b;have tn:N.to (ks i)≠N.to (ks (i+1)):=fun q=>by
      have:=D.inj (i:=i) (j:=i+1) (by omega) (by omega) q;omega
     rw[Z8 tn,Z7 l1,Z7 rfl];grind
    ·rw[Z8 b];by_cases u:e∈U
     ·obtain⟨_,hx|⟨j,hj,rfl⟩⟩:=(hU e).mp u
      ·obtain⟨q1,q2⟩:=D.all e he hx;rw[Z8 (fun q=>l2 (by rw[<-q];exact q2)),Z8 (fun q=>l2 (by rw[<-q];exact q1))];grind
      ·have t1:N.to (ks j)≠N.to (ks (i+1)):=fun q=>by
        have:=D.inj (i:=j) (j:=i+1) hj (by omega) q;subst this;exact a rfl
       have t2:N.fr (ks j)≠N.to (ks (i+1)):=fun q=>by
        by_cases jr:j=r
        ·subst jr;exact l2 (by rw[<-q];exact D.first)
        ·rw[(D.link j (by omega)).1]at q;have:=D.inj (i:=j+1) (j:=i+1) (by omega) (by omega) q;have:j=i:=by omega
         subst this;exact b rfl
       rw[Z8 t1,Z8 t2];grind
     ·rw[B.off e he u];grind
  rw[e1,WS,YO m1.1 (fun e=>y e),YO m0.1 (fun e=>y e)]at c;grind
 intro i;induction i with
 |zero=>intro _;exact y0
 |succ i ih=>
  intro hi;rw[eqs i (by omega)];exact ih (by omega)
end
theorem Net.NW{N:Net}(ok:N.Ok){x p:Nat->Rat}(F:N.KH x)(hp:∀e,e<N.m->x e≠0->p (N.fr e)<p (N.to e)){R:Nat->Prop}(rs:R N.s)(rg:∀e,e<N.m->x e≠0->R (N.fr e)->R (N.to e)):∀e,e<N.m->x e≠0->R (N.fr e):=by
 classical
 have sums:∀w:Nat->Rat,sm N.m (fun e=>(w (N.to e)-w (N.fr e))*x e)=N.d*(w N.t-w N.s):=by
  intro w;rw[<-Net.parts ok w x];have:sm N.n (fun v=>w v*N.dv x v)=sm N.n (fun v=>(if v=N.t then w v*N.d else 0)-(if v=N.s then w v*N.d else 0)):=ZQ fun v hv=>by
   rw[F.cons v hv];unfold Net.due;have:=ok.st;by_cases a:v=N.t;·rw[Z7 a,Z7 a,Z8 (by omega)];grind
   ·by_cases b:v=N.s;·rw[Z8 a,Z7 b,Z8 a,Z7 b];grind
    ·rw[Z8 a,Z8 b,Z8 a,Z8 b];grind
  rw[this,WS,YO ok.ht (fun v=>w v*N.d),YO ok.hs (fun v=>w v*N.d)];grind
 have s1:=sums (fun v=>if R v then 0 else 1);simp only[Z7 rs]at s1;have nn:∀e,e<N.m->0<=(-1)*(((if R (N.to e)then(0:Rat)else 1)-(if R (N.fr e)then 0 else 1))*x e):=by
  intro e he;by_cases a:x e=0;·rw[a];grind
  ·have J:=rg e he a;have h2:=F.nn e he;by_cases b:R (N.fr e);·rw[Z7 b,Z7 (J b)];grind
   ·rw[Z8 b];by_cases c:R (N.to e);·rw[Z7 c];grind
    ·rw[Z8 c];grind
 have va:sm N.m (fun e=>(-1)*(((if R (N.to e)then(0:Rat)else 1)-(if R (N.fr e)then 0 else 1))*x e))<=0:=by
  rw[WZ,s1];have:0<=N.d*((if R N.t then(0:Rat)else 1)-0):=Xh (YH ok.hd) (by split<;>grind);grind
 have k:=VG nn va;have cn:=Net.conn ok (g:=fun v=>if R v then 0 else 1) F.nn F.cons hp (fun e he hx=>by
  have:=k e he;have:((if R (N.to e)then(0:Rat)else 1)-(if R (N.fr e)then 0 else 1))*x e=0:=by grind
  rcases XY.mp this with q|q
  ·show(if R (N.to e)then(0:Rat)else 1)=if R (N.fr e)then 0 else 1
   grind
  ·exact absurd q hx) (Z7 rs)
 intro e he hx;have:=cn e he hx;by_cases a:R (N.fr e);·exact a
 ·simp only[Z8 a]at this;grind
end RR
namespace RR
theorem RF{a b:Rat}(ha:0<=a)(O:0<b):0<=a/b:=by rw[Zn];exact Xh ha (YH (Rat.inv_pos.mpr O))
theorem z9{a b:Rat}(ha:0<a)(O:0<b):0<a/b:=by rw[Zn];exact V4 ha (Rat.inv_pos.mpr O)
theorem Net.moved{N:Net}(ok:N.Ok){U:List Nat}{x y h:Nat->Rat}(F:N.KH x)(B:N.Vo U y h)(off:∀e,e<N.m->e∉U->x e=0)(Z':∀e,e<N.m->x e=0->0<=y e){k:Nat}(hk:k<N.m)(yk:y k<0)(mn:∀e,e<N.m->y e<0->x k*(-y e)<=x e*(-y k)){x':Nat->Rat}(rM:∀e,e<N.m->x' e=(x e*(-y k)+x k*y e)/(x k-y k)):0<x k/\N.KH x'/\x' k=0/\k∈U/\(∀e,e<N.m->x' e≠0->e∈U)/\N.PV x'<N.PV x:=by
 have xk:0<x k:=by
  have J:=F.nn k hk;have h2:x k≠0:=fun q=>by have:=Z' k hk q;grind
  grind
 have ku:k∈U:=Classical.byContradiction fun q=>by have:=B.off k hk q;grind
 have dp:0<x k-y k:=by grind
 have em:∀e,e<N.m->x' e=mix (x k/(x k-y k)) x y e:=fun e he=>by rw[rM e he];unfold mix;grind
 refine⟨xk,⟨fun e he=>?_,fun v hv=>?_⟩,?_,ku,fun e he R7=>?_,?_⟩
 ·rw[rM e he];refine RF ?_ dp;have J:=F.nn e he;have h2:0<=x e*(-y k):=Xh J (by grind);by_cases a:y e<0;·have:=mn e he a;grind
  ·have:0<=x k*y e:=Xh (YH xk) (by grind);grind
 ·have:=Net.GL (x k/(x k-y k)) F.cons B.cons v hv;rw[<-this];unfold Net.dv;exact ZQ fun e he=>by rw[em e he]
 ·rw[rM k hk];grind
 ·refine Classical.byContradiction fun q=>R7 ?_;rw[rM e he,off e he q,B.off e he q];grind
 ·have:N.PV x'=N.PV (mix (x k/(x k-y k)) x y):=Net.JS em;rw[this];refine Net.xc ok B F.cons off (z9 xk dp) ?_ hk (by grind);have:x k/(x k-y k)*(x k-y k)=x k:=by grind
  have J:0<=(-y k)/(x k-y k):=RF (by grind) dp;have h2:x k/(x k-y k)+(-y k)/(x k-y k)=1:=by grind
  grind
theorem Net.Good.rests{N:Net}(ok:N.Ok){x h lab:Nat->Rat}(G:N.Good x h)(op:∀e,e<N.m->N.op e=true){Lb:Nat->Prop}(ls:Lb N.s)(le:∀e,e<N.m->Lb (N.fr e)->Lb (N.to e)/\lab (N.to e)<=lab (N.fr e)+N.price x e)(eq:∀e,e<N.m->x e≠0->lab (N.to e)=lab (N.fr e)+N.price x e):N.WC x:=by
 have rl:∀v,N.Reach v->Lb v:=fun v r=>by
  induction r with
  |s=>exact ls
  |go e he _ _ ih=>exact (le e he ih).1
 refine⟨⟨G.VE.nn,fun e he ho=>?_,G.VE.cons⟩,lab,fun e he ho r=>(le e he (rl _ r)).2,fun e he hx=>⟨?_,eq e he hx⟩⟩;·rw[op e he]at ho;cases ho
 ·exact Net.NW ok G.VE (G.rise ok) .s (fun e he _ r=>.go e he (op e he) r) e he hx
open Classical in
noncomputable def Net.cnt(N:Net)(f:Rat):Nat:=((RhRoads.subsets (List.range N.m)).filter (fun S=>decide (∃x h,N.Good x h/\(∀e,e<N.m->(e∈S↔x e≠0))/\N.PV x<f))).length
theorem filter_lt{α:Type}{p q:α->Bool}:∀{L:List α},(∀a,a∈L->p a=true->q a=true)->(∃a,a∈L/\q a=true/\p a=false)->(L.filter p).length<(L.filter q).length
 |[],_,h=>by obtain⟨a,ha,_⟩:=h;simp at ha
 |b::L,h,k=>by
  have le:∀{M:List α},(∀a,a∈M->p a=true->q a=true)->(M.filter p).length<=(M.filter q).length:=by
   intro M;induction M with
   |nil=>intro _;simp
   |cons c M ih=>
    intro hM;have:=ih (fun a ha=>hM a (by simp[ha]));rw[YN,YN];by_cases pc:p c=true;·rw[Z7 pc,Z7 (hM c (by simp) pc)];simp;omega
    ·rw[Z8 pc];split<;>simp<;>omega
  have hL:∀a,a∈L->p a=true->q a=true:=fun a ha=>h a (by simp[ha]);rw[YN,YN];obtain⟨a,ha,qa,pa⟩:=k;rcases ZH.mp ha with rfl|ha
  ·rw[Z8 (by rw[pa];decide),Z7 qa];have:=le hL;simp;omega
  ·have:=filter_lt hL ⟨a,ha,qa,pa⟩;by_cases pc:p b=true;·rw[Z7 pc,Z7 (h b (by simp) pc)];simp;omega
   ·rw[Z8 pc];split<;>simp<;>omega
theorem Vg{α:Type}(p:α->Bool):∀(L:List α),L.filter p∈RhRoads.subsets L
 |[]=>by simp[RhRoads.subsets]
 |x::L=>by
  unfold RhRoads.subsets;rw[YN];split;·exact XD _ (UN (Vg p L))
  ·exact Yu _ (Vg p L)
theorem Net.tI{N:Net}(ok:N.Ok){x h:Nat->Rat}(G:N.Good x h){f:Rat}(hf:N.PV x<f):N.cnt (N.PV x)<N.cnt f:=by
 classical
 unfold Net.cnt;refine filter_lt (fun S _ hp=>?_) ⟨(List.range N.m).filter (fun e=>decide (x e≠0)),Vg _ _,?_,?_⟩
 ·simp only[decide_eq_true_eq]at hp⊢;obtain⟨x',h',G',s,l⟩:=hp;exact⟨x',h',G',s,by grind⟩
 ·simp only[decide_eq_true_eq];refine⟨x,h,G,fun e he=>?_,hf⟩;rw[XX,YW];simp[he]
 ·simp only[decide_eq_false_iff_not];rintro⟨x',h',G',s,l⟩;have:=Net.Good.same ok G' G (fun e he=>by
   rw[<-s e he,XX,YW];simp[he])
  rw[Net.JS this]at l;grind
structure Net.Way(N:Net)(Ye:Nat->Nat)(ks:Nat->Nat)(r:Nat):Prop where
 lt:∀i,i<=r->ks i<N.m
 goal:N.to (ks 0)=N.t
 src:N.fr (ks r)=N.s
 link:∀i,i<r->N.fr (ks i)=N.to (ks (i+1))
 rise:∀i,i<=r->Ye (N.fr (ks i))<Ye (N.to (ks i))
theorem Net.Way.LZ{N:Net}{Ye:Nat->Nat}{ks:Nat->Nat}{r:Nat}(W:N.Way Ye ks r):∀i j,i<j->j<=r->Ye (N.to (ks j))<Ye (N.to (ks i)):=by
 intro i j JX;induction j with
 |zero=>omega
 |succ j ih=>
  intro hj;have J:=W.link j (by omega);have h2:=W.rise j (by omega);rw[J]at h2;by_cases e:i=j;·subst e;exact h2
  ·have:=ih (by omega) (by omega);omega
theorem Net.Way.inj{N:Net}{Ye:Nat->Nat}{ks:Nat->Nat}{r:Nat}(W:N.Way Ye ks r){i j:Nat}(hi:i<=r)(hj:j<=r)(e:ks i=ks j):i=j:=by
 by_cases c:i<j;·have:=W.LZ i j c hj;rw[e]at this;omega
 ·by_cases c':j<i;·have:=W.LZ j i c' hi;rw[e]at this;omega
  ·omega
theorem Net.Way.KG{N:Net}{Ye:Nat->Nat}{ks:Nat->Nat}{r:Nat}(W:N.Way Ye ks r){U:List Nat}(hU:∀e,e∈U↔∃i,i<=r/\e=ks i):N.Pq U:=by
 intro g hg gs;have ch:∀k i,i+k=r->g (N.fr (ks i))=0:=by
  intro k;induction k with
  |zero=>
   intro i hi;have:i=r:=by omega
   subst this;rw[W.src];exact gs
  |succ k ih=>
   intro i hi;rw[W.link i (by omega),hg _ ((hU _).mpr ⟨i+1,by omega,Y⟩)];exact ih (i+1) (by omega)
 intro e he;obtain⟨i,hi,rfl⟩:=(hU e).mp he;exact ch (r-i) i (by omega)
theorem Net.Way.VE{N:Net}(ok:N.Ok){Ye:Nat->Nat}{ks:Nat->Nat}{r:Nat}(W:N.Way Ye ks r){x:Nat->Rat}(J:∀i,i<=r->x (ks i)=N.d)(h0:∀e,e<N.m->(∀i,i<=r->e≠ks i)->x e=0):N.KH x:=by
 refine⟨fun e he=>?_,fun v hv=>?_⟩
 ·by_cases a:∃i,i<=r/\e=ks i
  ·obtain⟨i,hi,rfl⟩:=a;rw[J i hi];exact YH ok.hd
  ·rw[h0 e he (fun i hi q=>a ⟨i,hi,q⟩)];grind
 ·have e1:N.dv x v=sm (r+1) (fun i=>N.inc v (ks i)*N.d):=by
   have sw:sm (r+1) (fun i=>N.inc v (ks i)*N.d)=sm (r+1) (fun i=>sm N.m (fun e=>if e=ks i then N.inc v e*N.d else 0)):=ZQ fun i hi=>by rw[YO (W.lt i (by omega)) (fun e=>N.inc v e*N.d)]
   rw[sw,MG];unfold Net.dv;refine ZQ fun e he=>?_;by_cases a:∃i,i<=r/\e=ks i
   ·obtain⟨i,hi,rfl⟩:=a;rw[J i hi];refine(YO (show i<r+1 by omega) (fun _=>N.inc v (ks i)*N.d)).symm.trans (ZQ fun j hj=>?_);by_cases c:j=i;·subst c;rw[Z7 Y,Z7 rfl]
    ·rw[Z8 c,Z8 (fun q=>c (W.inj (by omega) hi q.symm))]
   ·rw[h0 e he (fun i hi q=>a ⟨i,hi,q⟩)];have:sm (r+1) (fun i=>if e=ks i then N.inc v e*N.d else 0)=0:=by
     refine Vz (ZQ (g:=fun _=>0) fun i hi=>?_) (Xq _);exact Z8 fun q=>a ⟨i,by omega,q⟩
    rw[this];grind
  have pW:∀e,e<N.m->N.inc v e=(if N.to e=v then 1 else 0)-(if N.fr e=v then 1 else 0):=fun e he=>by
   unfold Net.inc;have:=ok.ne e he;by_cases a:N.to e=v;·rw[Z7 a,Z7 a,Z8 (by omega)];grind
   ·rw[Z8 a,Z8 a];split<;>grind
  have eZ:∀k,k<=r->sm (k+1) (fun i=>N.inc v (ks i)*N.d)=((if N.t=v then 1 else 0)-(if N.fr (ks k)=v then 1 else 0))*N.d:=by
   intro k;induction k with
   |zero=>
    intro _;simp only[sm];rw[pW _ (W.lt 0 (by omega)),W.goal];grind
   |succ k ih=>
    intro hk;have:=ih (by omega);rw[show sm (k+1+1) (fun i=>N.inc v (ks i)*N.d)=sm (k+1) (fun i=>N.inc v (ks i)*N.d)+N.inc v (ks (k+1))*N.d from rfl,this,pW _ (W.lt (k+1) hk),W.link k (by omega)];grind
  rw[e1,eZ r (by omega),W.src];unfold Net.due;have:=ok.st;by_cases a:v=N.t;·rw[Z7 a.symm,Z8 (by omega),Z7 a];grind
  ·rw[Z8 (fun q=>a q.symm),Z8 a];by_cases b:v=N.s;·rw[Z7 b.symm,Z7 b];grind
   ·rw[Z8 (fun q=>b q.symm),Z8 b];grind
structure Sub(N P:Net)(g:Rat)(nm:Nat->Nat):Prop where
 gp:0<g
 n:P.n=N.n
 s:P.s=N.s
 t:P.t=N.t
 d:P.d=N.d*g
 lt:∀j,j<P.m->nm j<N.m/\N.op (nm j)=true
 inj:∀i j,i<P.m->j<P.m->nm i=nm j->i=j
 all:∀e,e<N.m->N.op e=true->∃j,j<P.m/\nm j=e
 fr:∀j,j<P.m->P.fr j=N.fr (nm j)
 to:∀j,j<P.m->P.to j=N.to (nm j)
 c:∀j,j<P.m->P.c j=N.c (nm j)*g
 b:∀j,j<P.m->P.b j=N.b (nm j)
 op:∀j,j<P.m->P.op j=true
theorem Sub.reach{N P:Net}{g:Rat}{nm:Nat->Nat}(S:Sub N P g nm){v:Nat}:P.Reach v↔N.Reach v:=by
 constructor
 ·intro r;induction r with
  |s=>rw [S.s];exact .s
  |go j hj _ _ ih=>
   rw[S.to j hj];rw[S.fr j hj]at ih;exact .go _ (S.lt j hj).1 (S.lt j hj).2 ih
 ·intro r;induction r with
  |s=>rw [<-S.s];exact .s
  |go e he ho _ ih=>
   obtain⟨j,hj,rfl⟩:=S.all e he ho;rw[<-S.to j hj];rw[<-S.fr j hj]at ih;exact .go j hj (S.op j hj) ih
theorem Sub.rests{N P:Net}{g:Rat}{nm:Nat->Nat}(S:Sub N P g nm){x z:Nat->Rat}(h:P.WC x)(z1:∀j,j<P.m->z (nm j)=x j/g)(z0:∀e,e<N.m->N.op e=false->z e=0):N.WC z:=by
 obtain⟨F,p,px⟩:=h;have gp:=S.gp;have cs:∀e,e<N.m->(∃j,j<P.m/\nm j=e)\/N.op e=false:=fun e he=>by
  cases q:N.op e with
  |true=>exact .inl (S.all e he q)
  |false=>exact .inr rfl
 have xz:∀j,j<P.m->x j=z (nm j)*g:=fun j hj=>by rw[z1 j hj];grind
 refine⟨⟨fun e he=>?_,z0,fun v hv=>?_⟩,fun v=>p v/g,fun e he ho r=>?_,fun e he hz=>?_⟩
 ·rcases cs e he with⟨j,hj,rfl⟩|q;·rw[z1 j hj];exact RF (F.nn j hj) gp
  ·rw[z0 e he q];grind
 ·have e1:N.dv z v*g=P.dv x v:=by
   unfold Net.dv;have sw:sm P.m (fun j=>P.inc v j*x j)=sm P.m (fun j=>sm N.m (fun e=>if e=nm j then N.inc v e*(z e*g)else 0)):=ZQ fun j hj=>by
    rw[YO (S.lt j hj).1 (fun e=>N.inc v e*(z e*g)),xz j hj];unfold Net.inc;rw[S.to j hj,S.fr j hj]
   rw[sw,MG];have:sm N.m (fun e=>N.inc v e*z e)*g=sm N.m (fun e=>g*(N.inc v e*z e)):=by rw[WZ];grind
   rw[this];refine ZQ fun e he=>?_;rcases cs e he with⟨j,hj,rfl⟩|q
   ·have:sm P.m (fun i=>if nm j=nm i then N.inc v (nm j)*(z (nm j)*g)else 0)=sm P.m (fun i=>if i=j then N.inc v (nm j)*(z (nm j)*g)else 0):=ZQ fun i hi=>by
     by_cases a:i=j;·subst a;rw[Z7 Y,Z7 rfl]
     ·rw[Z8 a,Z8 (fun q=>a (S.inj i j hi hj q.symm))]
    rw[this,YO hj (fun _=>N.inc v (nm j)*(z (nm j)*g))];grind
   ·rw[z0 e he q];have:sm P.m (fun i=>if e=nm i then N.inc v e*(0*g)else 0)=0:=by
     refine Vz (ZQ (g:=fun _=>0) fun i hi=>?_) (Xq _);split<;>grind
    rw[this];grind
  have e2:=F.cons v (by rw[S.n];exact hv);rw[<-e1]at e2;have e3:P.due v=N.due v*g:=by
   unfold Net.due;rw[S.t,S.s,S.d];split;·rfl
   ·split<;>grind
  rw[e3]at e2;have gn:g≠0:=by grind
  have:N.dv z v=N.due v*g/g:=by rw[<-e2];grind
  rw[this];grind
 ·obtain⟨j,hj,rfl⟩:=S.all e he ho;have:=px.le j hj (S.op j hj) (S.reach.mpr (by rw[S.fr j hj];exact r));rw[S.to j hj,S.fr j hj]at this;unfold Net.price at this⊢;rw[S.c j hj,S.b j hj,xz j hj]at this;have k:0<=(p (N.fr (nm j))+(N.c (nm j)*g+N.b (nm j)*(z (nm j)*g))-p (N.to (nm j)))/g:=RF (by grind) gp;show p (N.to (nm j))/g<=p (N.fr (nm j))/g+(N.c (nm j)+N.b (nm j)*z (nm j));have:(p (N.fr (nm j))+(N.c (nm j)*g+N.b (nm j)*(z (nm j)*g))-p (N.to (nm j)))/g=p (N.fr (nm j))/g+(N.c (nm j)+N.b (nm j)*z (nm j))-p (N.to (nm j))/g:=by grind
  grind
 ·rcases cs e he with⟨j,hj,rfl⟩|q
  ·have xj:x j≠0:=fun q=>hz (by rw[z1 j hj,q];grind);obtain⟨r,e1⟩:=px.eq j hj xj;rw[S.fr j hj]at r;refine⟨S.reach.mp r,?_⟩;rw[S.to j hj,S.fr j hj]at e1;unfold Net.price at e1⊢;rw[S.c j hj,S.b j hj,xz j hj]at e1;show p (N.to (nm j))/g=p (N.fr (nm j))/g+(N.c (nm j)+N.b (nm j)*z (nm j));rw[e1];grind
  ·exact absurd (z0 e he q) hz
end RR
namespace RR
def X(r:Nat->Rat):(List Nat->Rat)->List Nat->Rat
 |_,[]=>0
 |F,c::cs=>r c*F cs-X r (fun ds=>F (c::ds)) cs
theorem z8(r s:Nat->Rat):∀(cs:List Nat)(F:List Nat->Rat),X (fun c=>r c+s c) F cs=X r F cs+X s F cs
 |[],F=>by simp only[X];grind
 |c::cs,F=>by simp only[X];rw[z8 r s cs];grind
theorem EI(k:Rat)(r:Nat->Rat):∀(cs:List Nat)(F:List Nat->Rat),X (fun c=>k*r c) F cs=k*X r F cs
 |[],F=>by simp only[X];grind
 |c::cs,F=>by simp only[X];rw[EI k r cs];grind
theorem u9(f:Nat->Nat->Rat)(lam:Nat->Rat)(F:List Nat->Rat)(cs:List Nat):∀k:Nat,X (fun c=>sm k (fun t=>lam t*f t c)) F cs=sm k (fun t=>lam t*X (f t) F cs)
 |0=>by
  have:=EI 0 (fun _=>0) cs F;simp only[sm];have e:(fun _:Nat=>(0:Rat))=fun _=>0*0:=by funext;grind
  rw[e,this];grind
 |k+1=>by
  simp only[sm];rw[z8,EI,u9 f lam F cs k]
theorem z7(r:Nat->Rat)(a b:Rat):∀(cs:List Nat)(F G:List Nat->Rat),X r (fun ds=>a*F ds+b*G ds) cs=a*X r F cs+b*X r G cs
 |[],F,G=>by simp only[X];grind
 |c::cs,F,G=>by simp only[X];rw[z7 r a b cs];grind
theorem EH(r s:Nat->Rat):∀(cs:List Nat)(F:List Nat->Rat),X r (X s F) cs=-X s (X r F) cs
 |[],F=>by simp only[X];grind
 |c::cs,F=>by
  have J:X r (X s F) (c::cs)=r c*X s F cs-(s c*X r F cs+(-1)*X r (X s (fun ds=>F (c::ds))) cs):=by
   rw[<-z7];show r c*X s F cs-X r (fun ds=>X s F (c::ds)) cs=_;congr 2;funext ds;simp only[X];grind
  have h2:X s (X r F) (c::cs)=s c*X r F cs-(r c*X s F cs+(-1)*X s (X r (fun ds=>F (c::ds))) cs):=by
   rw[<-z7];show s c*X r F cs-X s (fun ds=>X r F (c::ds)) cs=_;congr 2;funext ds;simp only[X];grind
  rw[J,h2,EH r s cs];grind
theorem w8(r:Nat->Rat)(F:List Nat->Rat)(cs:List Nat):X r (X r F) cs=0:=by
 have:=EH r r cs F;grind
def Wd:List (Nat->Rat)->List Nat->Rat
 |[]=>fun cs=>if cs=[]then 1 else 0
 |r::w=>X r (Wd w)
theorem z6(r:Nat->Rat):∀cs,X r (fun _=>0) cs=0
 |[]=>rfl
 |c::cs=>by simp only[X];rw[z6 r cs];grind
theorem z5{r:Nat->Rat}:∀{w:List (Nat->Rat)},r∈w->∀cs,X r (Wd w) cs=0
 |s::w,h,cs=>by
  rcases ZH.mp h with rfl|h;·exact w8 _ _ _
  ·show X r (X s (Wd w)) cs=0;rw[EH];have:X r (Wd w)=fun _=>0:=funext fun ds=>z5 h ds;rw[this,z6];grind
def Qj(x:Rat):Prop:=∃z:Int,x=(z:Rat)
theorem Qj.mul{x y:Rat}(hx:Qj x)(hy:Qj y):Qj (x*y):=by
 obtain⟨a,rfl⟩:=hx;obtain⟨b,rfl⟩:=hy;exact⟨a*b,by rw[Zq]⟩
theorem Qj.sub{x y:Rat}(hx:Qj x)(hy:Qj y):Qj (x-y):=by
 obtain⟨a,rfl⟩:=hx;obtain⟨b,rfl⟩:=hy;exact⟨a-b,by rw[UU]⟩
theorem Qj.neg{x:Rat}(hx:Qj x):Qj (-x):=by
 obtain⟨a,rfl⟩:=hx;exact⟨-a,by rw[Rat.intCast_neg]⟩
theorem z4{r:Nat->Rat}(hr:∀c,Qj (r c)):∀(cs:List Nat)(F:List Nat->Rat),(∀ds,Qj (F ds))->Qj (X r F cs)
 |[],F,_=>⟨0,Y⟩
 |c::cs,F,h=>((hr c).mul (h cs)).sub (z4 hr cs _ (fun ds=>h (c::ds)))
theorem EG:∀{w:List (Nat->Rat)},(∀r,r∈w->∀c,Qj (r c))->∀cs,Qj (Wd w cs)
 |[],_,cs=>by
  unfold Wd;split;·exact⟨1,Y⟩
  ·exact⟨0,Y⟩
 |r::w,h,cs=>z4 (h r (by simp)) cs _ (EG fun s hs=>h s (by simp[hs]))
def sg:Nat->Rat
 |0=>1
 |k+1=>-sg k
theorem zZ:∀k,sg k*sg k=1
 |0=>by simp only[sg];grind
 |k+1=>by simp only[sg];have:=zZ k;grind
theorem zY:∀k,Qj (sg k)
 |0=>⟨1,Y⟩
 |k+1=>(zY k).neg
theorem GK{v:Nat->Rat}{j:Nat}:∀(cs:List Nat)(F:List Nat->Rat),(∀c,c∈cs->v c=0)->X v F (cs++[j])=sg cs.length*(v j*F cs)
 |[],F,_=>by
  show v j*F []-0=_;simp only[sg,List.length_nil];grind
 |c::cs,F,h=>by
  show v c*F (cs++[j])-X v (fun ds=>F (c::ds)) (cs++[j])=_;rw[h c (by simp),GK cs _ (fun d hd=>h d (by simp[hd]))];simp only[sg,Zj];grind
def W3(A:Nat->Nat->Rat):Nat->List (Nat->Rat)
 |0=>[]
 |k+1=>A k::W3 A k
theorem QJ{A:Nat->Nat->Rat}:∀{k t:Nat},t<k->A t∈W3 A k
 |k+1,t,h=>by
  by_cases e:t=k;·subst e;exact YM ..
  ·exact Zh _ (QJ (by omega))
theorem TX{A:Nat->Nat->Rat}(h:∀i c,Qj (A i c)):∀{k:Nat},∀r,r∈W3 A k->∀c,Qj (r c)
 |0,r,hr,_=>by simp[W3]at hr
 |k+1,r,hr,c=>by
  rcases ZH.mp hr with rfl|hr;·exact h k c
  ·exact TX h r hr c
def minor(A:Nat->Nat->Rat)(k:Nat):Rat:=Wd (W3 A k) (List.range k)
theorem JR(A:Nat->Nat->Rat){k j:Nat}{u v lam:Nat->Rat}(hv:∀c,v c=u c+sm k (fun t=>lam t*A t c))(z:∀c,c<k->v c=0):X u (Wd (W3 A k)) (List.range k++[j])=sg k*(v j*minor A k):=by
 have e1:X v (Wd (W3 A k)) (List.range k++[j])=X u (Wd (W3 A k)) (List.range k++[j]):=by
  have:v=fun c=>u c+(fun c=>sm k (fun t=>lam t*A t c)) c:=funext hv;rw[this,z8,u9];have:sm k (fun t=>lam t*X (A t) (Wd (W3 A k)) (List.range k++[j]))=0:=by
   refine Vz (ZQ (g:=fun _=>0) fun t ht=>?_) (Xq k);rw[z5 (QJ ht)];grind
  rw[this];grind
 rw[<-e1,GK _ _ (fun c hc=>z c (YW.mp hc)),Zd];rfl
theorem B4{A:Nat->Nat->Rat}(hA:∀i c,Qj (A i c))(k:Nat):Qj (minor A k):=EG (TX hA) _
theorem QI{A:Nat->Nat->Rat}(hA:∀i c,Qj (A i c)){k j:Nat}{u v lam:Nat->Rat}(hu:∀c,Qj (u c))(hv:∀c,v c=u c+sm k (fun t=>lam t*A t c))(z:∀c,c<k->v c=0):Qj (v j*minor A k):=by
 have:=JR A (j:=j) hv z;have h2:v j*minor A k=sg k*X u (Wd (W3 A k)) (List.range k++[j]):=by
  rw[this];have:=zZ k;grind
 rw[h2];exact(zY k).mul (z4 hu _ _ (EG (TX hA)))
theorem EF(A:Nat->Nat->Rat){k:Nat}{v lam:Nat->Rat}(hv:∀c,v c=A k c+sm k (fun t=>lam t*A t c))(z:∀c,c<k->v c=0):minor A (k+1)=sg k*(v k*minor A k):=by
 rw[<-JR A (j:=k) hv z];unfold minor;rw[WU];rfl
def ent(rows:List (List Int))(i j:Nat):Int:=(rows.getD i []).getD j 0
def VD(p:Nat)(bf:Int)(pr row:List Int):List Int:=List.zipWith (fun a b=>(pr.getD p 0*a-row.getD p 0*b).fdiv bf) row pr
def Vx(p:Nat)(bf:Int)(rows:List (List Int)):List (List Int):=rows.zipIdx.map (fun x=>if x.2=p then rows.getD p []else VD p bf (rows.getD p []) x.1)
def Yl:Nat->List (List Int)->List (List Int)×Int
 |0,rows=>(rows,1)
 |k+1,rows=>(Vx k (Yl k rows).2 (Yl k rows).1,ent (Yl k rows).1 k k)
structure RE(n w:Nat)(rows:List (List Int)):Prop where
 len:rows.length=n
 row:∀r,r∈rows->r.length=w
theorem RE.at{n w:Nat}{rows:List (List Int)}(R:RE n w rows){i:Nat}(hi:i<n):(rows.getD i []).length=w:=R.row _ (getD_mem _ _ _ (by rw[R.len];exact hi))
theorem Pl{α:Type}(f:Int->Int->α){p q:List Int}{j w:Nat}(hp:p.length=w)(hq:q.length=w)(hj:j<w)(d:α):(List.zipWith f p q).getD j d=f (p.getD j 0) (q.getD j 0):=by
 rw[ZX,List.getElem?_zipWith,ZX,ZX,ZU (by omega),ZU (by omega)];rfl
theorem IQ{n w p:Nat}{bf:Int}{rows:List (List Int)}(R:RE n w rows)(hp:p<n):RE n w (Vx p bf rows):=by
 refine⟨by unfold Vx;rw[Z3,List.length_zipIdx,R.len],fun r hr=>?_⟩;unfold Vx at hr;rw[Yi rows [],Yv]at hr;obtain⟨i,hi,rfl⟩:=Zc.mp hr;have hi:=YW.mp hi;rw[R.len]at hi;show(if i=p then rows.getD p []else VD p bf (rows.getD p []) (rows.getD i [])).length=w;split;·exact R.at hp
 ·unfold VD;rw[List.length_zipWith,R.at hi,R.at hp];omega
theorem NV{n w p:Nat}{bf:Int}{rows:List (List Int)}(R:RE n w rows)(hp:p<n){i j:Nat}(hi:i<n)(hj:j<w):ent (Vx p bf rows) i j=if i=p then ent rows p j else(ent rows p p*ent rows i j-ent rows i p*ent rows p j).fdiv bf:=by
 unfold ent Vx;rw[Yi rows [],Yv,W_,R.len,Z7 hi];show(if i=p then rows.getD p []else VD p bf (rows.getD p []) (rows.getD i [])).getD j 0=_;split;·rfl
 ·unfold VD;rw[Pl _ (R.at hi) (R.at hp) hj]
theorem EE{a b c:Int}(O:0<b)(h:(a:Rat)=(b:Rat)*(c:Rat)):a.fdiv b=c:=by
 have:a=b*c:=by
  have:((a:Int):Rat)=((b*c:Int):Rat):=by rw[h,Zq]
  exact Rat.intCast_inj.mp this
 rw[this,Int.mul_fdiv_cancel_left _ (by omega)]
structure yf(n:Nat)(A:Nat->Nat->Rat)(k:Nat)(rows:List (List Int))(bf:Int)(V lam:Nat->Nat->Rat):Prop where
 IP:RE n (n+1) rows
 pos:0<bf
 ent:∀i,i<n->∀j,j<n+1->(ent rows i j:Rat)=(bf:Rat)*V i j
 un:∀i,i<n->∀c,c<k->V i c=if c=i then 1 else 0
 comb:∀i,i<n->∀c,V i c=(if i<k then 0 else A i c)+sm k (fun t=>lam i t*A t c)
 sol:∀y:Nat->Rat,(∀i,i<n->sm (n+1) (fun j=>V i j*y j)=0)->∀i,i<n->sm (n+1) (fun j=>A i j*y j)=0
 mi:(bf:Rat)=minor A k\/(bf:Rat)=-minor A k
def SX(n:Nat)(A:Nat->Nat->Rat):Prop:=∀x:Nat->Rat,(∃i,i<n/\x i≠0)->0<sm n (fun i=>x i*sm n (fun j=>A i j*x j))
theorem yf.int{n k:Nat}{A:Nat->Nat->Rat}{rows:List (List Int)}{bf:Int}{V lam:Nat->Nat->Rat}(hA:∀i c,Qj (A i c))(hk:k<=n){V' QO:Nat->Nat->Rat}{b':Rat}(un:∀i,i<n->∀c,c<k->V' i c=if c=i then 1 else 0)(comb:∀i,i<n->∀c,V' i c=(if i<k then 0 else A i c)+sm k (fun t=>QO i t*A t c))(mi:b'=minor A k\/b'=-minor A k):∀i,i<n->∀j,Qj (b'*V' i j):=by
 have O:∀x:Rat,Qj (x*minor A k)->Qj (b'*x):=fun x hx=>by
  rcases mi with e|e
  ·have:b'*x=x*minor A k:=by rw[e];grind
   rw[this];exact hx
  ·have:b'*x=-(x*minor A k):=by rw[e];grind
   rw[this];exact hx.neg
 intro i hi j;by_cases ik:i<k
 ·
  have hu:∀c:Nat,Qj (if c=i then(1:Rat)else 0):=fun c=>by
   split;·exact⟨1,Y⟩
   ·exact⟨0,Y⟩
  have J:=QI hA (k:=k) (j:=j) (u:=fun c=>if c=i then 1 else 0) (v:=fun c=>(if c=i then 1 else 0)-V' i c) (lam:=fun t=>-QO i t) hu (fun c=>by
   rw[comb i hi c,Z7 ik];have:sm k (fun t=>-QO i t*A t c)=(-1)*sm k (fun t=>QO i t*A t c):=by rw[<-WZ];exact ZQ fun t _=>by grind
   rw[this];grind) (fun c hc=>by rw[un i hi c hc];grind)
  have h2:Qj ((if j=i then(1:Rat)else 0)*minor A k):=(hu j).mul (B4 hA k);refine O _ ?_;have:V' i j*minor A k=(if j=i then(1:Rat)else 0)*minor A k-((if j=i then 1 else 0)-V' i j)*minor A k:=by grind
  rw[this];exact h2.sub J
 ·have J:=QI hA (k:=k) (j:=j) (u:=A i) (v:=V' i) (lam:=QO i) (hA i) (fun c=>by rw[comb i hi c,Z8 ik]) (fun c hc=>by rw[un i hi c hc,Z8 (by omega)]);exact O _ J
theorem yf.step{n k:Nat}{A:Nat->Nat->Rat}{rows:List (List Int)}{bf:Int}{V lam:Nat->Nat->Rat}(hA:∀i c,Qj (A i c))(PD:SX n A)(hk:k<n)(B:yf n A k rows bf V lam):∃V' QO,yf n A (k+1) (Vx k bf rows) (RR.ent rows k k) V' QO:=by
 have eY:0<V k k:=by
  have:=PD (fun i=>if i<k then lam k i else if i=k then 1 else 0) ⟨k,hk,by
   show(if k<k then lam k k else if k=k then(1:Rat)else 0)≠0;rw[Z8 (by omega),Z7 rfl];grind⟩
  have e:sm n (fun i=>(if i<k then lam k i else if i=k then 1 else 0)*sm n (fun j=>A i j*(if j<k then lam k j else if j=k then 1 else 0)))=V k k:=by
   have s1:sm n (fun i=>(if i<k then lam k i else if i=k then 1 else 0)*sm n (fun j=>A i j*(if j<k then lam k j else if j=k then 1 else 0)))
    =sm n (fun j=>V k j*(if j<k then lam k j else if j=k then 1 else 0)):=by
    have:∀i,i<n->(if i<k then lam k i else if i=k then 1 else 0)*sm n (fun j=>A i j*(if j<k then lam k j else if j=k then 1 else 0))=sm n (fun j=>(if i<k then lam k i else if i=k then 1 else 0)*(A i j*(if j<k then lam k j else if j=k then 1 else 0))):=fun i _=>by rw[WZ]
    rw[ZQ this,MG];refine ZQ fun j hj=>?_;have:sm n (fun i=>(if i<k then lam k i else if i=k then 1 else 0)*(A i j*(if j<k then lam k j else if j=k then 1 else 0)))=(if j<k then lam k j else if j=k then 1 else 0)*sm n (fun i=>(if i<k then lam k i else if i=k then 1 else 0)*A i j):=by rw[<-WZ];exact ZQ fun i _=>by grind
    rw[this];have:sm n (fun i=>(if i<k then lam k i else if i=k then 1 else 0)*A i j)=V k j:=by
     rw[B.comb k hk j,Z8 (by omega)];obtain⟨m,rfl⟩:∃m,n=k+(1+m):=⟨n-k-1,by omega⟩;rw[RJ,RJ];have f1:sm k (fun i=>(if i<k then lam k i else if i=k then 1 else 0)*A i j)=sm k (fun t=>lam k t*A t j):=ZQ fun i hi=>by rw[Z7 hi]
     have f2:sm m (fun i=>(if k+(1+i)<k then lam k (k+(1+i))else if k+(1+i)=k then 1 else 0)*A (k+(1+i)) j)=0:=by
      refine Vz (ZQ (g:=fun _=>0) fun i hi=>?_) (Xq m);rw[Z8 (by omega),Z8 (by omega)];grind
     rw[f1,f2];simp only[sm];rw[Z8 (by omega),Z7 (by omega)];have:k+0=k:=rfl;rw[this];grind
    rw[this];grind
   rw[s1];have:sm n (fun j=>V k j*(if j<k then lam k j else if j=k then 1 else 0))=sm n (fun j=>if j=k then V k j else 0):=ZQ fun j hj=>by
    by_cases a:j<k;·rw[B.un k hk j a,Z8 (show¬j=k by omega),Z8 (show¬j=k by omega)];grind
    ·rw[Z8 a];split<;>grind
   rw[this,YO hk]
  rw[e]at this;exact this
 have bp:(0:Rat)<(bf:Rat):=by
  have:((0:Int):Rat)<(bf:Rat):=Q8.mpr B.pos;simpa using this
 have nY:=B.ent k hk k (by omega);have lq:0<RR.ent rows k k:=by
  have:((0:Int):Rat)<(RR.ent rows k k:Rat):=by rw[nY];exact V4 bp eY
  exact Q8.mp this
 let V':Nat->Nat->Rat:=fun i c=>if i=k then V k c/V k k else V i c-V i k*(V k c/V k k)
 let QO:Nat->Nat->Rat:=fun i t=>if i=k then(if t=k then 1/V k k else lam k t/V k k)else(if t=k then-(V i k/V k k)else lam i t-V i k/V k k*lam k t)
 have iP:∀i,i<n->∀c,c<k+1->V' i c=if c=i then 1 else 0:=by
  intro i hi c hc;show(if i=k then V k c/V k k else V i c-V i k*(V k c/V k k))=_;by_cases ik:i=k
  ·subst ik;rw[Z7 rfl];by_cases ck:c=i;·subst ck;rw[Z7 rfl];grind
   ·rw[B.un i hi c (by omega),Z8 ck];grind
  ·rw[Z8 ik];by_cases ck:c=k
   ·subst ck;rw[Z8 (fun q=>ik q.symm)];grind
   ·rw[B.un k hk c (by omega),Z8 ck,B.un i hi c (by omega)];grind
 have u7:∀i,i<n->∀c,V' i c=(if i<k+1 then 0 else A i c)+sm (k+1) (fun t=>QO i t*A t c):=by
  intro i hi c;have lg:=B.comb k hk c;rw[Z8 (by omega)]at lg;show(if i=k then V k c/V k k else V i c-V i k*(V k c/V k k))=_+(sm k (fun t=>QO i t*A t c)+QO i k*A k c);by_cases ik:i=k
  ·subst ik;rw[Z7 Y,Z7 (by omega)];have e1:sm i (fun t=>QO i t*A t c)=(1/V i i)*sm i (fun t=>lam i t*A t c):=by
    rw[<-WZ];refine ZQ fun t ht=>?_;show(if i=i then(if t=i then 1/V i i else lam i t/V i i)else _)*A t c=_;rw[Z7 Y,Z8 (by omega)];grind
   have e2:QO i i=1/V i i:=by
    show(if i=i then(if i=i then 1/V i i else lam i i/V i i)else _)=_;rw[Z7 Y,Z7 rfl]
   rw[e1,e2,lg];grind
  ·rw[Z8 ik];have e1:sm k (fun t=>QO i t*A t c)=sm k (fun t=>lam i t*A t c)-(V i k/V k k)*sm k (fun t=>lam k t*A t c):=by
    rw[<-WZ,<-WS];refine ZQ fun t ht=>?_;show(if i=k then _ else(if t=k then-(V i k/V k k)else lam i t-V i k/V k k*lam k t))*A t c=_;rw[Z8 ik,Z8 (by omega)];grind
   have e2:QO i k=-(V i k/V k k):=by
    show(if i=k then _ else(if k=k then-(V i k/V k k)else _))=_;rw[Z8 ik,Z7 rfl]
   have eX:=B.comb i hi c;rw[e1,e2,eX,lg];by_cases il:i<k;·rw[Z7 il,Z7 (by omega)];grind
   ·rw[Z8 il,Z8 (by omega)];grind
 have iO:(RR.ent rows k k:Rat)=minor A (k+1)\/(RR.ent rows k k:Rat)=-minor A (k+1):=by
  have ms:=EF A (k:=k) (v:=V k) (lam:=lam k) (fun c=>by have:=B.comb k hk c;rw[Z8 (by omega)]at this;exact this) (fun c hc=>by rw[B.un k hk c hc,Z8 (by omega)]);have sq:=zZ k;have s1:sg k=1\/sg k=-1:=by
   have:(sg k-1)*(sg k+1)=0:=by grind
   rcases XY.mp this with q|q;·left;grind
   ·right;grind
  rw[nY];rcases B.mi with e|e<;>rcases s1 with s|s<;>rw[ms,s,e];·left;grind
  ·right;grind
  ·right;grind
  ·left;grind
 have pV:=yf.int (rows:=rows) (bf:=bf) (V:=V) (lam:=lam) hA (show k+1<=n by omega) iP u7 iO;refine⟨V',QO,IQ B.IP hk,lq,fun i hi j hj=>?_,iP,u7,fun y hy=>?_,iO⟩
 ·rw[NV B.IP hk hi hj];by_cases ik:i=k
  ·subst ik;rw[Z7 Y,B.ent i hi j hj,nY];show _=(bf:Rat)*V i i*(if i=i then V i j/V i i else _);rw[Z7 rfl];grind
  ·rw[Z8 ik];obtain⟨z,hz⟩:=pV i hi j;have:(RR.ent rows k k*RR.ent rows i j-RR.ent rows i k*RR.ent rows k j).fdiv bf=z:=by
    refine EE B.pos ?_;rw[<-hz,UU,Zq,Zq,nY,B.ent i hi j hj,B.ent i hi k (by omega),B.ent k hk j hj];show _=(bf:Rat)*((bf:Rat)*V k k*(if i=k then _ else V i j-V i k*(V k j/V k k)));rw[Z8 ik];grind
   rw[this,hz]
 ·refine B.sol y fun i hi=>?_;have G_:=hy k hk;have ek:sm (n+1) (fun j=>V k j*y j)=0:=by
   have:sm (n+1) (fun j=>V k j*y j)=V k k*sm (n+1) (fun j=>V' k j*y j):=by
    rw[<-WZ];refine ZQ fun j _=>?_;show _=V k k*((if k=k then V k j/V k k else _)*y j);rw[Z7 rfl];grind
   rw[this,G_];grind
  by_cases ik:i=k;·subst ik;exact ek
  ·have:sm (n+1) (fun j=>V i j*y j)=sm (n+1) (fun j=>V' i j*y j)+V i k/V k k*sm (n+1) (fun j=>V k j*y j):=by
    rw[<-WZ,<-TZ];refine ZQ fun j _=>?_;show _=(if i=k then _ else V i j-V i k*(V k j/V k k))*y j+_;rw[Z8 ik];grind
   rw[this,hy i hi,ek];grind
theorem yf.run{n:Nat}{rows:List (List Int)}(R:RE n (n+1) rows)(PD:SX n (fun i j=>(RR.ent rows i j:Rat))):∀k,k<=n->∃V lam,yf n (fun i j=>(RR.ent rows i j:Rat)) k (Yl k rows).1 (Yl k rows).2 V lam
 |0,_=>by
  refine⟨fun i j=>(RR.ent rows i j:Rat),fun _ _=>0,R,by show(0:Int)<1;omega,fun i hi j hj=>?_,fun i _ c hc=>by omega,fun i _ c=>?_,fun y hy=>hy,?_⟩
  ·show(RR.ent rows i j:Rat)=((1:Int):Rat)*(RR.ent rows i j:Rat);have:((1:Int):Rat)=1:=rfl;rw[this];grind
  ·rw[Z8 (by omega)];simp only[sm];grind
  ·left;rfl
 |k+1,hk=>by
  obtain⟨V,lam,B⟩:=yf.run R PD k (by omega);exact B.step (fun i c=>⟨_,Y⟩) PD (by omega)
theorem LY{n:Nat}{rows:List (List Int)}(hn:0<n)(R:RE n (n+1) rows)(PD:SX n (fun i j=>(RR.ent rows i j:Rat))):∃h:Nat->Rat,RE n (n+1) (Yl n rows).1/\0<ent (Yl n rows).1 0 0/\(∀i,i<n->(ent (Yl n rows).1 i n:Rat)=(ent (Yl n rows).1 0 0:Rat)*h i)/\∀i,i<n->sm n (fun j=>(ent rows i j:Rat)*h j)=(ent rows i n:Rat):=by
 obtain⟨V,lam,B⟩:=yf.run R PD n (ZM n);have e0:=B.ent 0 hn 0 (by omega);rw[B.un 0 hn 0 hn,Z7 rfl]at e0;have iN:ent (Yl n rows).1 0 0=(Yl n rows).2:=by
  apply Rat.intCast_inj.mp;rw[e0];grind
 refine⟨fun i=>V i n,B.IP,by rw[iN];exact B.pos,fun i hi=>by rw[iN];exact B.ent i hi n (by omega),fun i hi=>?_⟩;have key:=B.sol (fun j=>if j=n then-1 else V j n) (fun i hi=>by
  simp only[sm];rw[Z7 trivial];have:sm n (fun j=>V i j*(if j=n then-1 else V j n))=sm n (fun j=>if j=i then V j n else 0):=ZQ fun j hj=>by
   rw[Z8 (by omega),B.un i hi j hj];split<;>grind
  rw[this,YO hi (fun j=>V j n)];grind) i hi
 simp only[sm]at key;rw[Z7 trivial]at key;have:sm n (fun j=>(ent rows i j:Rat)*(if j=n then-1 else V j n))=sm n (fun j=>(ent rows i j:Rat)*V j n):=ZQ fun j hj=>by rw[Z8 (by omega)]
 rw[this]at key;grind
end RR
namespace RR
open Classical in
noncomputable def Net.rowsOf(N:Net)(U:List Nat)(S:Rat)(v u:Nat):Rat:=
 if v=N.s\/¬N.Ys U v then(if u=v then 1 else 0)
 else if u=N.s then 0
 else if u=N.n then S*(if v=N.t then N.d else 0)+ls U (fun e=>S/N.b e*N.inc v e*N.c e)
 else ls U (fun e=>S/N.b e*N.inc v e*N.inc u e)
theorem Net.zX{N:Net}{U:List Nat}{u:Nat}(h:¬N.Ys U u){e:Nat}(he:e∈U):N.inc u e=0:=by
 unfold Net.inc;rw[Z8 (fun q=>h ⟨e,he,.inr q⟩),Z8 (fun q=>h ⟨e,he,.inl q⟩)]
theorem Net.IM{N:Net}(ok:N.Ok){U:List Nat}(hU:∀e,e∈U->e<N.m)(f y:Nat->Rat):sm N.n (fun u=>ls U (fun e=>f e*N.inc u e)*y u)=ls U (fun e=>f e*(y (N.to e)-y (N.fr e))):=by
 have:sm N.n (fun u=>ls U (fun e=>f e*N.inc u e)*y u)=sm N.n (fun u=>ls U (fun e=>f e*(y u*N.inc u e))):=ZQ fun u _=>by
  have:ls U (fun e=>f e*N.inc u e)*y u=y u*ls U (fun e=>f e*N.inc u e):=by grind
  rw[this,<-Qk];exact X4 fun e _=>by grind
 rw[this,<-vb];refine X4 fun e he=>?_;rw[WZ,Net.Dl ok (hU e he) y]
theorem Net.Dj{N:Net}(ok:N.Ok){U:List Nat}(hU:∀e,e∈U->e<N.m)(T:N.Pq U){S:Rat}(hS:0<S):SX N.n (N.rowsOf U S):=by
 classical
 intro x hx;let z:Nat->Rat:=fun v=>if v=N.s\/¬N.Ys U v then 0 else x v
 have z0:∀v,(v=N.s\/¬N.Ys U v)->z v=0:=fun v h=>Z7 h;have z1:∀v,¬(v=N.s\/¬N.Ys U v)->z v=x v:=fun v h=>Z8 h;have row:∀v,v<N.n->x v*sm N.n (fun u=>N.rowsOf U S v u*x u)=(x v-z v)*(x v-z v)+z v*ls U (fun e=>S/N.b e*N.inc v e*(z (N.to e)-z (N.fr e))):=by
  intro v hv;by_cases g:v=N.s\/¬N.Ys U v
  ·have:sm N.n (fun u=>N.rowsOf U S v u*x u)=sm N.n (fun u=>if u=v then x u else 0):=ZQ fun u _=>by
    unfold Net.rowsOf;rw[Z7 g];split<;>grind
   rw[this,YO hv,z0 v g];grind
  ·have:sm N.n (fun u=>N.rowsOf U S v u*x u)=sm N.n (fun u=>ls U (fun e=>S/N.b e*N.inc v e*N.inc u e)*z u):=ZQ fun u hu=>by
    unfold Net.rowsOf;rw[Z8 g];by_cases us:u=N.s;·rw[Z7 us,z0 u (.inl us)];grind
    ·rw[Z8 us,Z8 (by omega)];by_cases ut:N.Ys U u;·rw[z1 u (fun q=>by rcases q with q|q;exact us q;exact q ut)]
     ·have:ls U (fun e=>S/N.b e*N.inc v e*N.inc u e)=0:=Dq fun e he=>by rw[Net.zX ut he];grind
      rw[this];grind
   rw[this,Net.IM ok hU (fun e=>S/N.b e*N.inc v e) z,z1 v g];grind
 rw[ZQ row,TZ];have q1:sm N.n (fun v=>z v*ls U (fun e=>S/N.b e*N.inc v e*(z (N.to e)-z (N.fr e))))=ls U (fun e=>S/N.b e*((z (N.to e)-z (N.fr e))*(z (N.to e)-z (N.fr e)))):=by
  have:∀v,v<N.n->z v*ls U (fun e=>S/N.b e*N.inc v e*(z (N.to e)-z (N.fr e)))=ls U (fun e=>(S/N.b e*(z (N.to e)-z (N.fr e)))*N.inc v e)*z v:=fun v _=>by
   have:ls U (fun e=>S/N.b e*N.inc v e*(z (N.to e)-z (N.fr e)))=ls U (fun e=>(S/N.b e*(z (N.to e)-z (N.fr e)))*N.inc v e):=X4 fun e _=>by grind
   rw[this];grind
  rw[ZQ this,Net.IM ok hU];exact X4 fun e _=>by grind
 have n1:∀v,v<N.n->0<=(x v-z v)*(x v-z v):=fun v _=>sq_nonneg _;have n2:∀e,e∈U->0<=S/N.b e*((z (N.to e)-z (N.fr e))*(z (N.to e)-z (N.fr e))):=fun e he=>Xh (RF (YH hS) (ok.O e (hU e he))) (sq_nonneg _);have p1:=Q4 n1;have p2:=J1 n2;rw[q1];by_cases pos:0<sm N.n (fun v=>(x v-z v)*(x v-z v))+ls U (fun e=>S/N.b e*((z (N.to e)-z (N.fr e))*(z (N.to e)-z (N.fr e))));·exact pos
 ·exfalso;have a1:=VG n1 (by grind);have a2:=L' n2 (by grind);have eqs:∀e,e∈U->z (N.to e)=z (N.fr e):=fun e he=>by
   have O:=z9 hS (ok.O e (hU e he));rcases XY.mp (a2 e he)with q|q;·grind
   ·have:=MF q;grind
  have fin:=T z eqs (z0 _ (.inl Y));obtain⟨i,hi,ne⟩:=hx;have xz:x i=z i:=by have:=MF (a1 i hi);grind
  have:z i=0:=by
   by_cases t:N.Ys U i
   ·obtain⟨e,he,rfl|rfl⟩:=t;·exact fin e he
    ·rw[eqs e he];exact fin e he
   ·exact z0 i (.inr t)
  exact ne (by rw[xz,this])
theorem Net.zW{N:Net}(ok:N.Ok){U:List Nat}(hU:∀e,e∈U->e<N.m){S:Rat}(hS:0<S){h:Nat->Rat}(hh:∀v,v<N.n->sm N.n (fun u=>N.rowsOf U S v u*h u)=N.rowsOf U S v N.n):(∀v,v<N.n->(v=N.s\/¬N.Ys U v)->h v=0)/\∀v,v<N.n->v≠N.s->N.Ys U v->N.RI U h (-1) v=if v=N.t then N.d else 0:=by
 have g0:∀v,v<N.n->(v=N.s\/¬N.Ys U v)->h v=0:=fun v hv g=>by
  have e:=hh v hv;have:sm N.n (fun u=>N.rowsOf U S v u*h u)=sm N.n (fun u=>if u=v then h u else 0):=ZQ fun u _=>by
   unfold Net.rowsOf;rw[Z7 g];split<;>grind
  rw[this,YO hv]at e;rw[e];unfold Net.rowsOf;rw[Z7 g,Z8 (by omega)]
 refine⟨g0,fun v hv vs vt=>?_⟩;have g:¬(v=N.s\/¬N.Ys U v):=fun q=>by rcases q with q|q;exact vs q;exact q vt
 have e:=hh v hv;have e1:sm N.n (fun u=>N.rowsOf U S v u*h u)=sm N.n (fun u=>ls U (fun e=>S/N.b e*N.inc v e*N.inc u e)*h u):=ZQ fun u hu=>by
  unfold Net.rowsOf;rw[Z8 g];by_cases us:u=N.s;·rw[Z7 us,g0 u hu (.inl us)];grind
  ·rw[Z8 us,Z8 (by omega)]
 rw[e1,Net.IM ok hU (fun e=>S/N.b e*N.inc v e) h]at e;have e2:N.rowsOf U S v N.n=S*(if v=N.t then N.d else 0)+ls U (fun e=>S/N.b e*N.inc v e*N.c e):=by
  unfold Net.rowsOf;rw[Z8 g,Z8 (by have:=ok.hs;omega),Z7 rfl]
 rw[e2]at e;have e3:S*N.RI U h (-1) v=ls U (fun e=>S/N.b e*N.inc v e*(h (N.to e)-h (N.fr e)))-ls U (fun e=>S/N.b e*N.inc v e*N.c e):=by
  unfold Net.RI;rw[<-Qk,<-Mg];exact X4 fun e _=>by grind
 have e4:S*N.RI U h (-1) v=S*(if v=N.t then N.d else 0):=by rw[e3,e];grind
 have sn:S≠0:=by grind
 have:N.RI U h (-1) v=S*N.RI U h (-1) v/S:=by grind
 rw[this,e4];grind
end RR
namespace RR
def qr(u l:Int):Rat:=(u:Rat)/(l:Rat)
theorem uZ{u l:Int}(h:0<l):qr u l=mkRat u l.toNat:=by
 unfold qr;have e:((l.toNat:Nat):Int)=l:=Int.toNat_of_nonneg (S6 h);rw[Rat.mkRat_eq_div];congr 1;rw[<-XJ,e]
theorem IK{u l g:Int}(h:0<l)(hg:g=((Int.gcd u l:Nat):Int)):(qr u l).num=u/g:=by
 rw[uZ h,Rat.num_mkRat,Z8 (by omega),hg];congr 2;unfold Int.gcd;rw[Nat.gcd_comm];congr 1;omega
theorem LX{u l g:Int}(h:0<l)(hg:g=((Int.gcd u l:Nat):Int)):(((qr u l).den:Nat):Int)=l/g:=by
 rw[uZ h,Rat.den_mkRat,Z8 (by omega),hg,Int.natCast_ediv];congr 2;·omega
 ·unfold Int.gcd;rw[Nat.gcd_comm];congr 1;omega
theorem V3(q:Rat):0<(q.den:Int):=by
 have:=q.den_nz;omega
theorem Wl(q:Rat):(q.num:Rat)/((q.den:Int):Rat)=q:=by
 rw[XJ];rw[<-Rat.mkRat_eq_div];exact Rat.mkRat_self q
theorem tH(q:Rat):((q.den:Int):Rat)≠0:=by
 intro h;have:(q.den:Int)=0:=by exact_mod_cast h
 have:=V3 q;omega
theorem IJ(a b:Rat):qr (a.num*b.den+b.num*a.den) (a.den*b.den)=a+b:=by
 have ha:=Wl a;have O:=Wl b;have da:=tH a;have db:=tH b;unfold qr;rw[XM,Zq,Zq,Zq];conv=>rhs;rw[<-ha,<-O]
 rw[Zn,Zn,Zn,VO,Rat.add_mul];grind
theorem GJ(a b:Rat):qr (a.num*b.num) (a.den*b.den)=a*b:=by
 have ha:=Wl a;have O:=Wl b;unfold qr;rw[Zq,Zq];conv=>rhs;rw[<-ha,<-O]
 rw[Zn,Zn,Zn,VO];grind
theorem w4(a b:Rat):decide (a.num*b.den<b.num*a.den)=decide (a<b):=by
 congr 1;rw[Rat.lt_iff]
theorem tG(a b:Rat)(O:0<b):qr (a.num*b.den) (a.den*b.num)=a/b:=by
 have ha:=Wl a;have lM:=Wl b;unfold qr;rw[Zq,Zq];conv=>rhs;rw[<-ha,<-lM]
 rw[Zn,Zn,Zn,Zn,VO,VO,Rat.inv_inv];grind
theorem ED(u:Int):qr u 1=(u:Rat):=by
 unfold qr;rw[Zn];show(u:Rat)*(1:Rat)⁻¹=u;rw[show(1:Rat)⁻¹=1 by decide+kernel,VM]
def Bd(n:Nat)(x:Int):Prop:=x.natAbs<2^n
theorem Bd.mono{m n:Nat}{x:Int}(h:Bd m x)(k:m<=n):Bd n x:=Zo h (TK (by decide) k)
theorem Bd.mul{m n:Nat}{x y:Int}(hx:Bd m x)(hy:Bd n y):Bd (m+n) (x*y):=by
 unfold Bd at*;rw[Int.natAbs_mul,Nat.pow_add];exact Nat.mul_lt_mul'' hx hy
theorem Bd.neg{n:Nat}{x:Int}(h:Bd n x):Bd n (-x):=by
 unfold Bd at*;rw[Int.natAbs_neg];exact h
theorem Bd.add{n:Nat}{x y:Int}(hx:Bd n x)(hy:Bd n y):Bd (n+1) (x+y):=by
 unfold Bd at*;rw[Nat.pow_succ];have:=Int.natAbs_add_le x y;omega
theorem Bd.sub{n:Nat}{x y:Int}(hx:Bd n x)(hy:Bd n y):Bd (n+1) (x-y):=by
 rw[Int.sub_eq_add_neg];exact hx.add hy.neg
theorem Bd.zero(n:Nat):Bd n 0:=by
 unfold Bd;exact Nat.pos_of_ne_zero (by simp)
theorem Bd.one{n:Nat}(h:1<=n):Bd n 1:=by
 refine Bd.mono (m:=1) ?_ h;unfold Bd;decide
theorem Bd.le{n:Nat}{x y:Int}(h:Bd n y)(k:x.natAbs<=y.natAbs):Bd n x:=YG k h
theorem Bd.div{n:Nat}{x y:Int}(h:Bd n x):Bd n (x/y):=by
 refine h.le ?_;exact Int.natAbs_ediv_le_natAbs x y
structure Rb(n:Nat)(q:Rat):Prop where
 num:Bd n q.num
 den:Bd n q.den
theorem Rb.mono{m n:Nat}{q:Rat}(h:Rb m q)(k:m<=n):Rb n q:=⟨h.num.mono k,h.den.mono k⟩
theorem Rb.qr{n:Nat}{u l:Int}(hl:0<l)(hu:Bd n u)(O:Bd n l):Rb n (qr u l):=by
 refine⟨?_,?_⟩
 ·rw[IK hl rfl];exact hu.div
 ·rw[LX hl rfl];exact O.div
theorem Vn(a b:Rat):0<(a.den:Int)*b.den:=U8 (V3 a) (V3 b)
theorem Rb.add{m n:Nat}{a b:Rat}(ha:Rb m a)(O:Rb n b):Rb (m+n+1) (a+b):=by
 rw[<-IJ];refine Rb.qr (Vn a b) (Bd.add (ha.num.mul O.den) ?_) ((ha.den.mul O.den).mono (by omega));rw[Nat.add_comm];exact O.num.mul ha.den
theorem Rb.neg{n:Nat}{a:Rat}(h:Rb n a):Rb n (-a):=by
 refine⟨?_,?_⟩
 ·rw[Rat.neg_num];exact h.num.neg
 ·rw[Rat.neg_den];exact h.den
theorem Rb.sub{m n:Nat}{a b:Rat}(ha:Rb m a)(O:Rb n b):Rb (m+n+1) (a-b):=by
 rw[Rat.sub_eq_add_neg];exact ha.add O.neg
theorem Rb.mul{m n:Nat}{a b:Rat}(ha:Rb m a)(O:Rb n b):Rb (m+n) (a*b):=by
 rw[<-GJ];exact Rb.qr (Vn a b) (ha.num.mul O.num) (ha.den.mul O.den)
theorem Rb.ofInt{n:Nat}{x:Int}(h:Bd n x)(k:1<=n):Rb n (x:Rat):=by
 refine⟨?_,?_⟩
 ·rw[Rat.num_intCast];exact h
 ·rw[Rat.den_intCast];exact Bd.one k
end RR
namespace RR
theorem zV{x y:Int}(hx:0<=x)(hy:0<y):Int.gcd y (x%y)=Int.gcd x y:=by
 obtain⟨m,rfl⟩:=MM hx;obtain⟨n,rfl⟩:=MM (S6 hy);rw[<-Int.natCast_emod];show Nat.gcd n (m%n)=Nat.gcd m n;rw[Nat.gcd_comm n (m%n),<-Nat.gcd_rec,Nat.gcd_comm]
theorem GI{a b:Int}(ha:0<a)(O:0<b):a/((Int.gcd a b:Nat):Int)*b=((Int.lcm a b:Nat):Int):=by
 obtain⟨m,rfl⟩:=MM (S6 ha);obtain⟨n,rfl⟩:=MM (S6 O);show((m:Int)/((Nat.gcd m n:Nat):Int))*(n:Int)=((Nat.lcm m n:Nat):Int);rw[<-Int.natCast_ediv,<-Int.natCast_mul];congr 1;unfold Nat.lcm;rw[Nat.mul_comm m n,Nat.mul_div_assoc n (Nat.gcd_dvd_left m n),Nat.mul_comm]
theorem JQ{a b:Int}(O:0<b):0<((Int.gcd a b:Nat):Int):=by
 have:=Int.gcd_pos_of_ne_zero_right a (b:=b) (by omega);omega
theorem Di(a b:Int):Int.gcd (if a<0 then-a else a) b=Int.gcd a b:=by
 split;·exact Int.neg_gcd
 ·rfl
end RR
namespace RR
structure BF(N:Net)(w:Nat->Rat)(lab:Nat->Option Rat)(r i:Nat):Prop where
 sound:∀v c,lab v=some c->∃j,N.Walk w j v c
 comp:∀j v c,j<=r->N.Walk w j v c->∃c',c'<=c/\lab v=some c'
 part:∀e,e<i->e<N.m->N.op e=true->∀j c,j<=r->N.Walk w j (N.fr e) c->∃c',c'<=c+w e/\lab (N.to e)=some c'
def B3(N:Net)(w:Nat->Rat)(lab:Nat->Option Rat)(i:Nat):Prop:=
 ∀e,e<i->e<N.m->N.op e=true->∀c,lab (N.fr e)=some c->∃c',c'<=c+w e/\lab (N.to e)=some c'
def start(s:Nat):Nat->Option Rat:=fun v=>if v=s then some 0 else none
def put(lab:Nat->Option Rat)(v:Nat)(c:Rat):Nat->Option Rat:=fun u=>if u=v then some c else lab u
variable{N:Net}{w:Nat->Rat}{lab:Nat->Option Rat}{r i:Nat}
theorem BF.start(N:Net)(w:Nat->Rat):BF N w (RR.start N.s) 0 0 where
 sound:=fun v c h=>by
  unfold RR.start at h;split at h;·rename_i e;cases h;subst e;exact⟨0,.nil w⟩
  ·cases h
 comp:=fun j v c hj h=>by
  obtain rfl:j=0:=by omega
  obtain⟨rfl,rfl⟩:=h.zero;exact⟨0,Ym,Z7 Y⟩
 part:=fun e he=>by omega
theorem BF.skip(B:BF N w lab r i)(h:N.op i=false\/lab (N.fr i)=none):BF N w lab r (i+1)where
 sound:=B.sound
 comp:=B.comp
 part:=fun e he hm ho j c hj hw=>by
  by_cases q:e<i;·exact B.part e q hm ho j c hj hw
  ·obtain rfl:e=i:=by omega
   rcases h with h|h;·rw[h]at ho;cases ho
   ·obtain⟨c',_,e'⟩:=B.comp j _ c hj hw;rw[h]at e';cases e'
theorem B3.skip(B:B3 N w lab i)(h:N.op i=false\/lab (N.fr i)=none):B3 N w lab (i+1):=fun e he hm ho c hc=>by
 by_cases q:e<i;·exact B e q hm ho c hc
 ·obtain rfl:e=i:=by omega
  rcases h with h|h;·rw[h]at ho;cases ho
  ·rw[h]at hc;cases hc
theorem BF.keep(B:BF N w lab r i){c d:Rat}(hc:lab (N.fr i)=some c)(hd:lab (N.to i)=some d)(h:d<=c+w i):BF N w lab r (i+1)where
 sound:=B.sound
 comp:=B.comp
 part:=fun e he hm ho j c1 hj hw=>by
  by_cases q:e<i;·exact B.part e q hm ho j c1 hj hw
  ·obtain rfl:e=i:=by omega
   obtain⟨c',J,h2⟩:=B.comp j _ c1 hj hw;rw[hc]at h2;cases h2;exact⟨d,by grind,hd⟩
theorem B3.keep(B:B3 N w lab i){c d:Rat}(hc:lab (N.fr i)=some c)(hd:lab (N.to i)=some d)(h:d<=c+w i):B3 N w lab (i+1):=fun e he hm ho c1 ye=>by
 by_cases q:e<i;·exact B e q hm ho c1 ye
 ·obtain rfl:e=i:=by omega
  rw[hc]at ye;cases ye;exact⟨d,h,hd⟩
theorem BF.put(B:BF N w lab r i)(hm:i<N.m)(ho:N.op i=true){c:Rat}(hc:lab (N.fr i)=some c)(h:∀d,lab (N.to i)=some d->c+w i<d):BF N w (RR.put lab (N.to i) (c+w i)) r (i+1)where
 sound:=fun v x hx=>by
  unfold RR.put at hx;split at hx
  ·rename_i e;cases hx;obtain⟨j,hj⟩:=B.sound _ c hc;subst e;exact⟨j+1,hj.snoc hm ho⟩
  ·exact B.sound v x hx
 comp:=fun j v x hj hw=>by
  obtain⟨c',J,h2⟩:=B.comp j v x hj hw;unfold RR.put;by_cases q:v=N.to i
  ·rw[Z7 q];subst q;have:=h c' h2;exact⟨_,by grind,Y⟩
  ·rw[Z8 q];exact⟨c',J,h2⟩
 part:=fun e he eW Fl j c1 hj hw=>by
  unfold RR.put;by_cases q:e<i
  ·obtain⟨c',J,h2⟩:=B.part e q eW Fl j c1 hj hw;by_cases z:N.to e=N.to i
   ·rw[Z7 z];rw[z]at h2;have:=h c' h2;exact⟨_,by grind,Y⟩
   ·rw[Z8 z];exact⟨c',J,h2⟩
  ·obtain rfl:e=i:=by omega
   rw[Z7 rfl];obtain⟨c',J,h2⟩:=B.comp j _ c1 hj hw;rw[hc]at h2;cases h2;exact⟨_,by grind,Y⟩
theorem BF.next(B:BF N w lab r N.m):BF N w lab (r+1) 0 where
 sound:=B.sound
 comp:=fun j v c hj hw=>by
  by_cases q:j<=r;·exact B.comp j v c q hw
  ·obtain rfl:j=r+1:=by omega
   obtain⟨e,c',he,ho,rfl,wZ,rfl⟩:=hw.cases;exact B.part e he he ho r c' (ZM _) wZ
 part:=fun e he=>by omega
theorem BF.done(B:BF N w lab r i)(ok:N.Ok)(hw:∀e,e<N.m->N.op e=true->0<=w e)(hr:N.n<=r)(hm:i<N.m)(ho:N.op i=true){c:Rat}(hc:lab (N.fr i)=some c):∃d,lab (N.to i)=some d/\d<=c+w i:=by
 obtain⟨j,hj⟩:=B.sound _ c hc;obtain⟨k,c',hk,hle,hs⟩:=(hj.snoc hm ho).short ok hw;obtain⟨d,J,h2⟩:=B.comp k _ c' (by omega) hs;exact⟨d,h2,by grind⟩
theorem BF.dist(B:BF N w lab r i)(C:B3 N w lab N.m):∀v c,lab v=some c↔N.GU w v c:=by
 have low:∀j v c,N.Walk w j v c->∃c',c'<=c/\lab v=some c':=by
  intro j;induction j with
  |zero=>exact fun v c h=>B.comp 0 v c (Zw _) h
  |succ j ih=>
   intro v c h;obtain⟨e,c',he,ho,rfl,wZ,rfl⟩:=h.cases;obtain⟨a,J,h2⟩:=ih _ _ wZ;obtain⟨b,h3,h4⟩:=C e he he ho a h2;exact⟨b,by grind,h4⟩
 intro v c;constructor
 ·intro h;refine⟨B.sound v c h,fun k c' hk=>?_⟩;obtain⟨d,J,h2⟩:=low k v c' hk;rw[h]at h2;cases h2;exact J
 ·rintro⟨⟨k,hk⟩,h2⟩;obtain⟨d,h3,h4⟩:=low k v c hk;obtain⟨j,hj⟩:=B.sound v d h4;have:=h2 j d hj;rw[h4];congr 1;grind
theorem B3.zero:B3 N w lab 0:=fun e he=>by omega
end RR
namespace RR
open RhRoads
def rowAt(l:Land):List Nat->List Nat×Nat
 |r=>r.foldl (fun p e=>(p.2::p.1,(rd l e).to_)) ([],l.source)
theorem Ou(l:Land):rowAt l []=([],l.source):=rfl
theorem SW(l:Land)(r:List Nat)(e:Nat):rowAt l (r++[e])=((rowAt l r).2::(rowAt l r).1,(rd l e).to_):=by
 unfold rowAt;rw[List.foldl_append];rfl
def Yd(l:Land)(Xg:List Nat)(v:Nat):List Nat:=(List.range l.roads.length).filter fun e=>!(rd l e).shut&&((rd l e).from_==v&&!(Xg.contains (rd l e).to_||(rd l e).to_==v))
theorem W2(l:Land)(k:Nat)(Xg:List Nat)(v:Nat)(h:v≠l.goal):waysFrom l (k+1) Xg v=(Yd l Xg v).flatMap fun e=>(waysFrom l k (v::Xg) (rd l e).to_).map fun w=>e::w:=by
 show(if v=l.goal then[[]]else _)=_;rw[Z8 h,IY,List.filter_map,List.flatMap_map,List.filter_filter];unfold Yd;congr 1;congr 1;funext e;exact Bool.and_comm _ _
def ext(l:Land)(r:List Nat):List (List Nat):=(waysFrom l (l.places+1-r.length) (rowAt l r).1 (rowAt l r).2).map fun w=>r++w
theorem ext_nil(l:Land):ext l []=ways l:=by
 unfold ext ways;rw[Ou];simp
theorem zU{l:Land}{r:List Nat}(h:(rowAt l r).2=l.goal)(hl:r.length<=l.places):ext l r=[r]:=by
 unfold ext;obtain⟨k,e⟩:∃k,l.places+1-r.length=k+1:=⟨l.places-r.length,by omega⟩;rw[e];show List.map _ (if(rowAt l r).2=l.goal then[[]]else _)=_;rw[Z7 h];simp
theorem zT{l:Land}{r:List Nat}(h:(rowAt l r).2≠l.goal)(hl:r.length<=l.places):ext l r=(Yd l (rowAt l r).1 (rowAt l r).2).flatMap fun e=>ext l (r++[e]):=by
 unfold ext;obtain⟨k,e⟩:∃k,l.places+1-r.length=k+1:=⟨l.places-r.length,by omega⟩;rw[e,W2 l k _ _ h,List.map_flatMap];congr 1;funext x;rw[SW,ZI,Yv];have e2:l.places+1-(r.length+[x].length)=k:=by
  show l.places+1-(r.length+1)=k;omega
 rw[e2];congr 1;funext w;simp
structure Pk(l:Land)(r:List Nat):Prop where
 lt:∀e,e∈r->e<l.roads.length
 nd:((rowAt l r).2::(rowAt l r).1).Nodup
 pl:∀v,v∈(rowAt l r).2::(rowAt l r).1->v<l.places
theorem B1(l:Land):∀r:List Nat,(rowAt l r).1.length=r.length:=by
 intro r;have:∀(r:List Nat)(p:List Nat×Nat),(r.foldl (fun p e=>(p.2::p.1,(rd l e).to_)) p).1.length=p.1.length+r.length:=by
  intro r;induction r with
  |nil=>intro p;rfl
  |cons e r ih=>
   intro p;rw[R6,ih];simp;omega
 unfold rowAt;rw[this];simp
theorem Xf:∀(n:Nat)(L:List Nat),L.Nodup->(∀v,v∈L->v<n)->L.length<=n:=by
 intro n;induction n with
 |zero=>
  intro L _ h;cases L with
  |nil=>exact ZM _
  |cons a L=>exact absurd (h a (YM ..)) (by omega)
 |succ n ih=>
  intro L nd h;have J:=ih (L.erase n) (nd.erase n) (fun v hv=>by
   have h2:=h v (List.mem_of_mem_erase hv);have h3:v≠n:=fun q=>by subst q;exact(List.Nodup.not_mem_erase nd) hv
   omega)
  have:=List.length_erase_le (l:=L) (a:=n);rw[List.length_erase]at J;split at J<;>omega
theorem Pk.len{l:Land}{r:List Nat}(h:Pk l r):r.length+1<=l.places:=by
 have:=Xf l.places _ h.nd h.pl;rw[Zj,B1]at this;exact this
theorem Pk.nil{l:Land}(h:l.source<l.places):Pk l []where
 lt:=fun e he=>by cases he
 nd:=by rw[Ou];simp
 pl:=fun v hv=>by
  rw[Ou]at hv;simp at hv;omega
theorem Q0{l:Land}{Xg:List Nat}{v e:Nat}:e∈Yd l Xg v↔e<l.roads.length/\(rd l e).shut=false/\(rd l e).from_=v/\(rd l e).to_∉Xg/\(rd l e).to_≠v:=by
 unfold Yd;rw[XX,YW];simp
theorem Pk.snoc{l:Land}(hl:Zk l){r:List Nat}(h:Pk l r){e:Nat}(he:e∈Yd l (rowAt l r).1 (rowAt l r).2):Pk l (r++[e]):=by
 obtain⟨J,h2,h3,h4,h5⟩:=Q0.mp he;refine⟨fun x hx=>?_,?_,fun v hv=>?_⟩
 ·rw[Zm,Zp]at hx;rcases hx with hx|rfl;·exact h.lt x hx
  ·exact J
 ·rw[SW];refine Ww.mpr ⟨?_,h.nd⟩;simp[h4,h5]
 ·rw[SW]at hv;rcases ZH.mp hv with rfl|hv;·exact(hl.rd J).t
  ·exact h.pl v hv
def below(l:Land):Nat->List Nat->Nat->Nat
 |0,_,_=>1
 |k+1,Xg,v=>1+((Yd l Xg v).map fun e=>below l k (v::Xg) (rd l e).to_).sum
def W9(l:Land)(r:List Nat):Nat:=below l (l.places+1-r.length) (rowAt l r).1 (rowAt l r).2
theorem GH{l:Land}{r:List Nat}(hl:r.length<=l.places):W9 l r=1+((Yd l (rowAt l r).1 (rowAt l r).2).map fun e=>W9 l (r++[e])).sum:=by
 unfold W9;obtain⟨k,e⟩:∃k,l.places+1-r.length=k+1:=⟨l.places-r.length,by omega⟩;rw[e];show 1+_=1+_;congr 2;congr 1;funext x;rw[SW,ZI];have e2:l.places+1-(r.length+[x].length)=k:=by
  show l.places+1-(r.length+1)=k;omega
 rw[e2]
theorem LW(l:Land)(r:List Nat):0<W9 l r:=by
 unfold W9;generalize l.places+1-r.length=k;cases k with
 |zero=>exact Nat.one_pos
 |succ k=>show 0<1+_;omega
structure LV(l:Land)(found started:List (List Nat)):Prop where
 ok:∀r,r∈started->Pk l r
 fd:∀r,r∈found->Pk l r
 perm:(found++started.flatMap (ext l)).Perm (ways l)
theorem LV.start{l:Land}(hl:Zk l):LV l [] [[]]where
 ok:=fun r hr=>by
  rw[Zp]at hr;subst hr;exact .nil hl.s
 fd:=fun r hr=>by cases hr
 perm:=by simp[ext_nil]
theorem LV.goal{l:Land}{found started:List (List Nat)}{r:List Nat}(h:LV l found (started++[r]))(hg:(rowAt l r).2=l.goal):LV l (found++[r]) started where
 ok:=fun x hx=>h.ok x (Yu _ hx)
 fd:=fun x hx=>by
  rcases Zm.mp hx with hx|hx;·exact h.fd x hx
  ·rw[Zp]at hx;subst hx;exact h.ok _ (by simp)
 perm:=by
  refine List.Perm.trans ?_ h.perm;have ho:=(h.ok r (by simp)).len;rw[TN,Wc];refine List.Perm.append_left _ ?_;have e:List.flatMap (ext l) [r]=[r]:=by simp[zU hg (by omega)]
  rw[e];exact List.perm_append_comm
theorem LV.more{l:Land}(hl:Zk l){found started:List (List Nat)}{r:List Nat}(h:LV l found (started++[r]))(hg:(rowAt l r).2≠l.goal):LV l found (started++(Yd l (rowAt l r).1 (rowAt l r).2).map fun e=>r++[e])where
 ok:=fun x hx=>by
  rcases Zm.mp hx with hx|hx;·exact h.ok x (Yu _ hx)
  ·obtain⟨e,he,rfl⟩:=Zc.mp hx;exact(h.ok r (by simp)).snoc hl he
 fd:=h.fd
 perm:=by
  have ho:=(h.ok r (by simp)).len;have e:List.flatMap (ext l) ((Yd l (rowAt l r).1 (rowAt l r).2).map fun e=>r++[e])=List.flatMap (ext l) [r]:=by
   rw[List.flatMap_map];simp[zT hg (show r.length<=l.places by omega)]
  have h2:=h.perm;rw[TN]at h2⊢;rw[e];exact h2
theorem B0{l:Land}{started:List (List Nat)}{r:List Nat}(hr:r.length<=l.places):((started++(Yd l (rowAt l r).1 (rowAt l r).2).map fun e=>r++[e]).map (W9 l)).sum<((started++[r]).map (W9 l)).sum:=by
 rw[Y1,Y1,List.sum_append,List.sum_append,Yv];have:=GH (l:=l) (r:=r) hr;have e:((Yd l (rowAt l r).1 (rowAt l r).2).map (W9 l∘fun e=>r++[e])).sum=((Yd l (rowAt l r).1 (rowAt l r).2).map fun e=>W9 l (r++[e])).sum:=rfl;rw[e];simp;omega
theorem JP{l:Land}{started:List (List Nat)}{r:List Nat}:(started.map (W9 l)).sum<((started++[r]).map (W9 l)).sum:=by
 rw[Y1,List.sum_append];have:=LW l r;simp;omega
def before:List Nat->List Nat->Prop
 |[],_=>True
 |_::_,[]=>False
 |a::p,b::q=>a<b\/(a=b/\before p q)
theorem GG(l:Land):∀(k:Nat)(Xg:List Nat)(v:Nat),(waysFrom l k Xg v).Pairwise before:=by
 intro k;induction k with
 |zero=>exact fun Xg v=>List.Pairwise.nil
 |succ k ih=>
  intro Xg v;by_cases h:v=l.goal
  ·show List.Pairwise before (if v=l.goal then[[]]else _);rw[Z7 h];exact List.pairwise_singleton _ _
  ·rw[W2 l k Xg v h];have hs:(Yd l Xg v).Pairwise (·<·):=ML _ (List.pairwise_lt_range);generalize Yd l Xg v=L at hs;induction L with
   |nil=>exact List.Pairwise.nil
   |cons e L k_=>
    rw[List.pairwise_cons]at hs;rw[Wa,List.pairwise_append];refine⟨?_,k_ hs.2,?_⟩
    ·rw[UM];exact(ih _ _).imp fun h=>Or.inr ⟨Y,h⟩
    ·intro x hx y hy;obtain⟨p,_,rfl⟩:=Zc.mp hx;obtain⟨f,hf,hy⟩:=List.mem_flatMap.mp hy;obtain⟨q,_,rfl⟩:=Zc.mp hy;exact Or.inl (hs.1 f hf)
theorem Sn:∀p q:List Nat,before p q->before q p->p=q
 |[],[],_,_=>rfl
 |[],b::q,_,h=>h.elim
 |a::p,[],h,_=>h.elim
 |a::p,b::q,J,h2=>by
  have J:a<b\/(a=b/\before p q):=J;have h2:b<a\/(b=a/\before q p):=h2;have e:a=b:=by omega
  subst e;rw[Sn p q (by rcases J with h|h;omega;exact h.2) (by rcases h2 with h|h;omega;exact h.2)]
theorem EC{L M:List (List Nat)}(h:L.Perm M)(hL:L.Pairwise before)(hM:M.Pairwise before):L=M:=
 List.Perm.eq_of_pairwise (fun a b _ _=>Sn a b) hL hM h
theorem EB{l:Land}{found L:List (List Nat)}(P:LV l found [])(h:L.Perm found)(hs:L.Pairwise before):L=ways l:=by
 refine EC (h.trans ?_) hs (GG l _ _ _);have:=P.perm;simpa using this
end RR
namespace RR
open RhRoads
structure Pj(f:Flow)(w:List Nat)(m:Rat):Prop where
 mem:∃e,e∈w/\on f e=m
 le:∀e,e∈w->m<=on f e
theorem Pj.uniq{f:Flow}{w:List Nat}{m n:Rat}(a:Pj f w m)(b:Pj f w n):m=n:=by
 obtain⟨e,J,h2⟩:=a.mem;obtain⟨g,h3,h4⟩:=b.mem;have:=a.le g h3;have:=b.le e J;grind
theorem Qi(f:Flow):∀w:List Nat,w≠[]->Pj f w (leastOn f w)
 |[],h=>absurd rfl h
 |[e],_=>⟨⟨e,Zp.mpr Y,Y⟩,fun g hg=>by
  rw[Zp]at hg;subst hg;exact Ym⟩
 |e::g::r,_=>by
  have ih:=Qi f (g::r) (by simp);have e1:leastOn f (e::g::r)=if on f e<leastOn f (g::r)then on f e else leastOn f (g::r):=rfl
  rw[e1];split
  ·rename_i h;refine⟨⟨e,by simp,Y⟩,fun x hx=>?_⟩;rcases ZH.mp hx with rfl|hx;·exact Ym
   ·have:=ih.le x hx;grind
  ·rename_i h;obtain⟨x,J,h2⟩:=ih.mem;refine⟨⟨x,Zh _ J,h2⟩,fun y hy=>?_⟩;rcases ZH.mp hy with rfl|hy;·grind
   ·exact ih.le y hy
def UG(f:Flow)(w:List Nat)(m:Rat):Flow:=f.zipIdx.map fun(x:Rat×Nat)=>if w.contains x.2 then x.1-m else x.1
theorem WQ(f:Flow)(w:List Nat)(m:Rat):(UG f w m).length=f.length:=by
 unfold UG;rw[Z3,List.length_zipIdx]
theorem JO{f:Flow}{w:List Nat}{m:Rat}{e:Nat}(he:e<f.length):on (UG f w m) e=if e∈w then on f e-m else on f e:=by
 unfold on UG;rw[ZX,Zf,List.getElem?_zipIdx,ZU he];simp[ZX,ZU he]
def pass:List (List Nat)->Flow->List (Rat×List Nat)
 |[],_=>[]
 |w::ws,f=>if leastOn f w=0 then pass ws f else(leastOn f w,w)::pass ws (UG f w (leastOn f w))
def wY(f:Flow)(w:List Nat):Prop:=∃e,e∈w/\e<f.length/\on f e=0
def busy(f:Flow):Nat:=((List.range f.length).filter fun e=>decide (on f e≠0)).length
theorem LU{p q:Nat->Bool}:∀{L:List Nat},(∀a,a∈L->p a=true->q a=true)->(∃a,a∈L/\q a=true/\p a=false)->(L.filter p).length<(L.filter q).length
 |[],_,h=>by obtain⟨a,J,_⟩:=h;cases J
 |x::L,h,k=>by
  have hle:∀{L:List Nat},(∀a,a∈L->p a=true->q a=true)->(L.filter p).length<=(L.filter q).length:=by
   intro L;induction L with
   |nil=>intro _;exact ZM _
   |cons y L ih=>
    intro h;have:=ih fun a ha=>h a (Zh _ ha);rw[YN,YN];have h2:=h y (by simp);split
    ·rename_i c;rw[Z7 (h2 c)];simp;exact this
    ·split;·simp;omega
     ·exact this
  have h0:=hle fun a ha=>h a (Zh x ha);rw[YN,YN];obtain⟨a,J,h2,h3⟩:=k;rcases ZH.mp J with rfl|J
  ·rw[Z7 h2,Z8 (by rw[h3];simp)];simp;omega
  ·have ih:=LU (L:=L) (fun a ha=>h a (Zh x ha)) ⟨a,J,h2,h3⟩;split
   ·rename_i c;rw[Z7 (h x (by simp) c)];simp;exact ih
   ·split;·simp;omega
    ·exact ih
theorem Qh(l:Land):∀(B A:List (List Nat))(f:Flow)(k:Nat),ways l=A++B->(∀w,w∈ways l->w≠[]/\∀e,e∈w->e<f.length)->(∀e,0<=on f e)->(∀w,w∈A->wY f w)->busy f<k->partsOf l k f=pass B f
 |[],A,f,k,hw,hn,h0,O,hk=>by
  obtain⟨k,rfl⟩:∃j,k=j+1:=⟨k-1,by omega⟩;rw[XH]at hw;have e:(ways l).find? (fun(w:List Nat)=>w.all fun(e:Nat)=>decide (0<on f e))=none:=by
   rw[Wb];intro w hm c;rw[hw]at hm;obtain⟨x,J,h2,h3⟩:=O w hm;have:=We.mp c x J;have:=ZG this;grind
  show(match(ways l).find? (fun(w:List Nat)=>w.all fun(e:Nat)=>decide (0<on f e))with|none=>[]|some w=>_)=_;rw[e];rfl
 |w::B,A,f,k,hw,hn,h0,O,hk=>by
  have pU:w∈ways l:=by rw[hw];simp
  have hL:=Qi f w (hn w pU).1;show _=(if leastOn f w=0 then pass B f else _);by_cases c:leastOn f w=0
  ·rw[Z7 c];refine Qh l B (A++[w]) f k (by rw[hw];simp) hn h0 (fun x hx=>?_) hk;rcases Zm.mp hx with hx|hx;·exact O x hx
   ·rw[Zp]at hx;subst hx;obtain⟨e,J,h2⟩:=hL.mem;exact⟨e,J,(hn _ pU).2 e J,by rw[h2];exact c⟩
  ·rw[Z8 c];obtain⟨k,rfl⟩:∃j,k=j+1:=⟨k-1,by omega⟩;have hp:0<leastOn f w:=by
    obtain⟨e,J,h2⟩:=hL.mem;have:=h0 e;rw[h2]at this;grind
   have e:(ways l).find? (fun(w:List Nat)=>w.all fun(e:Nat)=>decide (0<on f e))=some w:=by
    rw[hw,List.find?_append,Wb.mpr]
    ·rw[Option.none_or,List.find?_cons_of_pos];refine We.mpr fun e he=>ZR ?_;have:=hL.le e he;grind
    ·intro x hx d;obtain⟨e,J,h2,h3⟩:=O x hx;have:=ZG (We.mp d e J);grind
   have e2:partsOf l (k+1) f=(leastOn f w,w)::partsOf l k (UG f w (leastOn f w)):=by
    show(match(ways l).find? (fun(w:List Nat)=>w.all fun(e:Nat)=>decide (0<on f e))with|none=>[]|some w=>_)=_;rw[e];rfl
   rw[e2];congr 1;have tF:∀e,e<f.length->on (UG f w (leastOn f w)) e=if e∈w then on f e-leastOn f w else on f e:=fun e he=>JO he
   refine Qh l B (A++[w]) _ k (by rw[hw];simp) (fun x hx=>⟨(hn x hx).1,by rw[WQ];exact(hn x hx).2⟩) (fun e=>?_) (fun x hx=>?_) ?_
   ·by_cases he:e<f.length
    ·rw[tF e he];split
     ·rename_i hm;have:=hL.le e hm;grind
     ·exact h0 e
    ·unfold on;rw[ZX,YQ (by rw[WQ];omega)];exact Ym
   ·rcases Zm.mp hx with hx|hx
    ·obtain⟨e,J,h2,h3⟩:=O x hx;refine⟨e,J,by rw[WQ];exact h2,?_⟩;rw[tF e h2,Z8,h3];intro hm;have:=hL.le e hm;grind
    ·rw[Zp]at hx;subst hx;obtain⟨e,J,h2⟩:=hL.mem;refine⟨e,J,by rw[WQ];exact(hn _ pU).2 e J,?_⟩;rw[tF e ((hn _ pU).2 e J),Z7 J];grind
   ·have Xd:busy (UG f w (leastOn f w))<busy f:=by
     unfold busy;rw[WQ];refine LU (fun a ha qf=>?_) ?_
     ·have ha:=YW.mp ha;have qf:=ZG qf;refine ZR fun q=>qf ?_;rw[tF a ha,Z8,q];intro hm;have:=hL.le a hm;grind
     ·obtain⟨e,J,h2⟩:=hL.mem;have he:=(hn _ pU).2 e J;refine⟨e,YW.mpr he,ZR (by grind),ZF ?_⟩;rw[tF e he,Z7 J];grind
    omega
theorem wX(f:Flow):busy f<=f.length:=by
 unfold busy;have:=Wx (fun e=>decide (on f e≠0)) (List.range f.length);rw[Zd]at this;exact this
theorem EA{l:Land}(hl:Zk l){f:Flow}(hf:f.length=l.roads.length)(h0:∀e,0<=on f e)(hw:∀w,w∈ways l->w≠[]/\∀e,e∈w->e<l.roads.length):parts l f=pass (ways l) f:=by
 unfold parts;refine Qh l (ways l) [] f (ROADS+1) rfl (by rw[hf];exact hw) h0 (fun w hw=>by cases hw) ?_;have:=wX f;have:=hl.r9;show busy f<9+1;omega
theorem II(l:Land)(st:l.source≠l.goal):∀(k:Nat)(Xg:List Nat)(v:Nat)(w:List Nat),w∈waysFrom l k Xg v->(∀e,e∈w->e<l.roads.length/\(rd l e).to_∉Xg/\(rd l e).to_≠v)/\(v≠l.goal->w≠[])/\(w.map fun e=>(rd l e).to_).Nodup:=by
 intro k;induction k with
 |zero=>
  intro Xg v w hw;cases hw
 |succ k ih=>
  intro Xg v w hw;by_cases h:v=l.goal
  ·have hw:w∈(if v=l.goal then[[]]else _):=hw;rw[Z7 h,Zp]at hw;subst hw;exact⟨fun e he=>(by cases he),fun q=>absurd h q,TM⟩
  ·rw[W2 l k Xg v h,List.mem_flatMap]at hw;obtain⟨e,he,hw⟩:=hw;obtain⟨x,hx,rfl⟩:=Zc.mp hw;obtain⟨J,h2,h3,h4,h5⟩:=Q0.mp he;obtain⟨i1,i2,i3⟩:=ih _ _ x hx;refine⟨fun g hg=>?_,fun _=>by simp,?_⟩
   ·rcases ZH.mp hg with rfl|hg;·exact⟨J,h4,h5⟩
    ·obtain⟨j1,j2,j3⟩:=i1 g hg;exact⟨j1,fun q=>j2 (Zh _ q),fun q=>j2 (by rw[q];simp)⟩
   ·rw[Y7,Ww];refine⟨fun q=>?_,i3⟩;obtain⟨g,hg,e2⟩:=Zc.mp q;exact(i1 g hg).2.2 e2
theorem LS{l:Land}(hl:Zk l){w:List Nat}(hw:w∈ways l):w≠[]/\(∀e,e∈w->e<l.roads.length)/\w.Nodup:=by
 obtain⟨J,h2,h3⟩:=II l hl.st _ _ _ w hw;refine⟨h2 hl.st,fun e he=>(J e he).1,?_⟩;have:=UM.mp h3;exact this.imp fun h q=>h (by rw[q])
end RR
namespace RR
structure JN where
 tail:Nat
 head:Nat
 cost:Int
 slope:Int
structure Y8 where
 n:Nat
 s:Nat
 t:Nat
 units:Int
 links:List JN
def Y8.lk(P:Y8)(e:Nat):JN:=P.links.getD e ⟨0,1,0,1⟩
def Y8.X3(P:Y8):Net:=⟨P.n,P.links.length,fun e=>(P.lk e).tail,fun e=>(P.lk e).head,fun e=>((P.lk e).cost:Rat),fun e=>((P.lk e).slope:Rat),fun _=>true,P.s,P.t,(P.units:Rat)⟩
structure Y8.Ok(P:Y8):Prop where
 s:P.s<P.n
 t:P.t<P.n
 st:P.s≠P.t
 u:0<P.units
 lt:∀e,e<P.links.length->(P.lk e).tail<P.n
 lh:∀e,e<P.links.length->(P.lk e).head<P.n
 ne:∀e,e<P.links.length->(P.lk e).tail≠(P.lk e).head
 c:∀e,e<P.links.length->0<=(P.lk e).cost
 b:∀e,e<P.links.length->0<(P.lk e).slope
theorem intCast_pos{z:Int}(h:0<z):(0:Rat)<(z:Rat):=by
 have:=Q8 (a:=0) (b:=z);exact this.mpr h
theorem SV{z:Int}(h:0<=z):(0:Rat)<=(z:Rat):=by
 have:=Q9 (a:=0) (b:=z);exact this.mpr h
theorem Y8.Ok.X3{P:Y8}(h:P.Ok):P.X3.Ok where
 hs:=h.s
 ht:=h.t
 st:=h.st
 hd:=intCast_pos h.u
 Bc:=h.lt
 Am:=h.lh
 ne:=h.ne
 hc:=fun e he=>SV (h.c e he)
 O:=fun e he=>intCast_pos (h.b e he)
def RD(U:List Nat)(f:Nat->Int):Int:=(U.map f).sum
theorem BZ(U:List Nat)(e:Nat)(f:Nat->Int):RD (U++[e]) f=RD U f+f e:=by
 unfold RD;rw[Y1,List.sum_append];simp
theorem Dh(U:List Nat)(f:Nat->Int):((RD U f:Int):Rat)=ls U (fun e=>(f e:Rat)):=by
 induction U with
 |nil=>rfl
 |cons e U ih=>
  unfold RD at ih⊢;rw[Y7,TL,XM,ih];rfl
theorem wW{U:List Nat}{f:Nat->Int}(h:∀e,e∈U->0<=f e):0<=RD U f:=by
 induction U with
 |nil=>exact U9 _
 |cons e U ih=>
  unfold RD at ih⊢;rw[Y7,TL];have:=h e (by simp);have:=ih fun x hx=>h x (by simp[hx]);omega
theorem BY{U:List Nat}{f:Nat->Int}(h:∀e,e∈U->0<=f e)(z:RD U f=0):∀e,e∈U->f e=0:=by
 induction U with
 |nil=>intro e he;cases he
 |cons e U ih=>
  unfold RD at ih z;rw[Y7,TL]at z;have J:=h e (by simp);have h2:0<=(U.map f).sum:=wW fun x hx=>h x (by simp[hx]);intro x hx;rcases ZH.mp hx with rfl|hx;·omega
  ·exact ih (fun y hy=>h y (by simp[hy])) (by omega) x hx
def Y8.ic(P:Y8)(v e:Nat):Int:=if(P.lk e).head=v then 1 else if(P.lk e).tail=v then-1 else 0
theorem Y8.Ez(P:Y8)(v e:Nat):(P.ic v e:Rat)=P.X3.inc v e:=by
 unfold Y8.ic Net.inc;show _=if(P.lk e).head=v then(1:Rat)else if(P.lk e).tail=v then-1 else 0
 split;·rfl
 ·split<;>rfl
def Y8.raw(P:Y8)(U:List Nat)(S:Int)(v u:Nat):Int:=
 if u=P.n then(if v=P.t then S*P.units else 0)+RD U (fun e=>S/(P.lk e).slope*P.ic v e*(P.lk e).cost)else RD U (fun e=>S/(P.lk e).slope*P.ic v e*P.ic u e)
theorem Tq{S b:Int}(O:0<b)(h:b∣S):((S/b:Int):Rat)=(S:Rat)/(b:Rat):=by
 obtain⟨k,rfl⟩:=h;rw[Int.mul_ediv_cancel_left _ (by omega),Zq];have:(b:Rat)≠0:=by
  have:=intCast_pos O;grind
 rw[Zn];grind
open Classical in
theorem Y8.Dg{P:Y8}(ok:P.Ok){U:List Nat}(hU:∀e,e∈U->e<P.links.length){S:Int}(hS:0<S)(hd:∀e,e∈U->(P.lk e).slope∣S){v u:Nat}(hv:v<P.n)(hu:u<P.n+1):
 P.X3.rowsOf U (S:Rat) v u=(((if v=P.s\/P.raw U S v v=0 then(if u=v then 1 else 0)else if u=P.s then 0 else P.raw U S v u):Int):Rat):=by
 have wt:∀e,e∈U->0<S/(P.lk e).slope:=fun e he=>by
  have O:=ok.b e (hU e he);obtain⟨k,hk⟩:=hd e he;rw[hk,Int.mul_ediv_cancel_left _ (by omega)];rw[hk]at hS;exact Int.pos_of_mul_pos_right hS O
 have iM:P.raw U S v v=0↔¬P.X3.Ys U v:=by
  unfold Y8.raw;rw[Z8 (by omega)];constructor
  ·rintro z ⟨e,he,q⟩;have:=BY (fun x hx=>?_) z e he
   ·have w:=wt e he;have R7:=ok.ne e (hU e he);have ic:P.ic v e=1\/P.ic v e=-1:=by
     unfold Y8.ic;rcases q with q|q
     ·right;have q:(P.lk e).tail=v:=q;rw[Z8 (fun z=>R7 (by rw[q,z])),Z7 q]
     ·left;exact Z7 q
    rcases ic with ic|ic<;>rw[ic]at this<;>omega
   ·have w:=wt x hx;rw[Int.mul_assoc];exact Int.mul_nonneg (by omega) (by
     unfold Y8.ic;split;·decide
     ·split<;>decide)
  ·intro z;unfold RD;have:(U.map fun e=>S/(P.lk e).slope*P.ic v e*P.ic v e)=U.map fun _=>(0:Int):=by
    refine V9 fun e he=>?_;have:P.ic v e=0:=by
     unfold Y8.ic;rw[Z8 (show¬(P.lk e).head=v from fun q=>z ⟨e,he,.inr q⟩),Z8 (show¬(P.lk e).tail=v from fun q=>z ⟨e,he,.inl q⟩)]
    rw[this];simp
   rw[this];clear this hU hd wt z;induction U with
   |nil=>rfl
   |cons e U ih=>simpa using ih
 unfold Net.rowsOf;by_cases g:v=P.s\/P.raw U S v v=0
 ·rw[Z7 g,Z7 (by rcases g with g|g;exact .inl g;exact .inr (iM.mp g))];split<;>rfl
 ·rw[Z8 g,Z8 (fun q=>g (by rcases q with q|q;exact .inl q;exact .inr (iM.mpr q)))];by_cases us:u=P.s;·rw[Z7 us,Z7 (show u=P.X3.s from us)];rfl
  ·rw[Z8 us,Z8 (show¬u=P.X3.s from us)];unfold Y8.raw;by_cases un:u=P.n
   ·rw[Z7 un,Z7 (show u=P.X3.n from un),XM,Dh];congr 1
    ·by_cases vt:v=P.t;·rw[Z7 vt,Z7 (show v=P.X3.t from vt),Zq];rfl
     ·rw[Z8 vt,Z8 (show¬v=P.X3.t from vt)];show(S:Rat)*0=0;grind
    ·refine X4 fun e he=>?_;rw[Zq,Zq,Tq (ok.b e (hU e he)) (hd e he),Y8.Ez];rfl
   ·rw[Z8 un,Z8 (show¬u=P.X3.n from un),Dh];refine X4 fun e he=>?_;rw[Zq,Zq,Tq (ok.b e (hU e he)) (hd e he),Y8.Ez,Y8.Ez];rfl
def ld(ys:List Int)(w:Int)(e:Nat):Rat:=(ys.getD e 0:Rat)/(w:Rat)
theorem Y8.balanced{P:Y8}(ok:P.Ok){U:List Nat}(hU:∀e,e∈U->e<P.links.length)(nd:U.Nodup)(T:P.X3.Pq U)(tt:P.X3.Ys U P.t){S:Int}(hS:0<S)(hd:∀e,e∈U->(P.lk e).slope∣S){rows:List (List Int)}(R:RE P.n (P.n+1) rows)(hr:∀v,v<P.n->∀u,u<P.n+1->ent rows v u=if v=P.s\/P.raw U S v v=0 then(if u=v then 1 else 0)else if u=P.s then 0 else P.raw U S v u){ys:List Int}(hl:ys.length=P.links.length)(y1:∀e,e∈U->ys.getD e 0=(ent (Yl P.n rows).1 (P.lk e).head P.n-ent (Yl P.n rows).1 (P.lk e).tail P.n-(P.lk e).cost*ent (Yl P.n rows).1 0 0)*(S/(P.lk e).slope))(y0:∀e,e<P.links.length->e∉U->ys.getD e 0=0):0<ent (Yl P.n rows).1 0 0/\∃h,P.X3.Vo U (ld ys (S*ent (Yl P.n rows).1 0 0)) h:=by
 have nk:=ok.X3;have en:∀v,v<P.n->∀u,u<P.n+1->(ent rows v u:Rat)=P.X3.rowsOf U (S:Rat) v u:=fun v hv u hu=>by rw[hr v hv u hu,Y8.Dg ok hU hS hd hv hu]
 have PD:SX P.n (fun i j=>(ent rows i j:Rat)):=by
  intro x hx;have q:=Net.Dj nk hU T (intCast_pos hS) x hx;have e:sm P.n (fun i=>x i*sm P.n (fun j=>(ent rows i j:Rat)*x j))=sm P.X3.n (fun i=>x i*sm P.X3.n (fun j=>P.X3.rowsOf U (S:Rat) i j*x j)):=by
   refine ZQ fun i hi=>?_;congr 1;refine ZQ fun j hj=>?_;rw[en i hi j (by omega)]
  rw[e];exact q
 have hn:0<P.n:=by have:=ok.s;omega
 obtain⟨h,R',lp,hh,sol⟩:=LY hn R PD;refine⟨lp,h,?_⟩;obtain⟨b1,b2⟩:=Net.zW (N:=P.X3) nk hU (intCast_pos hS) (h:=h) (fun v hv=>by
  have q:=en v hv P.n (by omega);refine Vz ?_ q;rw[<-sol v hv];exact ZQ fun j hj=>by rw[en v hv j (by have:j<P.n:=hj;omega)])
 refine Net.z_ nk hU nd (b1 P.s ok.s (.inl Y)) tt b2 (fun e he=>?_) (fun e he hn=>?_)
 ·unfold ld;rw[y1 e he,Zq,UU,UU,Zq,hh _ (ok.lh e (hU e he)),hh _ (ok.lt e (hU e he)),Tq (ok.b e (hU e he)) (hd e he),Zq];have l0:((ent (Yl P.n rows).1 0 0:Int):Rat)≠0:=by have:=intCast_pos lp;grind
  have s0:(S:Rat)≠0:=by have:=intCast_pos hS;grind
  have b0:((P.lk e).slope:Rat)≠0:=by have:=intCast_pos (ok.b e (hU e he));grind
  show _=(h (P.lk e).head-h (P.lk e).tail-((P.lk e).cost:Rat))/((P.lk e).slope:Rat);generalize((ent (Yl P.n rows).1 0 0:Int):Rat)=L at*;generalize(S:Rat)=S' at*;generalize((P.lk e).slope:Rat)=b at*;rw[Zn,Zn,Zn,VO];have i1:L*L⁻¹=1:=VN _ l0;have i2:S'*S'⁻¹=1:=VN _ s0;grind
 ·unfold ld;rw[y0 e he hn];show(0:Rat)/_=0;grind
end RR
namespace RR
def Net.GF(N:Net)(x:Nat->Rat)(v:Nat):Prop:=v=N.s\/∃e,e<N.m/\x e≠0/\(N.fr e=v\/N.to e=v)
structure nX(P:Y8)(x h:Nat->Rat)(w:Int)(hg:Nat->Option Int):Prop where
 uY:∀v,P.X3.GF x v↔∃z,hg v=some z
 val:∀v z,hg v=some z->(z:Rat)=h v*(w:Rat)
structure GD(P:Y8)(w:Int)(hg:Nat->Option Int)(lab:Nat->Option Int)(arr:Nat->Option Nat)(Ye:Nat->Nat)(T:Nat):Prop where
 fix:∀v z,hg v=some z->lab v=some z/\arr v=none/\Ye v=0
 rL:∀v b,hg v=none->lab v=some b->∃e a,arr v=some e/\e<P.links.length/\(P.lk e).head=v/\lab (P.lk e).tail=some a/\a+(P.lk e).cost*w<=b/\(a+(P.lk e).cost*w=b->Ye (P.lk e).tail<Ye v)
 Xs:∀v,lab v=none->arr v=none
 tT:∀v,Ye v<=T
def QN(lab:Nat->Option Int)(v:Nat)(c:Int):Nat->Option Int:=fun u=>if u=v then some c else lab u
def putN(arr:Nat->Option Nat)(v:Nat)(e:Nat):Nat->Option Nat:=fun u=>if u=v then some e else arr u
def wV(Ye:Nat->Nat)(v:Nat)(t:Nat):Nat->Nat:=fun u=>if u=v then t else Ye u
section
variable{P:Y8}{w:Int}{hg lab:Nat->Option Int}{arr:Nat->Option Nat}{Ye:Nat->Nat}{T:Nat}
theorem GD.start:GD P w hg hg (fun _=>none) (fun _=>0) 0 where
 fix:=fun v z h=>⟨h,Y,Y⟩
 rL:=fun v b J h2=>by rw[J]at h2;cases h2
 Xs:=fun _ _=>rfl
 tT:=fun _=>ZM _
theorem GD.put(S:GD P w hg lab arr Ye T)(ok:P.Ok){e:Nat}(he:e<P.links.length){a:Int}(ha:lab (P.lk e).tail=some a)(hh:hg (P.lk e).head=none)(hl:∀b,lab (P.lk e).head=some b->a+(P.lk e).cost*w<b):GD P w hg (QN lab (P.lk e).head (a+(P.lk e).cost*w)) (putN arr (P.lk e).head e) (wV Ye (P.lk e).head (T+1)) (T+1)where
 fix:=fun v z h=>by
  have hv:v≠(P.lk e).head:=fun q=>by rw[q,hh]at h;cases h
  unfold QN putN wV;rw[Z8 hv,Z8 hv,Z8 hv];exact S.fix v z h
 rL:=fun v b J h2=>by
  have ne:=ok.ne e he;unfold QN putN wV at*;by_cases hv:v=(P.lk e).head
  ·rw[Z7 hv]at h2;cases h2;refine⟨e,a,Z7 hv,he,hv.symm,?_,U9 _,fun _=>?_⟩;·rw[Z8 ne];exact ha
   ·rw[Z8 ne,Z7 hv];have:=S.tT (P.lk e).tail;omega
  ·rw[Z8 hv]at h2⊢;obtain⟨f,c,g1,g2,g3,g4,g5,g6⟩:=S.rL v b J h2;refine⟨f,?_⟩;by_cases ht:(P.lk f).tail=(P.lk e).head
   ·refine⟨a+(P.lk e).cost*w,g1,g2,g3,Z7 ht,?_,fun q=>?_⟩
    ·rw[ht]at g4;have:=hl c g4;omega
    ·rw[ht]at g4;have:=hl c g4;omega
   ·refine⟨c,g1,g2,g3,by rw[Z8 ht];exact g4,g5,fun q=>?_⟩;rw[Z8 ht,Z8 hv];exact g6 q
 Xs:=fun v h=>by
  unfold QN at h;unfold putN;by_cases hv:v=(P.lk e).head;·rw[Z7 hv]at h;cases h
  ·rw[Z8 hv]at h⊢;exact S.Xs v h
 tT:=fun v=>by
  unfold wV;split;·exact ZM _
  ·exact Nat.le_succ_of_le (S.tT v)
def Ey(P:Y8)(w:Int)(hg lab:Nat->Option Int)(i:Nat):Prop:=∀e,e<i->e<P.links.length->hg (P.lk e).head=none->∀a,lab (P.lk e).tail=some a->∃b,lab (P.lk e).head=some b/\b<=a+(P.lk e).cost*w
def Chain(P:Y8)(arr:Nat->Option Nat):Nat->List Nat->Prop
 |v,[]=>arr v=none
 |v,e::ks=>arr v=some e/\Chain P arr (P.lk e).tail ks
theorem GD.rests(S:GD P w hg lab arr Ye T)(C:Ey P w hg lab P.links.length)(ok:P.Ok)(hw:0<w){ys:List Int}{h:Nat->Rat}(G:P.X3.Good (ld ys w) h)(Hg:nX P (ld ys w) h w hg)(hn:∀e,e<P.links.length->¬0<ys.getD e 0->∀a z,lab (P.lk e).tail=some a->hg (P.lk e).head=some z->z<=a+(P.lk e).cost*w):P.X3.WC (ld ys w):=by
 have wp:=intCast_pos hw;have w0:(w:Rat)≠0:=by grind
 have yz:∀e,(ld ys w e=0↔ys.getD e 0=0):=fun e=>by
  unfold ld;constructor
  ·intro q;rw[Zn]at q;have:=XY.mp q;rcases this with z|z;·exact_mod_cast z
   ·have:=VN _ w0;rw[z]at this;grind
  ·intro q;rw[q];show(0:Rat)/_=0;grind
 have yn:∀e,e<P.links.length->0<=ys.getD e 0:=fun e he=>by
  have q:=G.VE.nn e he;unfold ld at q;have:(0:Rat)<=(ys.getD e 0:Rat):=by
   have:=Xh q (YH wp);rw[Zn,UT,TB _ w0,VM]at this;exact this
  exact_mod_cast this
 let lb:Nat->Rat:=fun v=>((lab v).getD 0:Rat)/(w:Rat)
 have uX:∀v a,lab v=some a->lb v*(w:Rat)=(a:Rat):=fun v a q=>by
  show((lab v).getD 0:Rat)/(w:Rat)*(w:Rat)=_;rw[q,Zn,UT,TB _ w0,VM];rfl
 have pT:∀v,P.X3.GF (ld ys w) v->lb v=h v/\∃z,hg v=some z/\lab v=some z:=fun v q=>by
  obtain⟨z,hz⟩:=(Hg.uY v).mp q;have J:=Hg.val v z hz;have h2:=(S.fix v z hz).1;have h3:=uX v z h2;rw[J]at h3;refine⟨?_,z,hz,h2⟩;have:(lb v-h v)*(w:Rat)=0:=by grind
  rcases XY.mp this with z|z;·grind
  ·exact absurd z w0
 refine Net.Good.rests ok.X3 G (fun _ _=>rfl) (lab:=lb) (Lb:=fun v=>∃a,lab v=some a) ?_ ?_ ?_
 ·obtain⟨_,z,_,hz⟩:=pT P.s (.inl Y);exact⟨z,hz⟩
 ·intro e he ⟨a,ha⟩;have ha:lab (P.lk e).tail=some a:=ha;by_cases x0:ld ys w e=0
  ·have pr:P.X3.price (ld ys w) e=((P.lk e).cost:Rat):=by
    unfold Net.price;rw[x0];show((P.lk e).cost:Rat)+_*0=_;grind
   rw[pr];have key:∀b,lab (P.lk e).head=some b->b<=a+(P.lk e).cost*w->lb (P.lk e).head<=lb (P.lk e).tail+((P.lk e).cost:Rat):=fun b O hle=>by
    have J:=uX _ a ha;have h2:=uX _ b O;have h3:(b:Rat)<=((a+(P.lk e).cost*w:Int):Rat):=by exact_mod_cast hle
    rw[XM,Zq,<-J,<-h2]at h3;by_cases q:lb (P.lk e).head<=lb (P.lk e).tail+((P.lk e).cost:Rat);·exact q
    ·have:0<(lb (P.lk e).head-(lb (P.lk e).tail+((P.lk e).cost:Rat)))*(w:Rat):=V4 (by grind) wp;grind
   cases hh:hg (P.lk e).head with
   |none=>
    obtain⟨b,O,hle⟩:=C e he he hh a ha;exact⟨⟨b,O⟩,key b O hle⟩
   |some z=>
    have hle:=hn e he (by rw[(yz e).mp x0];decide) a z ha hh;have O:=(S.fix _ z hh).1;exact⟨⟨z,O⟩,key z O hle⟩
  ·have t1:=pT (P.lk e).tail (.inr ⟨e,he,x0,.inl Y⟩);have t2:=pT (P.lk e).head (.inr ⟨e,he,x0,.inr Y⟩);obtain⟨e2,z,_,hz⟩:=t2;refine⟨⟨z,hz⟩,?_⟩;show lb (P.lk e).head<=lb (P.lk e).tail+_;rw[e2,t1.1];have:=G.on e he x0;have this:h (P.lk e).head-h (P.lk e).tail=P.X3.price (ld ys w) e:=this;grind
 ·intro e he x0;have t1:=pT (P.lk e).tail (.inr ⟨e,he,x0,.inl Y⟩);have t2:=pT (P.lk e).head (.inr ⟨e,he,x0,.inr Y⟩);show lb (P.lk e).head=lb (P.lk e).tail+_;rw[t1.1,t2.1];have:=G.on e he x0;have this:h (P.lk e).head-h (P.lk e).tail=P.X3.price (ld ys w) e:=this;grind
theorem GD.tE(S:GD P w hg lab arr Ye T)(C:Ey P w hg lab P.links.length)(ok:P.Ok)(hw:0<w){ys:List Int}{h:Nat->Rat}(G:P.X3.Good (ld ys w) h)(Hg:nX P (ld ys w) h w hg){e:Nat}{ks:List Nat}(he:e<P.links.length)(y0:¬0<ys.getD e 0){a z:Int}(ha:lab (P.lk e).tail=some a)(hz:hg (P.lk e).head=some z)(lt:a+(P.lk e).cost*w<z)(ch:Chain P arr (P.lk e).tail ks):∃lb:Nat->Rat,P.X3.Wm (ld ys w) h (P.X3.GF (ld ys w)) lb Ye T (fun i=>(e::ks).getD i 0) ks.length:=by
 have wp:=intCast_pos hw;have w0:(w:Rat)≠0:=by grind
 have yn:∀e,e<P.links.length->0<=ys.getD e 0:=fun e he=>by
  have q:=G.VE.nn e he;unfold ld at q;have:(0:Rat)<=(ys.getD e 0:Rat):=by
   have:=Xh q (YH wp);rw[Zn,UT,TB _ w0,VM]at this;exact this
  exact_mod_cast this
 let lb:Nat->Rat:=fun v=>((lab v).getD 0:Rat)/(w:Rat)
 have uX:∀v a,lab v=some a->lb v*(w:Rat)=(a:Rat):=fun v a q=>by
  show((lab v).getD 0:Rat)/(w:Rat)*(w:Rat)=_;rw[q,Zn,UT,TB _ w0,VM];rfl
 have iL:∀p q:Rat,p*(w:Rat)=q*(w:Rat)->p=q:=fun p q r=>by
  have:(p-q)*(w:Rat)=0:=by grind
  rcases XY.mp this with z|z;·grind
  ·exact absurd z w0
 have all:∀(ks:List Nat)(v:Nat)(a:Int),lab v=some a->Chain P arr v ks->
  (∀i,i<ks.length->ks.getD i 0<P.links.length/\hg (P.lk (ks.getD i 0)).head=none/\lb (P.lk (ks.getD i 0)).head=lb (P.lk (ks.getD i 0)).tail+((P.lk (ks.getD i 0)).cost:Rat)/\Ye (P.lk (ks.getD i 0)).tail<Ye (P.lk (ks.getD i 0)).head)/\
  (∀i,i<ks.length->(P.lk (ks.getD i 0)).head=if i=0 then v else(P.lk (ks.getD (i-1) 0)).tail)/\
  P.X3.GF (ld ys w) (if ks.length=0 then v else(P.lk (ks.getD (ks.length-1) 0)).tail):=by
  intro ks;induction ks with
  |nil=>
   intro v a hv hc;refine⟨fun i hi=>absurd hi (by simp),fun i hi=>absurd hi (by simp),?_⟩;show P.X3.GF (ld ys w) v;refine(Hg.uY v).mpr ?_;cases q:hg v with
   |some z=>exact ⟨z,Y⟩
   |none=>
    obtain⟨f,_,g1,_⟩:=S.rL v a q hv;have hc:arr v=none:=hc;rw[hc]at g1;cases g1
  |cons f ks ih=>
   intro v a hv hc;obtain⟨ye,uW⟩:arr v=some f/\Chain P arr (P.lk f).tail ks:=hc;have k9:hg v=none:=by
    cases q:hg v with
    |none=>rfl
    |some z=>
     have:=(S.fix v z q).2.1;rw[ye]at this;cases this
   obtain⟨f',b,g1,g2,g3,g4,g5,g6⟩:=S.rL v a k9 hv;rw[ye]at g1;cases g1;obtain⟨a',J,h2⟩:=C f g2 g2 (by rw[g3];exact k9) b g4;rw[g3,hv]at J;cases J;have eqv:b+(P.lk f).cost*w=a:=by omega
   obtain⟨i1,i2,i3⟩:=ih _ b g4 uW;refine⟨fun i hi=>?_,fun i hi=>?_,?_⟩
   ·cases i with
    |zero=>
     show f<_/\hg (P.lk f).head=none/\lb (P.lk f).head=lb (P.lk f).tail+((P.lk f).cost:Rat)/\Ye (P.lk f).tail<Ye (P.lk f).head;rw[g3];refine⟨g2,k9,iL _ _ ?_,g6 eqv⟩;rw[uX v a hv,Rat.add_mul,uX _ b g4,<-Zq,<-XM,eqv]
    |succ i=>exact i1 i (by simpa using hi)
   ·cases i with
    |zero=>rw [Z7 rfl];exact g3
    |succ i=>
     rw[Z8 (by omega)];have:=i2 i (by simpa using hi);show(P.lk (ks.getD i 0)).head=(P.lk ((f::ks).getD (i+1-1) 0)).tail;rw[this];cases i with
     |zero=>rfl
     |succ i=>rw [Z8 (by omega)];rfl
   ·rw[Z8 (by simp)];cases ks with
    |nil=>exact i3
    |cons g ks=>
     rw[Z8 (by simp)]at i3;exact i3
 obtain⟨i1,i2,i3⟩:=all ks _ a ha ch;have zero:∀f,f<P.links.length->hg (P.lk f).head=none->ld ys w f=0:=fun f hf q=>by
  by_cases z:ld ys w f=0;·exact z
  ·obtain⟨y,hy⟩:=(Hg.uY (P.lk f).head).mp (.inr ⟨f,hf,z,.inr Y⟩);rw[q]at hy;cases hy
 refine⟨lb,.inl Y,fun v hv=>hv,fun f hf hx=>⟨.inr ⟨f,hf,hx,.inl Y⟩,.inr ⟨f,hf,hx,.inr Y⟩⟩,fun v hv=>?_,fun v hv=>?_,S.tT,fun i hi=>?_,?_,?_,fun i hi=>?_,?_⟩
 ·obtain⟨y,hy⟩:=(Hg.uY v).mp hv;refine iL _ _ ?_;rw[uX v y (S.fix v y hy).1];exact Hg.val v y hy
 ·obtain⟨y,hy⟩:=(Hg.uY v).mp hv;exact(S.fix v y hy).2.2
 ·cases i with
  |zero=>
   refine⟨he,?_⟩;have:ys.getD e 0=0:=by have:=yn e he;omega
   show ld ys w e=0;unfold ld;rw[this];show(0:Rat)/_=0;grind
  |succ i=>
   obtain⟨j1,j2,_⟩:=i1 i (by omega);exact⟨j1,zero _ j1 j2⟩
 ·exact(Hg.uY _).mpr ⟨z,hz⟩
 ·have J:=uX _ a ha;have h2:=Hg.val _ z hz;have h3:((a+(P.lk e).cost*w:Int):Rat)<(z:Rat):=by exact_mod_cast lt
  rw[XM,Zq,<-J,h2]at h3;show lb (P.lk e).tail+((P.lk e).cost:Rat)<h (P.lk e).head;by_cases q:lb (P.lk e).tail+((P.lk e).cost:Rat)<h (P.lk e).head;·exact q
  ·have:0<=(lb (P.lk e).tail+((P.lk e).cost:Rat)-h (P.lk e).head)*(w:Rat):=Xh (by grind) (YH wp);grind
 ·obtain⟨j1,j2,j3,j4⟩:=i1 i hi;have j5:=i2 i hi;refine⟨?_,fun q=>?_,j3,j4⟩
  ·show(P.lk ((e::ks).getD i 0)).tail=(P.lk (ks.getD i 0)).head;rw[j5];cases i with
   |zero=>rfl
   |succ i=>rw [Z8 (by omega)];rfl
  ·obtain⟨y,hy⟩:=(Hg.uY _).mp q;have hy:hg (P.lk (ks.getD i 0)).head=some y:=hy;rw[j2]at hy;cases hy
 ·show P.X3.GF (ld ys w) (P.lk ((e::ks).getD ks.length 0)).tail;cases ks with
  |nil=>exact i3
  |cons g ks=>
   rw[Z8 (by simp)]at i3;exact i3
end
end RR
namespace RR
theorem Ot(f:Int->Int)(f0:f 0=0)(ys:List Int)(e:Nat):(ys.map f).getD e 0=f (ys.getD e 0):=by
 rw[ZX,ZX,Zf];cases ys[e]?with
 |none=>exact f0.symm
 |some y=>rfl
theorem NU{w d:Int}(hw:0<w)(hd:0<d)(h:d∣w):0<w/d:=by
 obtain⟨k,rfl⟩:=h;rw[Int.mul_ediv_cancel_left _ (by omega)];exact Int.pos_of_mul_pos_right hw hd
theorem zS{ys:List Int}{w d:Int}(hd:0<d)(hw:0<w)(dw:d∣w)(dy:∀y,y∈ys->d∣y)(e:Nat):ld (ys.map (fun y=>y/d)) (w/d) e=ld ys w e:=by
 unfold ld;rw[Ot (fun y=>y/d) (by simp)];have hy:d∣ys.getD e 0:=by
  rw[ZX];cases h:ys[e]?with
  |none=>exact ⟨0,by simp⟩
  |some y=>exact dy y (Y9 h)
 rw[Tq hd hy,Tq hd dw];have d0:(d:Rat)≠0:=by have:=intCast_pos hd;grind
 have w0:(w:Rat)≠0:=by have:=intCast_pos hw;grind
 generalize(d:Rat)=d' at*;generalize(w:Rat)=w' at*;generalize((ys.getD e 0:Int):Rat)=y;rw[Zn,Zn,Zn,Zn,VO,Rat.inv_inv];have i1:d'*d'⁻¹=1:=VN _ d0;grind
def Ph(g:Int)(ys:List Int):Int:=ys.foldl (fun g y=>((Int.gcd g y:Nat):Int)) g
theorem BX(g:Int)(ys:List Int)(y:Int):Ph g (ys++[y])=((Int.gcd (Ph g ys) y:Nat):Int):=by
 unfold Ph;rw[List.foldl_append];rfl
theorem ME(ys:List Int):∀g:Int,0<g->0<Ph g ys/\Ph g ys∣g/\∀y,y∈ys->Ph g ys∣y:=by
 induction ys with
 |nil=>exact fun g hg=>⟨hg,Int.dvd_refl _,fun y hy=>by cases hy⟩
 |cons y ys ih=>
  intro g hg;have eV:0<((Int.gcd g y:Nat):Int):=by
   have:=Int.gcd_pos_of_ne_zero_left y (a:=g) (by omega);omega
  obtain⟨J,h2,h3⟩:=ih _ eV;refine⟨J,Int.dvd_trans h2 (Int.gcd_dvd_left ..),fun z hz=>?_⟩;rcases ZH.mp hz with rfl|hz;·exact Int.dvd_trans h2 (Int.gcd_dvd_right ..)
  ·exact h3 z hz
theorem Uk{ys:List Int}{w:Int}(hw:0<w)(e:Nat):ld ys w e=0↔ys.getD e 0=0:=by
 have w0:(w:Rat)≠0:=by have:=intCast_pos hw;grind
 unfold ld;constructor
 ·intro q;rw[Zn]at q;rcases XY.mp q with z|z;·exact_mod_cast z
  ·have:=VN _ w0;rw[z]at this;grind
 ·intro q;rw[q];show(0:Rat)/_=0;grind
theorem UE{ys:List Int}{w:Int}(hw:0<w)(e:Nat):ld ys w e*(w:Rat)=(ys.getD e 0:Rat):=by
 have w0:(w:Rat)≠0:=by have:=intCast_pos hw;grind
 unfold ld;rw[Zn,UT,TB _ w0,VM]
theorem JM{ys:List Int}{w:Int}(hw:0<w)(e:Nat):0<=ld ys w e↔0<=ys.getD e 0:=by
 have wp:=intCast_pos hw;have h:=UE (ys:=ys) hw e;constructor
 ·intro q;have:=Xh q (YH wp);rw[h]at this;exact_mod_cast this
 ·intro q;have q:=SV q;unfold ld;exact RF q wp
theorem LR{ys:List Int}{w:Int}(hw:0<w)(e:Nat):ld ys w e<0↔ys.getD e 0<0:=by
 have:=JM (ys:=ys) hw e;constructor
 ·intro q;by_cases z:0<=ys.getD e 0
  ·have:=this.mpr z;grind
  ·omega
 ·intro q;by_cases z:0<=ld ys w e
  ·have:=this.mp z;omega
  ·grind
structure Ex(xs ys:List Int)(k i:Nat):Prop where
 lt:k<i
 neg:ys.getD k 0<0
 mn:∀e,e<i->ys.getD e 0<0->xs.getD k 0*(-ys.getD e 0)<=xs.getD e 0*(-ys.getD k 0)
theorem Ex.first{xs ys:List Int}{i:Nat}(h:∀e,e<i->¬ys.getD e 0<0)(hi:ys.getD i 0<0):Ex xs ys i (i+1):=
 ⟨V8 _,hi,fun e he hn=>by
  by_cases q:e<i;·exact absurd hn (h e q)
  ·obtain rfl:e=i:=by omega
   exact U9 _⟩
theorem Ex.skip{xs ys:List Int}{k i:Nat}(E:Ex xs ys k i)(hi:¬ys.getD i 0<0):Ex xs ys k (i+1):=
 ⟨X6 E.lt,E.neg,fun e he hn=>by
  by_cases q:e<i;·exact E.mn e q hn
  ·obtain rfl:e=i:=by omega
   exact absurd hn hi⟩
theorem Ex.keep{xs ys:List Int}{k i:Nat}(E:Ex xs ys k i)(h:¬xs.getD i 0*ys.getD k 0>xs.getD k 0*ys.getD i 0):Ex xs ys k (i+1):=
 ⟨X6 E.lt,E.neg,fun e he hn=>by
  by_cases q:e<i;·exact E.mn e q hn
  ·obtain rfl:e=i:=by omega
   rw[Int.mul_neg,Int.mul_neg];omega⟩
theorem Ex.take{xs ys:List Int}{k i:Nat}(E:Ex xs ys k i)(hi:ys.getD i 0<0)(h:xs.getD i 0*ys.getD k 0>xs.getD k 0*ys.getD i 0):Ex xs ys i (i+1):=
 ⟨V8 _,hi,fun e he hn=>by
  by_cases q:e<i
  ·have J:=E.mn e q hn;have nk:=E.neg;generalize xs.getD i 0=a at*;generalize xs.getD k 0=b at*;generalize xs.getD e 0=c at*;generalize ys.getD k 0=y at*;generalize ys.getD i 0=z at*;generalize ys.getD e 0=u at*;have s1:(b*(-u))*(-z)<=(c*(-y))*(-z):=Int.mul_le_mul_of_nonneg_right J (by omega);have s2:(a*(-y))*(-u)<=(b*(-z))*(-u):=Int.mul_le_mul_of_nonneg_right (by rw[Int.mul_neg,Int.mul_neg];omega) (by omega);have e1:(a*(-y))*(-u)=(a*(-u))*(-y):=by grind
   have e2:(b*(-z))*(-u)=(b*(-u))*(-z):=by grind
   have e3:(c*(-y))*(-z)=(c*(-z))*(-y):=by grind
   have y0:0< -y:=by omega
   have s3:(a*(-u))*(-y)<=(c*(-z))*(-y):=by rw[<-e1,<-e3];rw[e2]at s2;exact Int.le_trans s2 s1
   exact Int.le_of_mul_le_mul_right s3 y0
  ·obtain rfl:e=i:=by omega
   exact U9 _⟩
theorem GC{xs ys:List Int}{wx wy:Int}(hx:0<wx)(hy:0<wy){k:Nat}(xk:0<=xs.getD k 0)(yk:ys.getD k 0<0){zs:List Int}{e:Nat}(hz:zs.getD e 0=ys.getD e 0*xs.getD k 0-xs.getD e 0*ys.getD k 0):0<xs.getD k 0*wy-ys.getD k 0*wx/\ld zs (xs.getD k 0*wy-ys.getD k 0*wx) e=(ld xs wx e*(-ld ys wy k)+ld xs wx k*ld ys wy e)/(ld xs wx k-ld ys wy k):=by
 have GB:0<xs.getD k 0*wy-ys.getD k 0*wx:=by
  have J:0<=xs.getD k 0*wy:=Int.mul_nonneg xk (by omega);have h2:0<(-ys.getD k 0)*wx:=U8 (by omega) hx;rw[Int.neg_mul]at h2;omega
 refine⟨GB,?_⟩;have px:=intCast_pos hx;have py:=intCast_pos hy;have pw:=intCast_pos GB;have a1:=UE (ys:=xs) hx e;have a2:=UE (ys:=xs) hx k;have a3:=UE (ys:=ys) hy e;have a4:=UE (ys:=ys) hy k;have a5:=UE (ys:=zs) GB e;rw[hz,UU,Zq,Zq,UU,Zq,Zq,<-a1,<-a2,<-a3,<-a4]at a5;have kp:0<ld xs wx k-ld ys wy k:=by
  have J:=(JM (ys:=xs) hx k).mpr xk;have h2:=(LR (ys:=ys) hy k).mpr yk;grind
 generalize ld zs (xs.getD k 0*wy-ys.getD k 0*wx) e=z at*;generalize ld xs wx e=p at*;generalize ld xs wx k=q at*;generalize ld ys wy e=r at*;generalize ld ys wy k=u at*;generalize(wx:Rat)=a at*;generalize(wy:Rat)=b at*;have key:z*(q-u)*(a*b)=(p*(-u)+q*r)*(a*b):=by grind
 have ab:0<a*b:=V4 px py;have k8:z*(q-u)=p*(-u)+q*r:=by
  have:(z*(q-u)-(p*(-u)+q*r))*(a*b)=0:=by grind
  rcases XY.mp this with h|h;·grind
  ·grind
 rw[<-k8,Zn,UT,VN _ (by grind),VM]
end RR
namespace RR
theorem Bd.fdiv{n:Nat}{x y:Int}(hy:0<y)(h:Bd n x):Bd n (x.fdiv y):=by
 rw[Int.fdiv_eq_ediv_of_nonneg x (by omega)];exact h.div
theorem wU{n:Nat}{rows:List (List Int)}(R:RE n (n+1) rows)(PD:SX n (fun i j=>(ent rows i j:Rat))){b:Nat}(O:∀i,i<n->∀j,j<n+1->Bd b (ent rows i j)):∀k,k<=n->(RE n (n+1) (Yl k rows).1/\0<(Yl k rows).2/\∀i,i<n->∀j,j<n+1->Bd (2^k*(b+1)-1) (ent (Yl k rows).1 i j)):=by
 intro k;induction k with
 |zero=>
  intro _;exact⟨R,Int.one_pos,fun i hi j hj=>(O i hi j hj).mono (by omega)⟩
 |succ k ih=>
  intro hk;obtain⟨J,h2,h3⟩:=ih (by omega);obtain⟨V,lam,B⟩:=yf.run R PD (k+1) hk;refine⟨B.IP,B.pos,fun i hi j hj=>?_⟩;show Bd _ (ent (Vx k (Yl k rows).2 (Yl k rows).1) i j);rw[NV J (by omega) hi hj];have e:2^(k+1)*(b+1)=2^k*(b+1)+2^k*(b+1):=by rw[Nat.pow_succ];grind
  have e1:1<=2^k*(b+1):=Nat.mul_pos (Nat.pow_pos (by decide)) (by omega);split;·exact(h3 k (by omega) j hj).mono (by omega)
  ·refine Bd.fdiv h2 ?_;have a1:=(h3 k (by omega) k (by omega)).mul (h3 i hi j hj);have a2:=(h3 i hi k (by omega)).mul (h3 k (by omega) j hj);exact(a1.sub a2).mono (by omega)
theorem SU{n:Nat}{rows:List (List Int)}(R:RE n (n+1) rows)(PD:SX n (fun i j=>(ent rows i j:Rat))){b:Nat}(hn:n<=6)(O:∀i,i<n->∀j,j<n+1->Bd b (ent rows i j))(k:Nat)(hk:k<=n):RE n (n+1) (Yl k rows).1/\0<(Yl k rows).2/\∀i,i<n->∀j,j<n+1->Bd (64*(b+1)) (ent (Yl k rows).1 i j):=by
 obtain⟨J,h2,h3⟩:=wU R PD O k hk;refine⟨J,h2,fun i hi j hj=>(h3 i hi j hj).mono ?_⟩;have:2^k*(b+1)<=64*(b+1):=Nat.mul_le_mul_right _ (show 2^k<=2^6 from TK (by decide) (by omega));omega
theorem QH:∀(A B:List Nat),A.Nodup->(∀e,e∈A->e∈B)->A.length<=B.length
 |[],B,_,_=>Zw _
 |a::A,B,nd,h=>by
  rw[Ww]at nd;have ha:=h a (by simp);have ih:=QH A (B.erase a) nd.2 fun e he=>(List.mem_erase_of_ne (fun q=>nd.1 (by rw[<-q];exact he))).mpr (h e (by simp[he]));rw[List.length_erase_of_mem ha]at ih;have:0<B.length:=List.length_pos_of_mem ha;rw[Zj];omega
structure KD(N:Net)(p x0:Nat->Rat)(U:List Nat)(x y h:Nat->Rat):Prop where
 VE:N.KH x
 lt:∀e,e∈U->e<N.m
 nd:U.Nodup
 rise:∀e,e∈U->p (N.fr e)<p (N.to e)
 RI:N.Vo U y h
 off:∀e,e<N.m->e∉U->x e=0
 zz:∀e,e<N.m->x e=0->0<=y e
 pS:N.PV x<N.PV x0\/(N.PV x=N.PV x0/\∃e,e<N.m/\x e≠y e)
theorem KD.done{N:Net}(ok:N.Ok){p x0 x y h:Nat->Rat}{U:List Nat}(S:KD N p x0 U x y h)(nn:∀e,e<N.m->0<=y e):N.Good y h/\N.PV y<N.PV x0:=by
 refine⟨S.RI.good nn,?_⟩;rcases S.pS with f|⟨f,e,he,ne⟩
 ·have:=Net.w_ ok S.RI S.VE.cons S.off;grind
 ·have:=Net.EK ok S.RI S.VE.cons S.off he ne;grind
theorem KD.move{N:Net}(ok:N.Ok){p x0 x y h:Nat->Rat}{U:List Nat}(S:KD N p x0 U x y h){k:Nat}(hk:k<N.m)(yk:y k<0)(mn:∀e,e<N.m->y e<0->x k*(-y e)<=x e*(-y k)){x':Nat->Rat}(rM:∀e,e<N.m->x' e=(x e*(-y k)+x k*y e)/(x k-y k)){U':List Nat}(hU:∀e,e∈U'↔e<N.m/\x' e≠0)(nd:U'.Nodup):0<x k/\N.KH x'/\N.Pq U'/\N.Ys U' N.t/\U'.length<U.length/\∀y' h',N.Vo U' y' h'->KD N p x0 U' x' y' h':=by
 obtain⟨J,h2,h3,h4,h5,h6⟩:=Net.moved ok S.VE S.RI S.off S.zz hk yk mn rM;have sub:∀e,e∈U'->e∈U:=fun e he=>by
  obtain⟨a,b⟩:=(hU e).mp he;exact h5 e a b
 have kn:k∉U':=fun q=>((hU k).mp q).2 h3;refine⟨J,h2,?_,?_,?_,fun y' h' B=>?_⟩;·exact Net.EJ ok (p:=p) h2 (fun e he hx=>S.rise e (h5 e he hx)) hU
 ·obtain⟨e,he,ht,hx⟩:=Net.IS ok h2;exact⟨e,(hU e).mpr ⟨he,hx⟩,.inr ht⟩
 ·have hl:=QH U' (U.erase k) nd fun e he=>(List.mem_erase_of_ne (fun q=>kn (by rw[<-q];exact he))).mpr (sub e he);rw[List.length_erase_of_mem h4]at hl;have:0<U.length:=List.length_pos_of_mem h4;omega
 ·refine⟨h2,fun e he=>((hU e).mp he).1,nd,fun e he=>S.rise e (sub e he),B,fun e he hn=>?_,fun e he hx=>?_,.inl ?_⟩
  ·by_cases q:x' e=0;·exact q
   ·exact absurd ((hU e).mpr ⟨he,q⟩) hn
  ·rw[B.off e he (fun q=>((hU e).mp q).2 hx)];exact Ym
  ·rcases S.pS with f|⟨f,_⟩<;>grind
theorem KD.start{N:Net}(ok:N.Ok){x h lab:Nat->Rat}{Ht:Nat->Prop}{Ye:Nat->Nat}{T:Nat}{ks:Nat->Nat}{r:Nat}(G:N.Good x h)(D:N.Wm x h Ht lab Ye T ks r){U:List Nat}(hU:∀e,e∈U↔e<N.m/\(x e≠0\/∃i,i<=r/\e=ks i))(nd:U.Nodup):N.Pq U/\N.Ys U N.t/\∃p,∀y h',N.Vo U y h'->KD N p x U x y h':=by
 obtain⟨p,hp⟩:=D.rise ok G;refine⟨D.KG ok G hU,?_,p,fun y h' B=>?_⟩
 ·obtain⟨e,he,ht,hx⟩:=Net.IS ok G.VE;exact⟨e,(hU e).mpr ⟨he,.inl hx⟩,.inr ht⟩
 ·have pos:=D.pos ok G hU B;refine⟨G.VE,fun e he=>((hU e).mp he).1,nd,fun e he=>hp e ((hU e).mp he).1 ((hU e).mp he).2,B,fun e he hn=>?_,fun e he hx=>?_,.inr ⟨Y,ks 0,(D.emp 0 (Zw _)).1,?_⟩⟩
  ·by_cases q:x e=0;·exact q
   ·exact absurd ((hU e).mpr ⟨he,.inl q⟩) hn
  ·by_cases q:e∈U
   ·rcases((hU e).mp q).2 with z|⟨i,hi,rfl⟩;·exact absurd hx z
    ·exact YH (pos i hi)
   ·rw[B.off e he q];exact Ym
  ·rw[(D.emp 0 (Zw _)).2];have:=pos 0 (Zw _);grind
theorem Net.Wm.nodup{N:Net}{x h lab:Nat->Rat}{Ht:Nat->Prop}{Ye:Nat->Nat}{T:Nat}{ks:Nat->Nat}{r:Nat}(D:N.Wm x h Ht lab Ye T ks r){L:List Nat}(hl:L.length=r+1)(hL:∀i,i<L.length->L.getD i 0=ks i):L.Nodup:=by
 rw[List.nodup_iff_pairwise_ne,PN];intro i j hi hj JX q;have J:=hL i hi;have h2:=hL j hj;rw[ZX,ZU hi]at J;rw[ZX,ZU hj]at h2;have J:L[i]=ks i:=J;have h2:L[j]=ks j:=h2;have:=D.inj (i:=i) (j:=j) (by omega) (by omega) (by rw[<-J,<-h2,q]);omega
end RR
namespace RR
open RhRoads
theorem Qg{n:Nat}{p:Nat->Bool}{i:Nat}(hi:i<n)(hp:p i=true)(h:∀j,j<i->p j=false):(List.range n).find? p=some i:=by
 rw[List.find?_eq_some_iff_append];refine⟨hp,List.range i,(List.range' (i+1) (n-i-1)),?_,fun a ha=>?_⟩
 ·have e1:List.range n=List.range' 0 n:=List.range_eq_range';have e2:List.range i=List.range' 0 i:=List.range_eq_range';rw[e1,e2];have:n=i+((n-i-1)+1):=by omega
  conv=>lhs;rw[this]
  rw[<-List.range'_append_1,List.range'_succ];simp
 ·rw[h a (YW.mp ha)];rfl
theorem Vf{n:Nat}{p:Nat->Bool}(h:∀j,j<n->p j=false):(List.range n).find? p=none:=by
 rw[Wb];intro a ha;rw[h a (YW.mp ha)];simp
theorem GA{l:Land}(q:Road×Nat->Bool):(l.roads.zipIdx.find? q).map (fun x=>x.2)=(List.range l.roads.length).find? fun e=>q (rd l e,e):=by
 rw[Yi l.roads Wz,List.find?_map];cases h:(List.range l.roads.length).find? (q∘fun i=>(l.roads.getD i Wz,i))with
 |none=>
  rw[show(fun e=>q (rd l e,e))=(q∘fun i=>(l.roads.getD i Wz,i))from rfl,h];rfl
 |some e=>
  rw[show(fun e=>q (rd l e,e))=(q∘fun i=>(l.roads.getD i Wz,i))from rfl,h];rfl
def MY(l:Land)(f:Flow)(e:Nat):Bool:=decide (on f e<0)||((rd l e).shut&&on f e !=0)
def KC(l:Land)(f:Flow)(v:Nat):Bool:=sumAt l f v !=due l v
def Oq(l:Land)(all:Bool)(f:Flow)(e:Nat):Bool:=on f e !=0&&(match costTo l all f (rd l e).from_,costTo l all f (rd l e).to_ with
 |some c,some g=>c+(rd l e).price all (on f e)!=g
 |_,_=>true)
theorem zR(l:Land)(all:Bool)(f:Flow):wrong l all f=match(List.range l.roads.length).find? (MY l f)with
 |some e=>some (1,e)
 |none=>match(List.range l.places).find? (KC l f)with
  |some v=>some (2,v)
  |none=>((List.range l.roads.length).find? (Oq l all f)).map fun e=>(3,e):=by
 unfold wrong;have J:=GA (l:=l) (fun(x:Road×Nat)=>decide (on f x.2<0)||(x.1.shut&&on f x.2!=0));have h3:=GA (l:=l) (fun(x:Road×Nat)=>on f x.2!=0&&(match(costs l all f l.places).getD x.1.from_ none,(costs l all f l.places).getD x.1.to_ none with
  |some c,some g=>c+x.1.price all (on f x.2)!=g
  |_,_=>true))
 have e1:(fun e=>(fun(x:Road×Nat)=>decide (on f x.2<0)||(x.1.shut&&on f x.2!=0)) (rd l e,e))=MY l f:=rfl;rw[e1]at J;have e3:(List.range l.roads.length).find? (Oq l all f)=(List.range l.roads.length).find? fun e=>(fun(x:Road×Nat)=>on f x.2!=0&&(match(costs l all f l.places).getD x.1.from_ none,(costs l all f l.places).getD x.1.to_ none with
  |some c,some g=>c+x.1.price all (on f x.2)!=g
  |_,_=>true)) (rd l e,e):=rfl
 rw[e3,<-h3,<-J];cases hq:List.find? (fun(x:Road×Nat)=>decide (on f x.2<0)||(x.1.shut&&on f x.2!=0)) l.roads.zipIdx with
 |some x=>rfl
 |none=>
  show(match(List.range l.places).find? (fun(v:Nat)=>sumAt l f v !=due l v)with|some v=>some (2,v)|none=>_)=(match(List.range l.places).find? (KC l f)with|some v=>some (2,v)|none=>_);rw[show(fun(v:Nat)=>sumAt l f v !=due l v)=KC l f from rfl];cases(List.range l.places).find? (KC l f)with
  |some v=>rfl
  |none=>
   show Option.map _ _=Option.map _ (Option.map _ _);rw[Option.map_map];rfl
end RR
namespace RR
theorem call_plain{shape:Int->Option (Nat×Nat)}{p:Int}{r:List Int}{n:Nat}(h:shape p=some (n,0))(hl:n<=r.length):PyFlat.call shape (p::r)=some ([p::r.take n],r.drop n):=by
 show(match shape p with|none=>none|some (n,k)=>_)=_;rw[h];show(if r.length<n then none else _)=_;rw[Z8 (by omega)];rfl
theorem BW(shape:Int->Option (Nat×Nat)):∀f,PyFlat.calls shape f []=some []
 |0=>rfl
 |_+1=>rfl
theorem Ew{shape:Int->Option (Nat×Nat)}{f:Nat}{p:Int}{r:List Int}{cs:List (List (List Int))}(h:PyFlat.calls shape f (p::r)=some cs):∃f' c t tD,f=f'+1/\PyFlat.call shape (p::r)=some (c,t)/\PyFlat.calls shape f' t=some tD/\cs=c::tD:=by
 cases f with
 |zero=>cases h
 |succ f=>
  have h:(match PyFlat.call shape (p::r)with|none=>none|some (c,t)=>match PyFlat.calls shape f t with|none=>none|some cs=>some (c::cs))=some cs:=h;cases hc:PyFlat.call shape (p::r)with
  |none=>rw [hc]at h;cases h
  |some x=>
   obtain⟨c,t⟩:=x;rw[hc]at h;have h:(match PyFlat.calls shape f t with|none=>none|some cs=>some (c::cs))=some cs:=h;cases ht:PyFlat.calls shape f t with
   |none=>rw [ht]at h;cases h
   |some tD=>
    rw[ht]at h;cases h;exact⟨f,c,t,tD,Y,Y,ht,Y⟩
inductive Cut:List Int->List (List Int)->List Int->Prop where
 |plain (p:Int) (a t:List Int) (n:Nat):PyWqagde.shape p=some (n,0)->a.length=n->Cut (p::(a++t)) [p::a] t
 |judge (q:Int) (a t:List Int):Cut (20::q::(a.length:Int)::(a++t)) [[20,q],a] t
theorem Gz{p:Int}{n k:Nat}(h:PyWqagde.shape p=some (n,k)):k=0\/(p=20/\n=1/\k=1):=by
 unfold PyWqagde.shape at h;by_cases c:p=1
 ·rw[Z7 c]at h;cases h;exact Or.inl rfl
 rw[Z8 c]at h;clear c;by_cases c:p=2
 ·rw[Z7 c]at h;cases h;exact Or.inl rfl
 rw[Z8 c]at h;clear c;by_cases c:p=3
 ·rw[Z7 c]at h;cases h;exact Or.inl rfl
 rw[Z8 c]at h;clear c;by_cases c:p=4
 ·rw[Z7 c]at h;cases h;exact Or.inl rfl
 rw[Z8 c]at h;clear c;by_cases c:p=5
 ·rw[Z7 c]at h;cases h;exact Or.inl rfl
 rw[Z8 c]at h;clear c;by_cases c:p=6
 ·rw[Z7 c]at h;cases h;exact Or.inl rfl
 rw[Z8 c]at h;clear c;by_cases c:p=7
 ·rw[Z7 c]at h;cases h;exact Or.inl rfl
 rw[Z8 c]at h;clear c;by_cases c:p=8
 ·rw[Z7 c]at h;cases h;exact Or.inl rfl
 rw[Z8 c]at h;clear c;by_cases c:p=9
 ·rw[Z7 c]at h;cases h;exact Or.inl rfl
 rw[Z8 c]at h;clear c;by_cases c:p=10
 ·rw[Z7 c]at h;cases h;exact Or.inl rfl
 rw[Z8 c]at h;clear c;by_cases c:p=11
 ·rw[Z7 c]at h;cases h;exact Or.inl rfl
 rw[Z8 c]at h;clear c;by_cases c:p=12
 ·rw[Z7 c]at h;cases h;exact Or.inl rfl
 rw[Z8 c]at h;clear c;by_cases c:p=13
 ·rw[Z7 c]at h;cases h;exact Or.inl rfl
 rw[Z8 c]at h;clear c;by_cases c:p=14
 ·rw[Z7 c]at h;cases h;exact Or.inl rfl
 rw[Z8 c]at h;clear c;by_cases c:p=15
 ·rw[Z7 c]at h;cases h;exact Or.inl rfl
 rw[Z8 c]at h;clear c;by_cases c:p=16
 ·rw[Z7 c]at h;cases h;exact Or.inl rfl
 rw[Z8 c]at h;clear c;by_cases c:p=17
 ·rw[Z7 c]at h;cases h;exact Or.inl rfl
 rw[Z8 c]at h;clear c;by_cases c:p=18
 ·rw[Z7 c]at h;cases h;exact Or.inl rfl
 rw[Z8 c]at h;clear c;by_cases c:p=19
 ·rw[Z7 c]at h;cases h;exact Or.inl rfl
 rw[Z8 c]at h;clear c;by_cases c:p=20
 ·rw[Z7 c]at h;cases h;exact Or.inr ⟨c,Y,Y⟩
 rw[Z8 c]at h;clear c;cases h
theorem tw{l:List Int}{c:List (List Int)}{t:List Int}(h:PyFlat.call PyWqagde.shape l=some (c,t)):Cut l c t:=by
 cases l with
 |nil=>cases h
 |cons p r=>
  have h:(match PyWqagde.shape p with|none=>none|some (n,k)=>if r.length<n then none else match PyFlat.rows k (r.drop n)with|none=>none|some (xs,t)=>some ((p::r.take n)::xs,t))=some (c,t):=h;cases hs:PyWqagde.shape p with
  |none=>rw [hs]at h;cases h
  |some x=>
   obtain⟨n,k⟩:=x;rw[hs]at h;have h:(if r.length<n then none else match PyFlat.rows k (r.drop n)with|none=>none|some (xs,t)=>some ((p::r.take n)::xs,t))=some (c,t):=h;by_cases hl:r.length<n;·rw[Z7 hl]at h;cases h
   ·rw[Z8 hl]at h;rcases Gz hs with rfl|⟨rfl,rfl,rfl⟩
    ·have h:some ([p::r.take n],r.drop n)=some (c,t):=h;cases h;have:=Cut.plain p (r.take n) (r.drop n) n hs (by rw[XE];omega);rw[List.take_append_drop]at this;exact this
    ·cases r with
     |nil=>exact absurd (show([]:List Int).length<1 by decide) hl
     |cons q r=>
      have h:(match PyFlat.rows 1 r with|none=>none|some (xs,t)=>some ((20::[q])::xs,t))=some (c,t):=h;cases r with
      |nil=>cases h
      |cons m r=>
       have e:PyFlat.rows 1 (m::r)=if 0<=m/\m.toNat<=r.length then some ([r.take m.toNat],r.drop m.toNat)else none:=by
        show(match PyFlat.row (m::r)with|none=>none|some (x,s)=>match PyFlat.rows 0 s with|none=>none|some (xs,t)=>some (x::xs,t))=_;show(match(if 0<=m/\m.toNat<=r.length then some (r.take m.toNat,r.drop m.toNat)else none)with|none=>none|some (x,s)=>match PyFlat.rows 0 s with|none=>none|some (xs,t)=>some (x::xs,t))=_;by_cases g:0<=m/\m.toNat<=r.length;·rw[Z7 g,Z7 g];rfl
        ·rw[Z8 g,Z8 g]
       rw[e]at h;by_cases g:0<=m/\m.toNat<=r.length
       ·rw[Z7 g]at h;cases h;have:=Cut.judge q (r.take m.toNat) (r.drop m.toNat);rw[List.take_append_drop,XE]at this;have e2:((min m.toNat r.length:Nat):Int)=m:=by omega
        rw[e2]at this;exact this
       ·rw[Z8 g]at h;cases h
theorem zQ(c:List (List Int)):PyWqagde.whole c=c:=by
 unfold PyWqagde.whole;split<;>rfl
theorem BV(cs:List (List (List Int))):cs.map PyWqagde.whole=cs:=by
 induction cs with
 |nil=>rfl
 |cons c cs ih=>rw [Y7,zQ,ih]
end RR
namespace RR
open RhRoads RoadSpec
theorem Oo(p q:Nat):qr (p:Int) (q:Int)=(p:Rat)/(q:Rat):=by
 unfold qr;rw[XJ,XJ]
theorem wR{p q:Nat}(hq:0<q)(eU:q<=1000000)(hp:p<=1000000):0<=(p:Rat)/(q:Rat)/\((p:Rat)/(q:Rat)).num<=1000000/\((p:Rat)/(q:Rat)).den<=1000000:=by
 have h0:(0:Int)<(q:Int):=by omega
 refine⟨RF (VF p) (natCast_pos hq),?_,?_⟩
 ·rw[<-Oo,IK h0 rfl];have h2:=Int.ediv_le_self (b:=((Int.gcd (p:Int) (q:Int):Nat):Int)) (show(0:Int)<=(p:Int) by omega);omega
 ·have:((((p:Rat)/(q:Rat)).den:Nat):Int)<=1000000:=by
   rw[<-Oo,LX h0 rfl];have h2:=Int.ediv_le_self (b:=((Int.gcd (p:Int) (q:Int):Nat):Int)) (show(0:Int)<=(q:Int) by omega);omega
  omega
theorem Zk.one{l:Land}(h:Zk l)(e:Nat)(f:Road->Road)(hf:∀r,UI l.places r->UI l.places (f r)):Zk (RoadSpec.one l e f):=by
 refine⟨h.p2,h.p6,h.s,h.t,h.st,h.u1,h.u2,?_,fun r hr=>?_⟩
 ·show(l.roads.modify e f).length<=9;rw[List.length_modify];exact h.r9
 ·have hr:r∈l.roads.modify e f:=hr;obtain⟨i,hi,rfl⟩:=X8.mp hr;rw[List.getElem_modify];rw[List.length_modify]at hi;have:=h.rs _ (W6 hi);show UI l.places _;split;·exact hf _ this
  ·exact this
theorem Eu{l:Land}(h:Zk l)(c:Call):Zk (changed l c).1:=by
 cases c with
 |road u v a b=>
  simp only[changed];split;·exact h
  ·split;·exact h
   ·split;·exact h
    ·rename_i J h2 h3;refine⟨h.p2,h.p6,h.s,h.t,h.st,h.u1,h.u2,?_,fun r hr=>?_⟩
     ·show(l.roads++[_]).length<=9;rw[ZI];have h3:¬9<=l.roads.length:=h3;simp;omega
     ·have hr:r∈l.roads++[_]:=hr;rcases Zm.mp hr with hr|hr;·exact h.rs r hr
      ·rw[Zp]at hr;subst hr;have h2:¬(1000<a\/b=0\/1000<b):=h2;exact⟨by show u<l.places;omega,by show v<l.places;omega,by show u≠v;omega,by show a<=1000;omega,by show 1<=b;omega,by show b<=1000;omega,by show(0:Rat)<=0;exact Ym,by show(0:Rat).num<=1000000;decide,by show(0:Rat).den<=1000000;decide⟩
 |change e a b=>
  simp only[changed];split;·exact h
  ·split;·exact h
   ·rename_i J h2;have h2:¬(1000<a\/b=0\/1000<b):=h2;exact h.one e _ fun r hr=>⟨hr.f,hr.t,hr.ne,by show a<=1000;omega,by show 1<=b;omega,by show b<=1000;omega,hr.tn,hr.n4,hr.td⟩
 |toll e p q=>
  simp only[changed];split;·exact h
  ·split;·exact h
   ·rename_i J h2;have h2:¬(q=0\/1000000<q\/1000000<p):=h2;obtain⟨t1,t2,t3⟩:=wR (p:=p) (q:=q) (by omega) (by omega) (by omega);exact h.one e _ fun r hr=>⟨hr.f,hr.t,hr.ne,hr.base,hr.s1,hr.s2,t1,t2,t3⟩
 |shut e z=>
  simp only[changed];split;·exact h
  ·split;·exact h
   ·exact h.one e _ fun r hr=>⟨hr.f,hr.t,hr.ne,hr.base,hr.s1,hr.s2,hr.tn,hr.n4,hr.td⟩
 |demand d=>
  simp only[changed];split;·exact h
  ·rename_i J;have J:¬(d=0\/1000<d):=J;exact⟨h.p2,h.p6,h.s,h.t,h.st,by show 1<=d;omega,by show d<=1000;omega,h.r9,h.rs⟩
 |_=>exact h
theorem zP{l:Land}(h:Zk l){d:Nat}(J:1<=d)(h2:d<=1000):Zk {l with units:=d}:=
 ⟨h.p2,h.p6,h.s,h.t,h.st,J,h2,h.r9,h.rs⟩
theorem Df{l:Land}(h:Zk l)(e:Nat):Zk (RoadSpec.one l e fun(r:Road)=>{r with shut:=true}):=
 h.one e _ fun r hr=>⟨hr.f,hr.t,hr.ne,hr.base,hr.s1,hr.s2,hr.tn,hr.n4,hr.td⟩
theorem wQ{s:State}(h:∀l,s=some l->Zk l)(c:Call):∀l,(RoadSpec.step s c).1=some l->Zk l:=by
 intro l hl;cases c with
 |land n a t d=>
  have hl:(if n<2\/6<n\/n<=a\/n<=t\/a=t\/d=0\/MOST<d then(s,no 1)else(some ⟨n,a,t,d,[]⟩,says 0)).1=some l:=hl;by_cases q:n<2\/6<n\/n<=a\/n<=t\/a=t\/d=0\/MOST<d
  ·rw[Z7 q]at hl;exact h l hl
  ·rw[Z8 q]at hl;have hl:some (⟨n,a,t,d,[]⟩:Land)=some l:=hl;cases hl;have q:¬(n<2\/6<n\/n<=a\/n<=t\/a=t\/d=0\/1000<d):=q;exact⟨by show 2<=n;omega,by show n<=6;omega,by show a<n;omega,by show t<n;omega,by show a≠t;omega,by show 1<=d;omega,by show d<=1000;omega,by show 0<=9;omega,fun r hr=>by cases hr⟩
 |_=>
  cases s with
  |none=>cases hl
  |some l0=>
   have hl:some (changed l0 _).1=some l:=hl;cases hl;exact Eu (h l0 Y) _
end RR
namespace RR
def setM(M:Nat->Nat->Int)(v j:Nat)(z:Int):Nat->Nat->Int:=fun a b=>if a=v/\b=j then z else M a b
def Y8.dl(P:Y8)(S:Int)(e v u:Nat):Int:=if u=P.n then S/(P.lk e).slope*P.ic v e*(P.lk e).cost else S/(P.lk e).slope*P.ic v e*P.ic u e
theorem k7{P:Y8}(ok:P.Ok){e:Nat}(he:e<P.links.length)(S:Int)(M M1 M2 M3 M4 M5 M6:Nat->Nat->Int)(J:M1=setM M (P.lk e).tail (P.lk e).tail (M (P.lk e).tail (P.lk e).tail+S/(P.lk e).slope))(h2:M2=setM M1 (P.lk e).head (P.lk e).head (M1 (P.lk e).head (P.lk e).head+S/(P.lk e).slope))(h3:M3=setM M2 (P.lk e).tail (P.lk e).head (M2 (P.lk e).tail (P.lk e).head-S/(P.lk e).slope))(h4:M4=setM M3 (P.lk e).head (P.lk e).tail (M3 (P.lk e).head (P.lk e).tail-S/(P.lk e).slope))(h5:M5=setM M4 (P.lk e).tail P.n (M4 (P.lk e).tail P.n-S/(P.lk e).slope*(P.lk e).cost))(h6:M6=setM M5 (P.lk e).head P.n (M5 (P.lk e).head P.n+S/(P.lk e).slope*(P.lk e).cost)):∀v u,M6 v u=M v u+P.dl S e v u:=by
 have a1:=ok.lt e he;have a2:=ok.lh e he;have a3:=ok.ne e he;intro v u;unfold Y8.dl Y8.ic;generalize(P.lk e).tail=t at*;generalize(P.lk e).head=h at*;generalize S/(P.lk e).slope=w at*;generalize(P.lk e).cost=c at*;generalize P.n=n at*;subst J h2 h3 h4 h5 h6;have t1:¬t=n:=by omega
 have t2:¬h=n:=by omega
 have t3:¬h=t:=fun q=>a3 q.symm;have t4:¬n=t:=by omega
 have t5:¬n=h:=by omega
 unfold setM;by_cases v1:v=h
 ·subst v1;by_cases u1:u=n;·subst u1;simp[a3,t1,t2,t3,t4,t5]
  ·by_cases u2:u=v;·subst u2;simp[a3,t1,t2,t3,t4,t5]
   ·by_cases u3:u=t;·subst u3;simp[a3,t1,t2,t3,t4,t5];omega
    ·have u4:¬v=u:=fun q=>u2 q.symm;have u5:¬t=u:=fun q=>u3 q.symm;simp[a3,t1,t2,t3,t4,t5,u1,u2,u3,u4,u5]
 ·have v3:¬h=v:=fun q=>v1 q.symm;by_cases v2:v=t
  ·subst v2;by_cases u1:u=n;·subst u1;simp[a3,t1,t2,t3,t4,t5];grind
   ·by_cases u2:u=h;·subst u2;simp[a3,t1,t2,t3,t4,t5];omega
    ·by_cases u3:u=v;·subst u3;simp[a3,t1,t2,t3,t4,t5]
     ·have u4:¬v=u:=fun q=>u3 q.symm;have u5:¬h=u:=fun q=>u2 q.symm;simp[a3,t1,t2,t3,t4,t5,u1,u2,u3,u4,u5]
  ·have v4:¬t=v:=fun q=>v2 q.symm;simp[v1,v2,v3,v4]
def Y8.UD(P:Y8)(U:List Nat)(S:Int)(v u:Nat):Int:=RD U (fun e=>P.dl S e v u)
theorem BU(P:Y8)(U:List Nat)(e:Nat)(S:Int)(v u:Nat):P.UD (U++[e]) S v u=P.UD U S v u+P.dl S e v u:=BZ U e _
theorem zO(P:Y8)(U:List Nat)(S:Int)(v u:Nat):P.raw U S v u=(if u=P.n/\v=P.t then S*P.units else 0)+P.UD U S v u:=by
 unfold Y8.raw Y8.UD Y8.dl;by_cases q:u=P.n
 ·subst q;simp
 ·simp[q]
theorem wO{U:List Nat}{f:Nat->Int}{b:Nat}:∀k,U.length<=2^k->(∀e,e∈U->Bd b (f e))->Bd (b+k) (RD U f):=by
 have key:∀(U:List Nat),(∀e,e∈U->Bd b (f e))->(RD U f).natAbs<=U.length*(2^b-1):=by
  intro U;induction U with
  |nil=>intro _;simp[RD]
  |cons e U ih=>
   intro h;have J:=ih fun x hx=>h x (by simp[hx]);have h2:=h e (by simp);unfold Bd at h2;unfold RD at J⊢;rw[Y7,TL,Zj,Nat.add_mul,Nat.one_mul];have:=Int.natAbs_add_le (f e) (U.map f).sum;omega
 intro k hk h;have J:=key U h;unfold Bd;have p1:0<2^b:=Nat.pow_pos (by decide);have p2:0<2^k:=Nat.pow_pos (by decide);have h2:U.length*(2^b-1)<=2^k*(2^b-1):=Nat.mul_le_mul_right _ hk;have h3:2^k*(2^b-1)<2^(b+k):=by
  rw[Nat.pow_add,Nat.mul_comm (2^b)];exact Nat.mul_lt_mul_of_pos_left (by omega) p2
 omega
theorem zN(P:Y8)(v e:Nat):Bd 1 (P.ic v e):=by
 unfold Y8.ic Bd;split;·decide
 ·split<;>decide
structure Y8.Sz(P:Y8):Prop where
 n6:P.n<=6
 m9:P.links.length<=9
 c:∀e,e<P.links.length->Bd 300 (P.lk e).cost
 b:∀e,e<P.links.length->Bd 11 (P.lk e).slope
 u:Bd 300 P.units
theorem tu{P:Y8}(Z':P.Sz){U:List Nat}(hU:∀e,e∈U->e<P.links.length)(h9:U.length<=9){S:Int}(hS:Bd 100 S)(v u:Nat):Bd 410 (P.raw U S v u):=by
 rw[zO];have J:Bd 405 (P.UD U S v u):=by
  refine wO 4 (by omega) fun e he=>?_;unfold Y8.dl;split;·exact((hS.div.mul (zN P v e)).mul (Z'.c e (hU e he))).mono (by omega)
  ·exact((hS.div.mul (zN P v e)).mul (zN P u e)).mono (by omega)
 have h2:Bd 405 (if u=P.n/\v=P.t then S*P.units else 0):=by
  split;·exact(hS.mul Z'.u).mono (by omega)
  ·exact Bd.zero _
 exact(h2.add J).mono (by omega)
def IH(P:Y8)(U:List Nat):Int:=U.foldl (fun g e=>((Int.lcm g (P.lk e).slope:Nat):Int)) 1
theorem JL(P:Y8)(U:List Nat)(e:Nat):IH P (U++[e])=((Int.lcm (IH P U) (P.lk e).slope:Nat):Int):=by
 unfold IH;rw[List.foldl_append];rfl
theorem zM{a b:Int}{m n:Nat}(ha:0<a)(O:0<b)(hm:Bd m a)(hn:Bd n b):0<((Int.lcm a b:Nat):Int)/\a∣((Int.lcm a b:Nat):Int)/\b∣((Int.lcm a b:Nat):Int)/\Bd (m+n) ((Int.lcm a b:Nat):Int):=by
 refine⟨?_,Int.dvd_lcm_left ..,Int.dvd_lcm_right ..,?_⟩
 ·have:=Int.lcm_pos (m:=a) (n:=b) (by omega) (by omega);omega
 ·rw[<-GI ha O];exact(hm.div).mul hn
theorem De{P:Y8}(ok:P.Ok)(Z':P.Sz):∀(U:List Nat),(∀e,e∈U->e<P.links.length)->0<IH P U/\(∀e,e∈U->(P.lk e).slope∣IH P U)/\Bd (1+11*U.length) (IH P U):=by
 intro U;generalize hn:U.length=n;induction n generalizing U with
 |zero=>
  intro _;obtain rfl:=XF.mp hn;exact⟨Int.one_pos,fun e he=>(by cases he),Bd.one (by omega)⟩
 |succ n ih=>
  intro hU;have R7:U≠[]:=fun q=>by subst q;cases hn
  obtain⟨V,e,rfl⟩:∃V e,U=V++[e]:=⟨U.dropLast,U.getLast R7,(List.dropLast_concat_getLast R7).symm⟩;rw[ZI]at hn;have hn:V.length+1=n+1:=hn;obtain⟨J,h2,h3⟩:=ih V (by omega) fun x hx=>hU x (by simp[hx]);have he:=hU e (by simp);obtain⟨l1,l2,l3,l4⟩:=zM J (ok.b e he) h3 (Z'.b e he);rw[JL];refine⟨l1,fun x hx=>?_,l4.mono (by omega)⟩;rcases Zm.mp hx with hx|hx;·exact Int.dvd_trans (h2 x hx) l2
  ·rw[Zp]at hx;subst hx;exact l3
end RR
namespace RR
def Y8.MX(P:Y8)(x:Nat->Rat):Net:={P.X3 with op:=fun e=>decide (x e≠0)}
theorem Y8.Ok.MX{P:Y8}(ok:P.Ok)(x:Nat->Rat):(P.MX x).Ok:=⟨ok.X3.hs,ok.X3.ht,ok.X3.st,ok.X3.hd,ok.X3.Bc,ok.X3.Am,ok.X3.ne,ok.X3.hc,ok.X3.O⟩
structure Carry(P:Y8)(x h:Nat->Rat)(w:Int)(hg:Nat->Option Int)(r:Nat)(D:List Nat):Prop where
 val:∀v z,hg v=some z->(z:Rat)=h v*(w:Rat)
 Gy:∀v z,hg v=some z->P.X3.GF x v
 comp:∀j v c,j<=r->(P.MX x).Walk (fun _=>0) j v c->∃z,hg v=some z
 part:∀e,e∈D->∀j c,j<=r->(P.MX x).Walk (fun _=>0) j (P.lk e).tail c->∃z,hg (P.lk e).head=some z
section
variable{P:Y8}{h:Nat->Rat}{w:Int}{hg:Nat->Option Int}{r:Nat}{D ys:List Int}
theorem Carry.start{x:Nat->Rat}(G:P.X3.Good x h):Carry P x h w (fun v=>if v=P.s then some 0 else none) 0 []where
 val:=fun v z e=>by
  by_cases q:v=P.s
  ·rw[Z7 q]at e;cases e;have:h P.s=0:=G.hs;rw[q,this];show(0:Rat)=0*_;grind
  ·rw[Z8 q]at e;cases e
 Gy:=fun v z e=>by
  by_cases q:v=P.s;·exact .inl q
  ·rw[Z8 q]at e;cases e
 comp:=fun j v c hj hw=>by
  obtain rfl:j=0:=by omega
  obtain⟨rfl,_⟩:=hw.zero;exact⟨0,Z7 Y⟩
 part:=fun e he=>by cases he
theorem Carry.keep{x:Nat->Rat}{D:List Nat}(C:Carry P x h w hg r D){e:Nat}(k:hg (P.lk e).tail=none\/∃z,hg (P.lk e).head=some z):Carry P x h w hg r (D++[e])where
 val:=C.val
 Gy:=C.Gy
 comp:=C.comp
 part:=fun f hf j c hj hw=>by
  rcases Zm.mp hf with hf|hf;·exact C.part f hf j c hj hw
  ·rw[Zp]at hf;subst hf;rcases k with k|k
   ·obtain⟨z,hz⟩:=C.comp j _ c hj hw;rw[k]at hz;cases hz
   ·exact k
theorem Carry.put{ys:List Int}{D:List Nat}(ok:P.Ok)(w0:0<w)(G:P.X3.Good (ld ys w) h)(C:Carry P (ld ys w) h w hg r D){e:Nat}(he:e<P.links.length)(hx:ys.getD e 0≠0){z:Int}(hz:hg (P.lk e).tail=some z)(hn:hg (P.lk e).head=none):Carry P (ld ys w) h w (QN hg (P.lk e).head (z+(P.lk e).cost*w+(P.lk e).slope*ys.getD e 0)) r (D++[e])where
 val:=fun v y hy=>by
  unfold QN at hy;by_cases q:v=(P.lk e).head
  ·rw[Z7 q]at hy;cases hy;have x0:ld ys w e≠0:=fun q=>hx ((Uk w0 e).mp q);have on:=G.on e he x0;have on:h (P.lk e).head-h (P.lk e).tail=((P.lk e).cost:Rat)+((P.lk e).slope:Rat)*ld ys w e:=on;have hv:=C.val _ z hz;have lm:=UE (ys:=ys) w0 e;rw[q,XM,XM,Zq,Zq,hv,<-lm];generalize h (P.lk e).head=a at*;generalize h (P.lk e).tail=b at*;generalize ld ys w e=y at*;clear hz hn hx x0 G C;grind
  ·rw[Z8 q]at hy;exact C.val v y hy
 Gy:=fun v y hy=>by
  unfold QN at hy;by_cases q:v=(P.lk e).head;·exact .inr ⟨e,he,fun q=>hx ((Uk w0 e).mp q),.inr q.symm⟩
  ·rw[Z8 q]at hy;exact C.Gy v y hy
 comp:=fun j v c hj hw=>by
  obtain⟨y,hy⟩:=C.comp j v c hj hw;unfold QN;by_cases q:v=(P.lk e).head;·exact⟨_,Z7 q⟩
  ·exact⟨y,by rw[Z8 q];exact hy⟩
 part:=fun f hf j c hj hw=>by
  unfold QN;by_cases q:(P.lk f).head=(P.lk e).head;·exact⟨_,Z7 q⟩
  ·rw[Z8 q];rcases Zm.mp hf with hf|hf;·exact C.part f hf j c hj hw
   ·rw[Zp]at hf;subst hf;exact absurd rfl q
theorem Carry.next{x:Nat->Rat}{D:List Nat}(C:Carry P x h w hg r D)(all:∀e,e<P.links.length->x e≠0->e∈D):Carry P x h w hg (r+1) []where
 val:=C.val
 Gy:=C.Gy
 comp:=fun j v c hj hw=>by
  by_cases q:j<=r;·exact C.comp j v c q hw
  ·obtain rfl:j=r+1:=by omega
   obtain⟨e,c',he,ho,rfl,wZ,rfl⟩:=hw.cases;exact C.part e (all e he (ZG ho)) r c' (ZM _) wZ
 part:=fun e he=>by cases he
theorem Carry.done{x:Nat->Rat}(ok:P.Ok)(G:P.X3.Good x h)(C:Carry P x h w hg P.n []):nX P x h w hg where
 val:=C.val
 uY:=fun v=>by
  constructor
  ·intro tv;have reach:∀v,(P.MX x).Reach v->∃z,hg v=some z:=fun v hv=>by
    obtain⟨k,c,hw⟩:=hv.walk (fun _=>0);obtain⟨k',c',hk,_,wZ⟩:=hw.short (ok.MX x) fun _ _ _=>Ym;exact C.comp k' v c' (by have:k'<P.n:=hk;omega) wZ
   have go:∀e,e<P.X3.m->x e≠0->(P.MX x).Reach (P.X3.fr e):=Net.NW ok.X3 G.VE (G.rise ok.X3) (R:=(P.MX x).Reach) (.s (N:=P.MX x)) fun e he hx hr=>.go (N:=P.MX x) e he (ZR hx) hr;rcases tv with rfl|⟨e,he,hx,q|q⟩;·exact reach _ (.s (N:=P.MX x))
   ·rw[<-q];exact reach _ (go e he hx)
   ·rw[<-q];exact reach _ (.go (N:=P.MX x) e he (ZR hx) (go e he hx))
  ·rintro⟨z,hz⟩;exact C.Gy v z hz
end
def Y8.YL(P:Y8)(w C:Int)(hg:Nat->Option Int):Net where
 n:=P.n+1
 m:=P.links.length+P.n
 fr:=fun e=>if e<P.links.length then(P.lk e).tail else P.n
 to:=fun e=>if e<P.links.length then(P.lk e).head else e-P.links.length
 c:=fun e=>if e<P.links.length then(((P.lk e).cost*w:Int):Rat)else(((hg (e-P.links.length)).getD 0+C:Int):Rat)
 b:=fun _=>1
 op:=fun e=>if e<P.links.length then(hg (P.lk e).head).isNone else(hg (e-P.links.length)).isSome
 s:=P.n
 t:=0
 d:=1
def V2(n:Nat)(C:Int)(lab:Nat->Option Int):Nat->Option Rat:=fun v=>if v=n then some 0 else(lab v).map fun z=>((z+C:Int):Rat)
structure Tw(P:Y8)(w C:Int)(hg:Nat->Option Int):Prop where
 w0:0<w
 lt:∀v z,hg v=some z->v<P.n
 nn:∀v z,hg v=some z->0<=z+C
theorem k6{P:Y8}{w C:Int}{hg:Nat->Option Int}(ok:P.Ok)(Z9:Tw P w C hg):∀e,e<(P.YL w C hg).m->(P.YL w C hg).op e=true->0<=(P.YL w C hg).c e:=fun e he ho=>by
 show 0<=(if e<P.links.length then(((P.lk e).cost*w:Int):Rat)else _);by_cases q:e<P.links.length
 ·rw[Z7 q];exact SV (Int.mul_nonneg (ok.c e q) (S6 Z9.w0))
 ·rw[Z8 q];have ho:(if e<P.links.length then(hg (P.lk e).head).isNone else(hg (e-P.links.length)).isSome)=true:=ho;rw[Z8 q]at ho;obtain⟨z,hz⟩:=Option.isSome_iff_exists.mp ho;rw[hz];exact SV (Z9.nn _ z hz)
theorem k5{P:Y8}{w C:Int}{hg:Nat->Option Int}(ok:P.Ok):∀e,e<(P.YL w C hg).m->(P.YL w C hg).fr e<(P.YL w C hg).n/\(P.YL w C hg).to e<(P.YL w C hg).n/\(P.YL w C hg).fr e≠(P.YL w C hg).to e:=fun e he=>by
 show(if e<P.links.length then(P.lk e).tail else P.n)<P.n+1/\(if e<P.links.length then(P.lk e).head else e-P.links.length)<P.n+1/\(if e<P.links.length then(P.lk e).tail else P.n)≠(if e<P.links.length then(P.lk e).head else e-P.links.length);have he:e<P.links.length+P.n:=he;by_cases q:e<P.links.length
 ·rw[Z7 q,Z7 q];have:=ok.lt e q;have:=ok.lh e q;exact⟨by omega,by omega,ok.ne e q⟩
 ·rw[Z8 q,Z8 q];exact⟨by omega,by omega,by omega⟩
section
variable{P:Y8}{w C:Int}{hg lab:Nat->Option Int}{r:Nat}
theorem tq(Z9:Tw P w C hg):BF (P.YL w C hg) (P.YL w C hg).c (V2 P.n C hg) 0 0 where
 sound:=fun v c hv=>by
  unfold V2 at hv;by_cases q:v=P.n
  ·rw[Z7 q]at hv;cases hv;subst q;exact⟨0,.nil _⟩
  ·rw[Z8 q]at hv;obtain⟨z,hz,rfl⟩:=UL.mp hv;have hl:=Z9.lt v z hz;have nq:¬P.links.length+v<P.links.length:=by omega
   have e1:P.links.length+v-P.links.length=v:=by omega
   have wk:=(Net.Walk.nil (N:=P.YL w C hg) (P.YL w C hg).c);have f1:(P.YL w C hg).fr (P.links.length+v)=(P.YL w C hg).s:=by
    show(if P.links.length+v<P.links.length then _ else P.n)=P.n;rw[Z8 nq]
   have f2:(P.YL w C hg).to (P.links.length+v)=v:=by
    show(if P.links.length+v<P.links.length then _ else P.links.length+v-P.links.length)=v;rw[Z8 nq,e1]
   have f3:(P.YL w C hg).c (P.links.length+v)=((z+C:Int):Rat):=by
    show(if P.links.length+v<P.links.length then _ else(((hg (P.links.length+v-P.links.length)).getD 0+C:Int):Rat))=_;rw[Z8 nq,e1,hz];rfl
   rw[<-f1]at wk;have:=wk.snoc (show P.links.length+v<P.links.length+P.n by omega) (by
    show(if P.links.length+v<P.links.length then _ else(hg (P.links.length+v-P.links.length)).isSome)=true;rw[Z8 nq,e1,hz];rfl)
   rw[f2,f3]at this;refine⟨1,?_⟩;have z0:(0:Rat)+((z+C:Int):Rat)=((z+C:Int):Rat):=by grind
   rw[z0]at this;exact this
 comp:=fun j v c hj hw=>by
  obtain rfl:j=0:=by omega
  obtain⟨rfl,rfl⟩:=hw.zero;exact⟨0,Ym,Z7 Y⟩
 part:=fun e he=>by omega
theorem SS{v:Nat}{z:Int}(hv:v≠P.n)(h:lab v=some z):V2 P.n C lab v=some (((z+C:Int)):Rat):=by
 unfold V2;rw[Z8 hv,h];rfl
theorem IG{v:Nat}(hv:v≠P.n)(h:lab v=none):V2 P.n C lab v=none:=by
 unfold V2;rw[Z8 hv,h];rfl
theorem uV(ok:P.Ok){i:Nat}(hi:i<P.links.length)(B:BF (P.YL w C hg) (P.YL w C hg).c (V2 P.n C lab) r i)(h:lab (P.lk i).tail=none\/∃z,hg (P.lk i).head=some z):BF (P.YL w C hg) (P.YL w C hg).c (V2 P.n C lab) r (i+1):=by
 refine B.skip ?_;rcases h with h|⟨z,h⟩
 ·right;show V2 P.n C lab (if i<P.links.length then(P.lk i).tail else P.n)=none;rw[Z7 hi];have:=ok.lt i hi;exact IG (by omega) h
 ·left;show(if i<P.links.length then(hg (P.lk i).head).isNone else _)=false;rw[Z7 hi,h];rfl
theorem pR(ok:P.Ok){i:Nat}(hi:i<P.links.length)(B:BF (P.YL w C hg) (P.YL w C hg).c (V2 P.n C lab) r i){a b:Int}(ha:lab (P.lk i).tail=some a)(O:lab (P.lk i).head=some b)(h:b<=a+(P.lk i).cost*w):BF (P.YL w C hg) (P.YL w C hg).c (V2 P.n C lab) r (i+1):=by
 have l1:=ok.lt i hi;have l2:=ok.lh i hi;refine B.keep (c:=((a+C:Int):Rat)) (d:=((b+C:Int):Rat)) ?_ ?_ ?_
 ·show V2 P.n C lab (if i<P.links.length then(P.lk i).tail else P.n)=_;rw[Z7 hi];exact SS (by omega) ha
 ·show V2 P.n C lab (if i<P.links.length then(P.lk i).head else i-P.links.length)=_;rw[Z7 hi];exact SS (by omega) O
 ·show _<=_+(if i<P.links.length then(((P.lk i).cost*w:Int):Rat)else _);rw[Z7 hi,<-XM];exact Q9.mpr (by omega)
theorem kZ(ok:P.Ok){i:Nat}(hi:i<P.links.length)(B:BF (P.YL w C hg) (P.YL w C hg).c (V2 P.n C lab) r i){a:Int}(ha:lab (P.lk i).tail=some a)(hh:hg (P.lk i).head=none)(h:∀b,lab (P.lk i).head=some b->a+(P.lk i).cost*w<b):BF (P.YL w C hg) (P.YL w C hg).c (V2 P.n C (QN lab (P.lk i).head (a+(P.lk i).cost*w))) r (i+1):=by
 have l1:=ok.lt i hi;have l2:=ok.lh i hi;have et:(P.YL w C hg).to i=(P.lk i).head:=by
  show(if i<P.links.length then(P.lk i).head else i-P.links.length)=_;rw[Z7 hi]
 have ew:(P.YL w C hg).c i=(((P.lk i).cost*w:Int):Rat):=by
  show(if i<P.links.length then(((P.lk i).cost*w:Int):Rat)else _)=_;rw[Z7 hi]
 have:=B.put (show i<P.links.length+P.n by omega) (by
  show(if i<P.links.length then(hg (P.lk i).head).isNone else _)=true;rw[Z7 hi,hh];rfl) (c:=((a+C:Int):Rat)) (by
  show V2 P.n C lab (if i<P.links.length then(P.lk i).tail else P.n)=_;rw[Z7 hi];exact SS (by omega) ha) (fun d hd=>by
  rw[et]at hd;cases O:lab (P.lk i).head with
  |none=>rw [IG (by omega) O]at hd;cases hd
  |some b=>
   rw[SS (by omega) O]at hd;cases hd;rw[ew,<-XM];exact Q8.mpr (by have:=h b O;omega))
 rw[et,ew,<-XM]at this;refine(show RR.put (V2 P.n C lab) (P.lk i).head ((a+C+(P.lk i).cost*w:Int):Rat)=V2 P.n C (QN lab (P.lk i).head (a+(P.lk i).cost*w))from ?_)▸this;funext u;unfold RR.put V2 QN;by_cases q:u=(P.lk i).head
 ·rw[Z7 q,Z8 (by omega),Z7 q];show some _=some _;congr 2;omega
 ·rw[Z8 q];by_cases z:u=P.n;·rw[Z7 z,Z7 z]
  ·rw[Z8 z,Z8 z,Z8 q]
theorem tm(fix:∀v z,hg v=some z->lab v=some z)(Z9:Tw P w C hg)(B:BF (P.YL w C hg) (P.YL w C hg).c (V2 P.n C lab) r P.links.length):BF (P.YL w C hg) (P.YL w C hg).c (V2 P.n C lab) (r+1) 0:=by
 refine BF.next ?_;show BF _ _ _ r (P.links.length+P.n);have:∀k,BF (P.YL w C hg) (P.YL w C hg).c (V2 P.n C lab) r (P.links.length+k):=by
  intro k;induction k with
  |zero=>exact B
  |succ k ih=>
   have nq:¬P.links.length+k<P.links.length:=by omega
   have e1:P.links.length+k-P.links.length=k:=by omega
   show BF _ _ _ r (P.links.length+k+1);cases hk:hg k with
   |none=>
    refine ih.skip (.inl ?_);show(if P.links.length+k<P.links.length then _ else(hg (P.links.length+k-P.links.length)).isSome)=false;rw[Z8 nq,e1,hk];rfl
   |some z=>
    have hl:=Z9.lt k z hk;refine ih.keep (c:=0) (d:=((z+C:Int):Rat)) ?_ ?_ ?_
    ·show V2 P.n C lab (if P.links.length+k<P.links.length then _ else P.n)=_;rw[Z8 nq];exact Z7 rfl
    ·show V2 P.n C lab (if P.links.length+k<P.links.length then _ else P.links.length+k-P.links.length)=_;rw[Z8 nq,e1];exact SS (by omega) (fix k z hk)
    ·show _<=0+(if P.links.length+k<P.links.length then _ else(((hg (P.links.length+k-P.links.length)).getD 0+C:Int):Rat));rw[Z8 nq,e1,hk];show _<=0+((z+C:Int):Rat);grind
 exact this P.n
theorem pQ(ok:P.Ok)(Z9:Tw P w C hg){i:Nat}(hi:i<P.links.length)(B:BF (P.YL w C hg) (P.YL w C hg).c (V2 P.n C lab) r i)(hr:P.n+1<=r){a:Int}(ha:lab (P.lk i).tail=some a)(hh:hg (P.lk i).head=none):∃b,lab (P.lk i).head=some b/\b<=a+(P.lk i).cost*w:=by
 have l1:=ok.lt i hi;have l2:=ok.lh i hi;have n0:0<P.n:=by omega
 have aM:(P.YL w C hg).n<=r:=hr;obtain⟨j,hj⟩:=B.sound ((P.YL w C hg).fr i) ((a+C:Int):Rat) (by
  show V2 P.n C lab (if i<P.links.length then(P.lk i).tail else P.n)=_;rw[Z7 hi];exact SS (by omega) ha)
 have key:(⟨(P.YL w C hg).n,(P.YL w C hg).m,(P.YL w C hg).fr,(P.YL w C hg).to,fun _=>0,fun _=>1,(P.YL w C hg).op,(P.YL w C hg).s,(P.YL w C hg).t,1⟩:Net).Ok:=
  ⟨V8 _,by show 0<P.n+1;omega,by show P.n≠0;omega,by show(0:Rat)<1;grind,fun e he=>(k5 (w:=w) (C:=C) (hg:=hg) ok e he).1,fun e he=>(k5 (w:=w) (C:=C) (hg:=hg) ok e he).2.1,fun e he=>(k5 (w:=w) (C:=C) (hg:=hg) ok e he).2.2,fun e he=>Ym,fun e he=>by show(0:Rat)<1;grind⟩
 have kY:(P.YL w C hg).op i=true:=by
  show(if i<P.links.length then(hg (P.lk i).head).isNone else _)=true;rw[Z7 hi,hh];rfl
 have wk:=hj.snoc (show i<P.links.length+P.n by omega) kY;have eT:(⟨(P.YL w C hg).n,(P.YL w C hg).m,(P.YL w C hg).fr,(P.YL w C hg).to,fun _=>0,fun _=>1,(P.YL w C hg).op,(P.YL w C hg).s,(P.YL w C hg).t,1⟩:Net).Walk (P.YL w C hg).c (j+1) ((P.YL w C hg).to i) (((a+C:Int):Rat)+(P.YL w C hg).c i):=by
  obtain⟨es,J,h2,h3⟩:=wk;refine⟨es,fun k hk=>?_,?_,h3⟩
  ·obtain⟨a1,a2,a3⟩:=J k hk;refine⟨a1,a2,?_⟩;rw[a3];cases k<;>rfl
  ·rw[<-h2];rfl
 obtain⟨k,c',hk,hle,hs⟩:=eT.short key (fun e he ho=>k6 ok Z9 e he ho);have om:(P.YL w C hg).Walk (P.YL w C hg).c k ((P.YL w C hg).to i) c':=by
  obtain⟨es,J,h2,h3⟩:=hs;refine⟨es,fun k hk=>?_,?_,h3⟩
  ·obtain⟨a1,a2,a3⟩:=J k hk;refine⟨a1,a2,?_⟩;rw[a3];cases k<;>rfl
  ·rw[<-h2];cases k<;>rfl
 obtain⟨d,J,h2⟩:=B.comp k _ c' (by have:k<P.n+1:=hk;omega) om;have et:(P.YL w C hg).to i=(P.lk i).head:=by
  show(if i<P.links.length then(P.lk i).head else i-P.links.length)=_;rw[Z7 hi]
 have ew:(P.YL w C hg).c i=(((P.lk i).cost*w:Int):Rat):=by
  show(if i<P.links.length then(((P.lk i).cost*w:Int):Rat)else _)=_;rw[Z7 hi]
 rw[et]at h2;cases O:lab (P.lk i).head with
 |none=>rw [IG (by omega) O]at h2;cases h2
 |some b=>
  rw[SS (by omega) O]at h2;cases h2;refine⟨b,Y,?_⟩;rw[ew]at hle;have:((b+C:Int):Rat)<=((a+C+(P.lk i).cost*w:Int):Rat):=by
   rw[XM (a+C)];grind
  have:=Q9.mp this;omega
end
theorem Et(n:Nat)(hg:Nat->Option Int):∃C:Int,0<=C/\∀v,v<n->∀z,hg v=some z->0<=z+C:=by
 induction n with
 |zero=>exact ⟨0,U9 _,fun v hv=>by omega⟩
 |succ n ih=>
  obtain⟨C,c0,hC⟩:=ih;refine⟨C+((hg n).getD 0).natAbs,by omega,fun v hv z hz=>?_⟩;by_cases q:v<n
  ·have:=hC v q z hz;omega
  ·have:v=n:=by omega
   subst this;rw[hz];show 0<=z+(C+z.natAbs);omega
end RR
namespace RR
theorem Net.Way.pP{N:Net}(ok:N.Ok){Ye:Nat->Nat}{ks:Nat->Nat}{r:Nat}(W:N.Way Ye ks r){U:List Nat}(hU:∀e,e∈U↔∃i,i<=r/\e=ks i){y h:Nat->Rat}(B:N.Vo U y h):∀i,i<=r->y (ks i)=N.d:=by
 let x:Nat->Rat:=fun e=>if e∈U then N.d else 0
 have F:N.KH x:=W.VE ok (fun i hi=>Z7 ((hU _).mpr ⟨i,hi,Y⟩)) fun e he hn=>Z8 fun q=>by
  obtain⟨i,hi,rfl⟩:=(hU e).mp q;exact hn i hi rfl
 have zz:∀v,v<N.n->N.dv (fun e=>y e-x e) v=0:=fun v hv=>by
  have J:=B.cons v hv;have h2:=F.cons v hv;have:N.dv (fun e=>y e-x e) v=N.dv y v-N.dv x v:=by
   unfold Net.dv;rw[<-WS];exact ZQ fun e _=>by grind
  rw[this,J,h2];grind
 have off:∀e,e<N.m->e∉U->y e-x e=0:=fun e he hn=>by
  have:x e=0:=Z8 hn;rw[B.off e he hn,this];grind
 have key:∀i,i<=r->y (ks i)-x (ks i)=0:=by
  intro i;induction i using Nat.strongRecOn with
  |ind i ih=>
   intro hi;have hv:N.to (ks i)<N.n:=ok.Am _ (W.lt i hi);have hd:=zz _ hv;have e:N.dv (fun e=>y e-x e) (N.to (ks i))=sm N.m (fun e=>if e=ks i then y e-x e else 0):=by
    refine ZQ fun e he=>?_;show N.inc (N.to (ks i)) e*(y e-x e)=_;by_cases q:e=ks i
    ·subst q;rw[Z7 rfl];unfold Net.inc;rw[Z7 rfl];grind
    ·rw[Z8 q];by_cases hu:e∈U
     ·obtain⟨j,hj,rfl⟩:=(hU e).mp hu;by_cases ji:j<i
      ·rw[ih j ji hj];grind
      ·have aL:j≠i:=fun z=>q (by rw[z]);have iK:i<j:=by omega
       have n1:¬N.to (ks j)=N.to (ks i):=fun z=>by
        have:=W.LZ i j iK hj;rw[z]at this;omega
       have n2:¬N.fr (ks j)=N.to (ks i):=fun z=>by
        have J:=W.rise j hj;have h2:=W.LZ i j iK hj;rw[z]at J;omega
       unfold Net.inc;rw[Z8 n1,Z8 n2];grind
     ·rw[off e he hu];grind
   rw[e,YO (W.lt i hi)]at hd;exact hd
 intro i hi;have J:=key i hi;have h2:x (ks i)=N.d:=Z7 ((hU _).mpr ⟨i,hi,Y⟩);rw[h2]at J;grind
theorem Net.Way.good{N:Net}(ok:N.Ok){Ye:Nat->Nat}{ks:Nat->Nat}{r:Nat}(W:N.Way Ye ks r){U:List Nat}(hU:∀e,e∈U↔∃i,i<=r/\e=ks i){y h:Nat->Rat}(B:N.Vo U y h):N.Good y h:=
 B.good fun e he=>by
  by_cases hu:e∈U
  ·obtain⟨i,hi,rfl⟩:=(hU e).mp hu;rw[W.pP ok hU B i hi];exact YH ok.hd
  ·rw[B.off e he hu];exact Ym
end RR
namespace RR
open RhRoads
theorem BS{L:List Nat}(nd:L.Nodup){i j:Nat}(hi:i<L.length)(hj:j<L.length)(e:L[i]=L[j]):i=j:=by
 have h:=PN.mp nd;by_cases a:i<j;·exact absurd e (h i j hi hj a)
 ·by_cases b:j<i;·exact absurd e.symm (h j i hj hi b)
  ·omega
def opens(l:Land):List Nat:=(List.range l.roads.length).filter fun e=>!(rd l e).shut
theorem US{l:Land}{e:Nat}:e∈opens l↔e<l.roads.length/\(rd l e).shut=false:=by
 unfold opens;rw[XX,YW];simp
theorem Uj(l:Land):(opens l).Nodup:=ML _ R5
structure SR(l:Land)(all:Bool)(qs:List Rat)(bs:List Int):Prop where
 ql:qs.length=l.roads.length
 bl:bs.length=l.roads.length
 q:∀e,e<l.roads.length->qs.getD e 0=(rd l e).first all
 b:∀e,e<l.roads.length->(bs.getD e 0:Rat)=(rd l e).each all
 b0:∀e,e<l.roads.length->0<bs.getD e 0
 bn:∀e,e<l.roads.length->Bd 31 (qs.getD e 0).num
 bd:∀e,e<l.roads.length->Bd 20 (qs.getD e 0).den
 bb:∀e,e<l.roads.length->Bd 11 (bs.getD e 0)
def IF(qs:List Rat):Int:=qs.foldl (fun g q=>((Int.lcm g q.den:Nat):Int)) 1
theorem JK(qs:List Rat)(q:Rat):IF (qs++[q])=((Int.lcm (IF qs) q.den:Nat):Int):=by
 unfold IF;rw[List.foldl_append];rfl
theorem Dd:∀(n:Nat)(qs:List Rat),qs.length=n->(∀q,q∈qs->Bd 20 q.den)->0<IF qs/\(∀q,q∈qs->(q.den:Int)∣IF qs)/\Bd (1+20*n) (IF qs):=by
 intro n;induction n with
 |zero=>
  intro qs h _;obtain rfl:=XF.mp h;exact⟨Int.one_pos,fun q hq=>(by cases hq),Bd.one (by omega)⟩
 |succ n ih=>
  intro qs h O;have R7:qs≠[]:=fun q=>by subst q;cases h
  obtain⟨V,e,rfl⟩:∃V e,qs=V++[e]:=⟨qs.dropLast,qs.getLast R7,(List.dropLast_concat_getLast R7).symm⟩;rw[ZI]at h;have h:V.length+1=n+1:=h;obtain⟨J,h2,h3⟩:=ih V (by omega) fun x hx=>O x (by simp[hx]);obtain⟨l1,l2,l3,l4⟩:=zM J (V3 e) h3 (O e (by simp));rw[JK];refine⟨l1,fun x hx=>?_,l4.mono (by omega)⟩;rcases Zm.mp hx with hx|hx;·exact Int.dvd_trans (h2 x hx) l2
  ·rw[Zp]at hx;subst hx;exact l3
def IE(l:Land)(qs:List Rat)(bs:List Int)(g:Int)(e:Nat):JN:=⟨(rd l e).from_,(rd l e).to_,(qs.getD e 0).num*(g/(qs.getD e 0).den),bs.getD e 0⟩
def XU(l:Land)(qs:List Rat)(bs:List Int)(g:Int):Y8:=⟨l.places,l.source,l.goal,(l.units:Int)*g,(opens l).map (IE l qs bs g)⟩
section
variable{l:Land}{all:Bool}{qs:List Rat}{bs:List Int}{g:Int}
theorem Yp:(XU l qs bs g).links.length=(opens l).length:=by
 show((opens l).map _).length=_;rw[Z3]
theorem XI{j:Nat}(hj:j<(opens l).length):(XU l qs bs g).lk j=IE l qs bs g ((opens l).getD j 0):=by
 unfold Y8.lk;show((opens l).map (IE l qs bs g)).getD j _=_;exact getD_map _ _ j 0 _ hj
theorem Wq{j:Nat}(hj:j<(opens l).length):(opens l).getD j 0<l.roads.length/\(rd l ((opens l).getD j 0)).shut=false:=US.mp (getD_mem _ _ _ hj)
theorem eS(hl:Zk l)(A:SR l all qs bs){e:Nat}(he:e<l.roads.length):0<=(qs.getD e 0).num:=by
 rw[A.q e he];exact Tx.mpr ((Vp hl all).hc e he)
theorem BR(hl:Zk l)(A:SR l all qs bs)(hg:0<g):(XU l qs bs g).Ok where
 s:=hl.s
 t:=hl.t
 st:=hl.st
 u:=U8 (by have:=hl.u1;omega) hg
 lt:=fun j hj=>by
  rw[Yp]at hj;rw[XI hj];exact(hl.rd (Wq hj).1).f
 lh:=fun j hj=>by
  rw[Yp]at hj;rw[XI hj];exact(hl.rd (Wq hj).1).t
 ne:=fun j hj=>by
  rw[Yp]at hj;rw[XI hj];exact(hl.rd (Wq hj).1).ne
 c:=fun j hj=>by
  rw[Yp]at hj;rw[XI hj];exact Int.mul_nonneg (eS hl A (Wq hj).1) (Int.ediv_nonneg (S6 hg) (S6 (V3 _)))
 b:=fun j hj=>by
  rw[Yp]at hj;rw[XI hj];exact A.b0 _ (Wq hj).1
theorem JJ(hl:Zk l):(opens l).length<=9:=by
 have:=Xf l.roads.length (opens l) (Uj l) fun e he=>(US.mp he).1;have:=hl.r9;omega
theorem BQ(hl:Zk l)(A:SR l all qs bs)(bg:Bd 181 g):(XU l qs bs g).Sz where
 n6:=hl.p6
 m9:=by rw[Yp];exact JJ hl
 c:=fun j hj=>by
  rw[Yp]at hj;rw[XI hj];exact((A.bn _ (Wq hj).1).mul bg.div).mono (by omega)
 b:=fun j hj=>by
  rw[Yp]at hj;rw[XI hj];exact A.bb _ (Wq hj).1
 u:=by
  have J:Bd 10 (l.units:Int):=by
   unfold Bd;have:=hl.u2;omega
  exact(J.mul bg).mono (by omega)
theorem Gx{q:Rat}{g:Int}(hd:(q.den:Int)∣g):((q.num*(g/q.den):Int):Rat)=q*(g:Rat):=by
 rw[Zq,Tq (V3 q) hd];have J:=Wl q;have h2:=tH q;have h3:((q.den:Int):Rat)*((q.den:Int):Rat)⁻¹=1:=VN _ h2;rw[Zn]at J⊢;conv=>rhs;rw[<-J]
 grind
theorem Qe(hl:Zk l)(A:SR l all qs bs)(hg:0<g)(hd:∀q,q∈qs->(q.den:Int)∣g):Sub (Ze l all) (XU l qs bs g).X3 (g:Rat) (fun j=>(opens l).getD j 0)where
 gp:=intCast_pos hg
 n:=rfl
 s:=rfl
 t:=rfl
 d:=by
  show(((l.units:Int)*g:Int):Rat)=(l.units:Rat)*(g:Rat);rw[Zq,XJ]
 lt:=fun j hj=>by
  have hj:j<(XU l qs bs g).links.length:=hj;rw[Yp]at hj;obtain⟨J,h2⟩:=Wq hj;refine⟨J,?_⟩;show(!(rd l _).shut)=true;rw[h2];rfl
 inj:=fun i j hi hj e=>by
  have hi:i<(XU l qs bs g).links.length:=hi;have hj:j<(XU l qs bs g).links.length:=hj;rw[Yp]at hi hj;have e:(opens l).getD i 0=(opens l).getD j 0:=e;rw[ZX,ZX,ZU hi,ZU hj]at e;have e:(opens l)[i]=(opens l)[j]:=e;exact BS (Uj l) hi hj e
 all:=fun e he ho=>by
  have ho:(!(rd l e).shut)=true:=ho;have hm:e∈opens l:=US.mpr ⟨he,by simpa using ho⟩;obtain⟨j,hj,q⟩:=X8.mp hm;refine⟨j,?_,?_⟩
  ·show j<(XU l qs bs g).links.length;rw[Yp];exact hj
  ·show(opens l).getD j 0=e;rw[ZX,ZU hj];exact q
 fr:=fun j hj=>by
  have hj:j<(XU l qs bs g).links.length:=hj;rw[Yp]at hj;show((XU l qs bs g).lk j).tail=_;rw[XI hj];rfl
 to:=fun j hj=>by
  have hj:j<(XU l qs bs g).links.length:=hj;rw[Yp]at hj;show((XU l qs bs g).lk j).head=_;rw[XI hj];rfl
 c:=fun j hj=>by
  have hj:j<(XU l qs bs g).links.length:=hj;rw[Yp]at hj;show(((XU l qs bs g).lk j).cost:Rat)=(rd l ((opens l).getD j 0)).first all*(g:Rat)
  obtain⟨J,h2⟩:=Wq hj;rw[XI hj,<-A.q _ J];exact Gx (hd _ (getD_mem _ _ _ (by rw[A.ql];exact J)))
 b:=fun j hj=>by
  have hj:j<(XU l qs bs g).links.length:=hj;rw[Yp]at hj;show(((XU l qs bs g).lk j).slope:Rat)=(rd l ((opens l).getD j 0)).each all;obtain⟨J,h2⟩:=Wq hj;rw[XI hj,<-A.b _ J];rfl
 op:=fun _ _=>rfl
def RC(l:Land)(ys:List Int)(w g:Int)(i e:Nat):Rat:=if e∈(opens l).take i then qr (ys.getD ((opens l).idxOf e) 0) (w*g)else 0
theorem ID(hl:Zk l)(A:SR l all qs bs)(hg:0<g)(hd:∀q,q∈qs->(q.den:Int)∣g){ys:List Int}{w:Int}(hw:0<w)(R:(XU l qs bs g).X3.WC (ld ys w)):settled l all=some ((List.range l.roads.length).map (RC l ys w g (opens l).length)):=by
 refine KI hl all ?_;refine Sub.rests (Qe hl A hg hd) R (fun j hj=>?_) (fun e he ho=>?_)
 ·have hj:j<(XU l qs bs g).links.length:=hj;rw[Yp]at hj;show RC l ys w g (opens l).length ((opens l).getD j 0)=ld ys w j/(g:Rat);unfold RC;have hm:(opens l).getD j 0∈(opens l):=getD_mem _ _ _ hj;rw[X7,Z7 hm];have ix:(opens l).idxOf ((opens l).getD j 0)=j:=by
   rw[ZX,ZU hj];exact(Uj l).idxOf_getElem j hj
  rw[ix];unfold qr ld;rw[Zq,Zn,Zn,Zn,VO];grind
 ·unfold RC;rw[Z8];intro q;rw[X7]at q;have J:=(US.mp q).2;have ho:(!(rd l e).shut)=false:=ho;rw[J]at ho;cases ho
theorem IC(hl:Zk l)(A:SR l all qs bs)(hg:0<g)(hd:∀q,q∈qs->(q.den:Int)∣g)(h:¬(XU l qs bs g).X3.Reach (XU l qs bs g).t):settled l all=none:=
 IV hl all fun q=>h ((Qe hl A hg hd).reach.mpr q)
end
theorem Gw(l:Land)(f:Flow):total l f=sm l.roads.length (fun e=>on f e*(((rd l e).base:Rat)+((rd l e).slope:Rat)*on f e)):=by
 have:=JY l.roads Wz (fun(x:Road×Nat)=>on f x.2*((x.1.base:Rat)+(x.1.slope:Rat)*on f x.2));exact this
end RR
namespace RR
open RhRoads
theorem Es(l:Land):∀(k:Nat)(Xg:List Nat)(v:Nat),(waysFrom l k Xg v).Nodup:=by
 intro k;induction k with
 |zero=>exact fun Xg v=>TM
 |succ k ih=>
  intro Xg v;by_cases h:v=l.goal
  ·show List.Nodup (if v=l.goal then[[]]else _);rw[Z7 h];simp
  ·rw[W2 l k Xg v h];have hs:(Yd l Xg v).Nodup:=ML _ R5;generalize Yd l Xg v=L at hs;induction L with
   |nil=>exact TM
   |cons e L k_=>
    rw[Ww]at hs;rw[Wa,List.nodup_append];refine⟨?_,k_ hs.2,?_⟩
    ·refine UM.mpr ((ih _ _).imp fun h q=>h ?_);injection q
    ·intro x hx y hy q;obtain⟨p,_,rfl⟩:=Zc.mp hx;obtain⟨f,hf,hy⟩:=List.mem_flatMap.mp hy;obtain⟨r,_,rfl⟩:=Zc.mp hy;injection q with q _
     exact hs.1 (q▸hf)
theorem LQ{p q r:Nat->Bool}:∀L:List Nat,(∀x,x∈L->p x=true->q x=false)->(∀x,x∈L->p x=true->r x=true)->(∀x,x∈L->q x=true->r x=true)->(L.filter p).length+(L.filter q).length<=(L.filter r).length
 |[],_,_,_=>by simp
 |x::L,J,h2,h3=>by
  have ih:=LQ L (fun y hy=>J y (Zh x hy)) (fun y hy=>h2 y (Zh x hy)) (fun y hy=>h3 y (Zh x hy));have a:=J x (YM ..);have b:=h2 x (YM ..);have c:=h3 x (YM ..);rw[YN,YN,YN];by_cases hp:p x=true
  ·rw[Z7 hp,Z8 (by rw[a hp];simp),Z7 (b hp)];simp;omega
  ·rw[Z8 hp];by_cases hq:q x=true
   ·rw[Z7 hq,Z7 (c hq)];simp;omega
   ·rw[Z8 hq];split;·simp;omega
    ·exact ih
def NT(l:Land)(Xg:List Nat):Nat:=((List.range l.roads.length).filter fun e=>!Xg.contains (rd l e).from_).length
theorem Er(l:Land)(Xg:List Nat)(v:Nat)(hv:v∉Xg):(Yd l Xg v).length+NT l (v::Xg)<=NT l Xg:=by
 unfold Yd NT;refine LQ _ (fun x _ h=>?_) (fun x _ h=>?_) (fun x _ h=>?_)
 ·simp at h;simp[h.2.1]
 ·simp at h;simp[h.2.1,hv]
 ·simp at h;simp[h.2]
theorem iJ:∀(N:Nat)(L:List Nat),(∀x,x∈L->x^3<=N)->∃B,B^3<=N/\∀x,x∈L->x<=B
 |N,[],_=>⟨0,by simp,fun x hx=>by cases hx⟩
 |N,y::L,h=>by
  obtain⟨B,b1,b2⟩:=iJ N L fun x hx=>h x (Zh _ hx);by_cases q:y<=B
  ·refine⟨B,b1,fun x hx=>?_⟩;rcases ZH.mp hx with rfl|hx;·exact q
   ·exact b2 x hx
  ·refine⟨y,h y (YM ..),fun x hx=>?_⟩;rcases ZH.mp hx with rfl|hx;·exact ZM _
   ·have:=b2 x hx;omega
theorem Gu{α β:Type}(f:α->List β)(B:Nat):∀L:List α,(∀x,x∈L->(f x).length<=B)->(L.flatMap f).length<=L.length*B
 |[],_=>by simp
 |x::L,h=>by
  rw[Wa,ZI,Zj,Nat.succ_mul];have:=Gu f B L fun y hy=>h y (Zh _ hy);have:=h x (YM ..);omega
theorem wN:∀d:Nat,d<=9->d^3<=3^d:=by decide
theorem BP{l:Land}(hl:Zk l):∀(k:Nat)(Xg:List Nat)(v:Nat),v∉Xg->(waysFrom l k Xg v).length^3<=3^NT l Xg:=by
 intro k;induction k with
 |zero=>
  intro Xg v _;show 0^3<=_;simp
 |succ k ih=>
  intro Xg v hv;by_cases h:v=l.goal
  ·show(if v=l.goal then[[]]else _:List (List Nat)).length^3<=_;rw[Z7 h];show 1^3<=_;rw[Nat.one_pow];exact Nat.one_le_pow _ _ (by omega)
  ·rw[W2 l k Xg v h];have key:∀e,e∈Yd l Xg v->((waysFrom l k (v::Xg) (rd l e).to_).map fun w=>e::w).length^3<=3^NT l (v::Xg):=fun e he=>by
    obtain⟨_,_,_,h4,h5⟩:=Q0.mp he;rw[Z3];refine ih _ _ fun q=>?_;rcases ZH.mp q with q|q;·exact h5 q
    ·exact h4 q
   obtain⟨B,b1,b2⟩:=iJ (3^NT l (v::Xg)) ((Yd l Xg v).map fun e=>((waysFrom l k (v::Xg) (rd l e).to_).map fun w=>e::w).length) fun x hx=>by
    obtain⟨e,he,rfl⟩:=Zc.mp hx;exact key e he
   have J:=Gu (fun e=>(waysFrom l k (v::Xg) (rd l e).to_).map fun w=>e::w) B (Yd l Xg v) fun e he=>b2 _ (Zc.mpr ⟨e,he,Y⟩);have d9:(Yd l Xg v).length<=9:=by
    have:=Wx (fun e=>!(rd l e).shut&&((rd l e).from_==v&&!(Xg.contains (rd l e).to_||(rd l e).to_==v))) (List.range l.roads.length);rw[Zd]at this;have:=hl.r9;unfold Yd;omega
   refine ZE (Nat.pow_le_pow_left J 3) ?_;rw[Nat.mul_pow];refine ZE (Nat.mul_le_mul (wN _ d9) b1) ?_;rw[<-Nat.pow_add];exact TK (by omega) (Er l Xg v hv)
theorem Gs{l:Land}(hl:Zk l):(ways l).length<64:=by
 have h:=BP hl (l.places+1) [] l.source (by simp);have h9:NT l []<=9:=by
  have:=Wx (fun e=>!([]:List Nat).contains (rd l e).from_) (List.range l.roads.length);rw[Zd]at this;have:=hl.r9;unfold NT;omega
 have h2:=ZE h (TK (show 0<3 by omega) h9);by_cases q:(ways l).length<64;·exact q
 ·have:=Nat.pow_le_pow_left (Nat.not_lt.mp q) 3;have h2:(ways l).length^3<=3^9:=h2;omega
end RR
namespace RR
open RhRoads
theorem BO{l:Land}{a:Bool}(b:Bool){v:Nat}(h:(Ze l a).Reach v):(Ze l b).Reach v:=by
 induction h with
 |s=>exact Net.Reach.s (N:=Ze l b)
 |go e he ho _ ih=>exact Net.Reach.go (N:=Ze l b) e he ho ih
theorem BN{l:Land}(ok:Zk l){all:Bool}{f:Flow}(h:(Ze l all).Flow (on f)):0<total l f:=by
 rw[Gw];have nn:∀e,e<l.roads.length->0<=on f e*(((rd l e).base:Rat)+((rd l e).slope:Rat)*on f e):=fun e he=>by
  have J:0<=on f e:=h.nn e he;have h2:(0:Rat)<=((rd l e).base:Rat):=VF _;have h3:(0:Rat)<=((rd l e).slope:Rat):=VF _;exact Tz J (Rat.add_nonneg h2 (Tz h3 J))
 by_cases q:sm l.roads.length (fun e=>on f e*(((rd l e).base:Rat)+((rd l e).slope:Rat)*on f e))<=0
 ·exfalso;have z:=VG nn q;have z0:∀e,e<l.roads.length->on f e=0:=fun e he=>by
   by_cases c:on f e=0;·exact c
   ·have J:0<=on f e:=h.nn e he;have h2:(0:Rat)<=((rd l e).base:Rat):=VF _;have h3:(0:Rat)<((rd l e).slope:Rat):=natCast_pos (ok.rd he).s1;have hp:0<on f e:=by grind
    have h5:=Rat.mul_pos h3 hp;have h6:0<on f e*(((rd l e).base:Rat)+((rd l e).slope:Rat)*on f e):=Rat.mul_pos hp (by grind);have:=z e he;grind
  have d:=h.cons l.goal ok.t;have e1:(Ze l all).dv (on f) l.goal=0:=by
   unfold Net.dv;rw[ZQ (g:=fun _=>0) fun e he=>by rw[z0 e he];grind];exact Xq _
  rw[e1]at d;have e2:(Ze l all).due l.goal=(l.units:Rat):=Z7 rfl;rw[e2]at d;have:=natCast_pos ok.u1;grind
 ·exact Rat.not_le.mp q
theorem Ep{l:Land}(all:Bool):∀(k:Nat)(Xg:List Nat)(v:Nat)(w:List Nat),w∈waysFrom l k Xg v->(Ze l all).Reach v->(Ze l all).Reach l.goal:=by
 intro k;induction k with
 |zero=>
  intro Xg v w hw _;cases hw
 |succ k ih=>
  intro Xg v w hw r;by_cases h:v=l.goal
  ·rw[<-h];exact r
  ·rw[W2 l k Xg v h,List.mem_flatMap]at hw;obtain⟨e,he,hw⟩:=hw;obtain⟨x,hx,rfl⟩:=Zc.mp hw;obtain⟨J,h2,h3,_,_⟩:=Q0.mp he;refine ih _ _ x hx ?_;refine Net.Reach.go (N:=Ze l all) e J ?_ ?_
   ·show(!(rd l e).shut)=true;rw[h2];rfl
   ·show(Ze l all).Reach (rd l e).from_;rw[h3];exact r
theorem BM{l:Land}(all:Bool){w:List Nat}(h:w∈ways l):(Ze l all).Reach l.goal:=Ep all _ _ _ w h (Net.Reach.s (N:=Ze l all))
end RR
namespace L2
open PySem PySem.Spec PyProof.Rows
def W4:List Int->List Int->Bool
 |_,[]=>false
 |[],_::_=>true
 |a::p,b::q=>if a=b then W4 p q else decide (a<b)
theorem QZ(p:List Int):W4 p []=false:=by cases p<;>rfl
theorem ints_cons{v:Value}{vs:List Value}{n:Int}{ns:List Int}(h:IntsAre (v::vs) (n::ns)):(∃t,v=.int n t)/\IntsAre vs ns:=by
 cases h with
 |cons _ t J=>exact ⟨⟨t,Y⟩,J⟩
theorem ints_get:∀{vs:List Value}{ns:List Int},IntsAre vs ns->∀i,i<vs.length->∃t,vs[i]?=some (.int (ns.getD i 0) t)
 |[],_,_,i,h=>absurd h (by simp)
 |v::vs,[],h,i,_=>by cases h
 |v::vs,n::ns,h,0,_=>by
  obtain⟨⟨t,rfl⟩,_⟩:=ints_cons h;exact⟨t,Y⟩
 |v::vs,n::ns,h,i+1,hi=>by
  obtain⟨_,h2⟩:=ints_cons h;exact ints_get h2 i (by simpa using hi)
theorem drop_getD{ns:List Int}{i:Nat}(h:i<ns.length):ns.drop i=ns.getD i 0::ns.drop (i+1):=by
 rw[List.drop_eq_getElem_cons h,ZX,ZU h];rfl
open AutoSeq1 (wpAny_loadPart')in
theorem tj{l b:Addr}{us vs:List Value}{n m:Nat}{ns ms:List Int}(hu:IntsAre us ns)(hv:IntsAre vs ms)(k:Nat):
 ∀i:Nat,us.length-i=k->i<=us.length->Meets (Builtin.«list.__eq__.loop» ⟨[.ref l,.ref b,rawInt i,rawInt 0],[]⟩)
  (fun _ R s=>s.heap.get? l=some (seqObj "list" us.toArray n)/\s.heap.get? b=some (seqObj "list" vs.toArray m)/\R (.ok (.ret (.bool (W4 (ns.drop i) (ms.drop i))))) s):=by
 have ul:=hu.length;have vl:=hv.length;have key:∀i,i<=us.length->(∀prog w A R s,s.heap.get? l=some (seqObj "list" us.toArray n)/\s.heap.get? b=some (seqObj "list" vs.toArray m)/\R (.ok (.ret (.bool (W4 (ns.drop (i+1)) (ms.drop (i+1)))))) s->i<us.length->
  codeAny (model prog w) A (.builtin "list.__eq__.loop" ⟨[.ref l,.ref b,rawInt ((i+1:Nat):Int),rawInt 0],[]⟩) R s)->Meets (Builtin.«list.__eq__.loop» ⟨[.ref l,.ref b,rawInt i,rawInt 0],[]⟩)
  (fun _ R s=>s.heap.get? l=some (seqObj "list" us.toArray n)/\s.heap.get? b=some (seqObj "list" vs.toArray m)/\R (.ok (.ret (.bool (W4 (ns.drop i) (ms.drop i))))) s):=by
  intro i hi go prog w A R s h;obtain⟨hp,g,d,tk,os⟩:=s;obtain⟨J,h2,h⟩:=h
  wp_walk using wpAny_loadPart' J,wpAny_loadPart' h2
  have e1:((i:Nat):Int).toNat=i:=by simp
  rw[e1];by_cases q1:i<us.length
  ·obtain⟨t,et⟩:=ints_get hu i q1;have et:us.toArray[i]?=some (.int (ns.getD i 0) t):=by simpa using et
   by_cases q2:i<vs.length
   ·obtain⟨t2,nW⟩:=ints_get hv i q2;have nW:vs.toArray[i]?=some (.int (ms.getD i 0) t2):=by simpa using nW
    rw[et,nW];refine ZV (wpAny_eqBool_int ?_);rw[drop_getD (show i<ns.length by omega),drop_getD (show i<ms.length by omega)]at h;by_cases z:ns.getD i 0=ms.getD i 0
    ·have hz:(ns.getD i 0==ms.getD i 0)=true:=by rw[z];exact beq_self_eq_true _
     have h:R (.ok (.ret (.bool (if ns.getD i 0=ms.getD i 0 then W4 (ns.drop (i+1)) (ms.drop (i+1))else decide (ns.getD i 0<ms.getD i 0))))) _:=h;rw[Z7 z]at h;rw[hz]
     wp_walk
     exact⟨plainId_quiet MeetsSeq3.plain_eq_loop _,go prog w A R _ ⟨J,h2,h⟩ q1⟩
    ·have hz:(ns.getD i 0==ms.getD i 0)=false:=by simpa using z
     have h:R (.ok (.ret (.bool (if ns.getD i 0=ms.getD i 0 then W4 (ns.drop (i+1)) (ms.drop (i+1))else decide (ns.getD i 0<ms.getD i 0))))) _:=h;rw[Z8 z]at h;rw[hz]
     wp_walk using wpAny_loadPart' J,wpAny_loadPart' h2
     rw[et,nW];refine ZV (wpAny_lt_int ?_)
     wp_walk
     exact h
   ·have e3:vs.toArray[i]?=none:=by simp;omega
    rw[et,e3]
    wp_walk using wpAny_loadPart' J,wpAny_loadPart' h2
    show R (.ok (.ret (.bool (decide (us.toArray.size<vs.toArray.size))))) _;rw[ZF (by simp;omega)];rw[PR (show ms.length<=i by omega)]at h;rw[QZ]at h;exact h
  ·have e3:us.toArray[i]?=none:=by simp;omega
   rw[e3];rw[PR (show ns.length<=i by omega)]at h;have fin:R (.ok (.ret (.bool (decide (us.toArray.size<vs.toArray.size))))) {heap:=hp,gens:=g,drawn:=d,toks:=tk,os:=os}:=by
    by_cases q2:i<vs.length
    ·rw[ZR (by simp;omega)];rw[drop_getD (show i<ms.length by omega)]at h;exact h
    ·rw[PR (show ms.length<=i by omega)]at h;by_cases q3:us.length<vs.length;·omega
     ·rw[ZF (by simpa using q3)];exact h
   wp_walk using wpAny_loadPart' J,wpAny_loadPart' h2
   exact fin
 induction k with
 |zero=>
  intro i hk hi;exact key i hi fun prog w A R s _ q=>by omega
 |succ k ih=>
  intro i hk hi;exact key i hi fun prog w A R s h q=>codeAny_builtin MeetsSeq3.entry_eq_loop (by
   rw[Around.under_plainId MeetsSeq3.plain_eq_loop _];exact ih (i+1) (by omega) q prog w A R _ h)
theorem tf{l b:Addr}{us vs:List Value}{n m:Nat}{ns ms:List Int}(hu:IntsAre us ns)(hv:IntsAre vs ms):Meets (Builtin.«list.__lt__» ⟨[.ref l,.ref b],[]⟩) (fun _ R s=>s.heap.get? l=some (seqObj "list" us.toArray n)/\s.heap.get? b=some (seqObj "list" vs.toArray m)/\R (.ok (.ret (.bool (W4 ns ms)))) s):=by
 intro prog w A R s h;obtain⟨hp,g,d,tk,os⟩:=s;obtain⟨J,h2,h⟩:=h;have f3:=AutoSeq1.sub_list_list
 wp_walk using AutoSeq1.wpAny_loadPart' J,AutoSeq1.wpAny_loadPart' h2
 exact⟨plainId_quiet MeetsSeq3.plain_eq_loop _,codeAny_builtin MeetsSeq3.entry_eq_loop (by
  rw[Around.under_plainId MeetsSeq3.plain_eq_loop _];exact tj hu hv _ 0 rfl (Zw _) prog w A R _ ⟨J,h2,h⟩)⟩
section
variable{prog:Program}{w:World}{A:Around}{E:Value->Shared->Prop}{s:Shared}
theorem s_{l b:Addr}{us vs:List Value}{n m:Nat}{ns ms:List Int}{Q:Bool->Shared->Prop}(hU:A.units<cLine)(J:s.heap.get? l=some (seqObj "list" us.toArray n))(h2:s.heap.get? b=some (seqObj "list" vs.toArray m))(hu:IntsAre us ns)(hv:IntsAre vs ms)(q:Q (W4 ns ms) s):wpAny (model prog w) A (keyLt' oneType' (.ref l) (.ref b)) Q E s:=by
 rw[keyLt'_oneType,oneLt'_eq];simp only[if_true];refine ZV (wpAny_cRoomFor hU ?_);refine ZV (wpAny_callSpecialIfBound?_slot ⟨_,J,Y⟩ PySem.F.slot_list_lt (call_meets PySem.F.slot_list_lt ⟨_,J,Y⟩ PySem.F.entry_list_lt (PySem.F.args_list_lt_2 _ _) (tf hu hv) ⟨J,h2,?_⟩));exact WJ q
end
end L2
namespace L2
open PySem PySem.Spec PyProof.Rows PySem.W
structure IB(n:Nat)(lt:Nat->Nat->Bool):Prop where
 tr:∀a b c,lt a b=true->lt b c=true->lt a c=true
 va:∀a b,a<n->b<n->a≠b->lt a b=false->lt b a=true
structure Pm(n:Nat)(p:Array Nat):Prop where
 perm:p.toList.Perm (List.range n)
theorem Pm.size{n:Nat}{p:Array Nat}(h:Pm n p):p.size=n:=by
 have:=h.perm.length_eq;simpa using this
theorem Pm.get{n:Nat}{p:Array Nat}(h:Pm n p){i:Nat}(hi:i<n):p[i]?=some (p.getD i 0):=by
 have hs:=h.size;have:i<p.size:=by omega
 simp[Array.getD,this]
theorem Pm.lt{n:Nat}{p:Array Nat}(h:Pm n p){i:Nat}(hi:i<n):p.getD i 0<n:=by
 have J:=h.get hi;have h2:p.getD i 0∈p.toList:=by
  rw[Array.mem_toList_iff];exact Array.mem_of_getElem? J
 exact YW.mp (h.perm.mem_iff.mp h2)
theorem Pm.inj{n:Nat}{p:Array Nat}(h:Pm n p){i j:Nat}(hi:i<n)(hj:j<n)(ne:i≠j):p.getD i 0≠p.getD j 0:=by
 intro e;have nd:p.toList.Nodup:=h.perm.nodup_iff.mpr R5;have hs:=h.size;have J:=h.get hi;have h2:=h.get hj;rw[<-Array.getElem?_toList]at J h2;rw[e,<-h2]at J;exact ne ((List.getElem?_inj (by simpa[hs]using hi) nd).mp J)
theorem Pm.range(n:Nat):Pm n (List.toArray (List.range n)):=⟨by simp⟩
theorem Pm.of{n:Nat}{p q:Array Nat}(h:Pm n p)(hq:q.Perm p):Pm n q:=⟨(Array.perm_iff_toList_perm.mp hq).trans h.perm⟩
section
variable{n:Nat}{lt:Nat->Nat->Bool}{cmp:Nat->Nat->(Bool->Shared->Prop)->Shared->Prop}{s:Shared}
def Up(lt:Nat->Nat->Bool)(p:Array Nat)(m:Nat):Prop:=∀i j,i<j->j<m->lt (p.getD i 0) (p.getD j 0)=true
def sZ(lt:Nat->Nat->Bool)(p:Array Nat)(m:Nat):Prop:=∀i j,i<j->j<m->lt (p.getD j 0) (p.getD i 0)=true
theorem Up.more(Z9:IB n lt){p:Array Nat}{m:Nat}(h:Up lt p m)(J:1<=m)(hl:lt (p.getD (m-1) 0) (p.getD m 0)=true):Up lt p (m+1):=by
 intro i j JX hj;by_cases q:j<m;·exact h i j JX q
 ·have:j=m:=by omega
  subst this;by_cases q2:i=j-1;·rw[q2];exact hl
  ·exact Z9.tr _ _ _ (h i (j-1) (by omega) (by omega)) hl
theorem sZ.more(Z9:IB n lt){p:Array Nat}{m:Nat}(h:sZ lt p m)(J:1<=m)(hl:lt (p.getD m 0) (p.getD (m-1) 0)=true):sZ lt p (m+1):=by
 intro i j JX hj;by_cases q:j<m;·exact h i j JX q
 ·have:j=m:=by omega
  subst this;by_cases q2:i=j-1;·rw[q2];exact hl
  ·exact Z9.tr _ _ _ hl (h i (j-1) (by omega) (by omega))
def BL(n:Nat)(lt:Nat->Nat->Bool)(cmp:Nat->Nat->(Bool->Shared->Prop)->Shared->Prop)(s:Shared):Prop:=∀i j C,i<n->j<n->C (lt i j) s->cmp i j C s
theorem Eo(Z9:IB n lt)(ha:BL n lt cmp s){p:Array Nat}(hp:Pm n p){G:Nat->Shared->Prop}:∀(f m:Nat),1<=m->m+f<=n->Up lt p m->(∀k,m<=k->k<=m+f->Up lt p k->(k<m+f->lt (p.getD k 0) (p.getD (k-1) 0)=true)->G k s)->(kas_asc p f m).kasWp cmp G s
 |0,m,J,hf,hs,hG=>hG m (ZM _) (ZM _) hs fun q=>absurd q (by omega)
 |f+1,m,J,hf,hs,hG=>by
  show cmp (p.getD m 0) (p.getD (m-1) 0) (fun c s'=>(if c=true then KasT.ret m else kas_asc p f (m+1)).kasWp cmp G s') s;refine ha _ _ _ (hp.lt (by omega)) (hp.lt (by omega)) ?_;cases q:lt (p.getD m 0) (p.getD (m-1) 0)with
  |true=>
   rw[Z7 rfl];exact hG m (ZM _) (by omega) hs fun _=>q
  |false=>
   rw[Z8 (by simp)];have:=Z9.va _ _ (hp.lt (show m<n by omega)) (hp.lt (show m-1<n by omega)) (hp.inj (by omega) (by omega) (by omega)) q;exact Eo Z9 ha hp f (m+1) (by omega) (by omega) (hs.more Z9 J this) fun k k1 k2 k3 k4=>hG k (by omega) (by omega) k3 fun z=>k4 (by omega)
theorem Dc(Z9:IB n lt)(ha:BL n lt cmp s){p:Array Nat}(hp:Pm n p){G:Array Nat×Nat×Nat->Shared->Prop}:∀(f m:Nat),1<=m->m+f<=n->sZ lt p m->(∀k,m<=k->k<=m+f->sZ lt p k->G (p,k,0) s)->(kas_desc f p m 0).kasWp cmp G s
 |0,m,J,hf,hs,hG=>hG m (ZM _) (ZM _) hs
 |f+1,m,J,hf,hs,hG=>by
  show cmp (p.getD m 0) (p.getD (m-1) 0) (fun c s'=>(if c=true then(if 0>0 then kas_desc f (kas_rev p (m-(0+1)) m) (m+1) 0 else kas_desc f p (m+1) 0)else .ask (p.getD (m-1) 0) (p.getD m 0) fun d=>if d=true then .ret (p,m,0)else kas_desc f p (m+1) (0+1)).kasWp cmp G s') s;refine ha _ _ _ (hp.lt (by omega)) (hp.lt (by omega)) ?_;cases q:lt (p.getD m 0) (p.getD (m-1) 0)with
  |true=>
   rw[Z7 Y,Z8 (by omega)];exact Dc Z9 ha hp f (m+1) (by omega) (by omega) (hs.more Z9 J q) fun k k1 k2 k3=>hG k (by omega) (by omega) k3
  |false=>
   rw[Z8 (by simp)];have:=Z9.va _ _ (hp.lt (show m<n by omega)) (hp.lt (show m-1<n by omega)) (hp.inj (by omega) (by omega) (by omega)) q;refine ha _ _ _ (hp.lt (by omega)) (hp.lt (by omega)) ?_;rw[this];exact hG m (ZM _) (by omega) hs
theorem C_{p:Array Nat}{m:Nat}(hm:m<=p.size)(i:Nat):(kas_rev p 0 m).getD i 0=if i<m then p.getD (m-1-i) 0 else p.getD i 0:=by
 have e:=getElem?_mirror_all (xs:=p) (i:=0) hm i;have d:∀(q:Array Nat) k,q.getD k 0=(q[k]?).getD 0:=fun q k=>by by_cases z:k<q.size<;>simp[Array.getD,z]
 rw[d];unfold kas_rev;rw[e];by_cases q:i<m;·rw[Z7 ⟨Zw _,q⟩,Z7 q,d,show 0+m-1-i=m-1-i by omega]
 ·rw[Z8 (fun z=>q z.2),Z8 q,d]
theorem sY{p:Array Nat}{m:Nat}(hm:m<=p.size)(h:sZ lt p m):Up lt (kas_rev p 0 m) m:=by
 intro i j JX hj;rw[C_ hm,C_ hm,Z7 (by omega),Z7 hj];exact h _ _ (by omega) (by omega)
theorem zL{p:Array Nat}{m:Nat}(hp:Pm n p):Pm n (kas_rev p 0 m):=hp.of (mirror_perm _ _ _ _)
theorem zK(Z9:IB n lt)(ha:BL n lt cmp s){p:Array Nat}(hp:Pm n p)(J:1<=n){G:Nat×Array Nat->Shared->Prop}(hG:∀m q,1<=m->m<=n->Pm n q->Up lt q m->G (m,q) s):(kas_count n p).kasWp cmp G s:=by
 unfold kas_count;rw[KasT.kasWp_bind];refine Eo Z9 ha hp (n-1) 1 (ZM _) (by omega) (fun i j JX hj=>by omega) fun k k1 k2 k3 k4=>?_;have e:1+(n-1)=n:=by omega
 rw[e]at k2 k4;by_cases q:(k==n)=true
 ·rw[Z7 q];exact hG k p k1 k2 hp k3
 ·rw[Z8 q];have q:k<n:=by
   have:k≠n:=fun z=>q (by rw[z];exact beq_self_eq_true _);omega
  by_cases q2:k>1
  ·rw[Z7 q2];refine ha _ _ _ (hp.lt (by omega)) (hp.lt (by omega)) ?_;rw[k3 0 (k-1) (by omega) (by omega)];exact hG k p k1 k2 hp k3
  ·rw[Z8 q2];have:k=1:=by omega
   subst this;unfold kas_descPart;rw[KasT.kasWp_bind];have d2:sZ lt p (1+1):=fun i j JX hj=>by
    have e1:i=0:=by omega
    have e2:j=1:=by omega
    rw[e1,e2];exact k4 q
   refine Dc Z9 ha hp _ (1+1) (by omega) (by omega) d2 fun r r1 r2 r3=>?_;have r2:r<=n:=by omega
   show(if(0:Nat)>0 then _ else kas_tail3 r n p).kasWp cmp G s;rw[Z8 (by omega)];unfold kas_tail3;rw[KasT.kasWp_bind];have hsz:=hp.size;refine Eo Z9 ha (zL hp) (n-r) r (by omega) (by omega) (sY (by omega) r3) fun m m1 m2 m3 _=>?_;exact hG m _ (by omega) (by omega) (zL hp) m3
theorem LP(Z9:IB n lt)(ha:BL n lt cmp s){p:Array Nat}(hp:Pm n p){k:Nat}(hk:k<n)(hs:Up lt p k){G:Nat->Shared->Prop}(hG:∀l,l<=k->(∀i,i<l->lt (p.getD i 0) (p.getD k 0)=true)->(∀i,l<=i->i<k->lt (p.getD k 0) (p.getD i 0)=true)->G l s):∀(f l r:Nat),l<=r->r<=k->r-l<=f->(∀i,i<l->lt (p.getD i 0) (p.getD k 0)=true)->(∀i,r<=i->i<k->lt (p.getD k 0) (p.getD i 0)=true)->(kas_place p k f l r).kasWp cmp G s
 |0,l,r,J,h2,h3,a,b=>by
  have:l=r:=by omega
  subst this;exact hG l h2 a b
 |f+1,l,r,J,h2,h3,a,b=>by
  unfold kas_place;by_cases q:l>=r
  ·rw[Z7 q];have:l=r:=by omega
   subst this;exact hG l h2 a b
  ·rw[Z8 q];have m1:(l+r)/2<r:=by omega
   have m0:l<=(l+r)/2:=by omega
   refine ha _ _ _ (hp.lt hk) (hp.lt (by omega)) ?_;cases z:lt (p.getD k 0) (p.getD ((l+r)/2) 0)with
   |true=>
    show(kas_place p k f l ((l+r)/2)).kasWp cmp G s;refine LP Z9 ha hp hk hs hG f l ((l+r)/2) m0 (by omega) (by omega) a fun i i1 i2=>?_;by_cases zz:i=(l+r)/2;·rw[zz];exact z
    ·exact Z9.tr _ _ _ z (hs _ _ (by omega) i2)
   |false=>
    show(kas_place p k f ((l+r)/2+1) r).kasWp cmp G s;have zt:=Z9.va _ _ (hp.lt hk) (hp.lt (show(l+r)/2<n by omega)) (hp.inj hk (by omega) (by omega)) z;refine LP Z9 ha hp hk hs hG f ((l+r)/2+1) r (by omega) h2 (by omega) (fun i i1=>?_) b;by_cases zz:i=(l+r)/2;·rw[zz];exact zt
    ·exact Z9.tr _ _ _ (hs _ _ (by omega) (by omega)) zt
theorem C9{p:Array Nat}{k l:Nat}(hk:k<p.size)(hl:l<=k)(i:Nat):(bubble p k (k-l)).getD i 0=if i=l then p.getD k 0 else if l<i/\i<=k then p.getD (i-1) 0 else p.getD i 0:=by
 have e:=getElem?_bubble hk (k-l) (by omega) i;have d:∀(q:Array Nat) k,q.getD k 0=(q[k]?).getD 0:=fun q k=>by by_cases z:k<q.size<;>simp[Array.getD,z]
 rw[d,e,show k-(k-l)=l by omega];by_cases q:i=l;·rw[Z7 q,Z7 q,d]
 ·rw[Z8 q,Z8 q];by_cases q2:l<i/\i<=k;·rw[Z7 q2,Z7 q2,d]
  ·rw[Z8 q2,Z8 q2,d]
theorem zJ(Z9:IB n lt)(ha:BL n lt cmp s){G:Array Nat->Shared->Prop}(hG:∀q,Pm n q->Up lt q n->G q s):∀(f k:Nat)(p:Array Nat),k+f=n->Pm n p->Up lt p k->(kas_bin f p k).kasWp cmp G s
 |0,k,p,J,hp,hs=>hG p hp (by rw[<-J];exact hs)
 |f+1,k,p,J,hp,hs=>by
  show((kas_place p k k 0 k).bind fun l=>kas_bin f (bubble p k (k-l)) (k+1)).kasWp cmp G s;rw[KasT.kasWp_bind];have hk:k<n:=by omega
  have hsz:=hp.size;refine LP Z9 ha hp hk hs (fun l l1 a b=>?_) k 0 k (Zw _) (ZM _) (by omega) (fun i hi=>by omega) (fun i i1 i2=>by omega);refine zJ Z9 ha hG f (k+1) _ (by omega) (hp.of (bubble_perm _ _ _)) fun i j JX hj=>?_;rw[C9 (by omega) l1,C9 (by omega) l1];by_cases qi:i=l
  ·rw[Z7 qi,Z8 (by omega),Z7 ⟨by omega,by omega⟩];exact b _ (by omega) (by omega)
  ·rw[Z8 qi];by_cases qj:j=l
   ·rw[Z7 qj,Z8 (by omega)];exact a _ (by omega)
   ·rw[Z8 qj];by_cases c1:l<i/\i<=k
    ·rw[Z7 c1,Z7 ⟨by omega,by omega⟩];exact hs _ _ (by omega) (by omega)
    ·rw[Z8 c1];by_cases c2:l<j/\j<=k
     ·rw[Z7 c2];exact hs _ _ (by omega) (by omega)
     ·rw[Z8 c2];exact hs _ _ JX (by omega)
theorem wM(Z9:IB n lt)(ha:BL n lt cmp s)(J:1<=n){G:Array Nat->Shared->Prop}(hG:∀q,Pm n q->Up lt q n->G q s):(kas_sort n).kasWp cmp G s:=by
 unfold kas_sort;rw[KasT.kasWp_bind];refine zK Z9 ha (Pm.range n) J fun m q m1 m2 hq hs=>?_;show(if m<n then kas_bin (n-max m 1) q (max m 1)else KasT.ret q).kasWp cmp G s;by_cases c:m<n
 ·rw[Z7 c];have e:max m 1=m:=by omega
  rw[e];exact zJ Z9 ha hG (n-m) m q (by omega) hq hs
 ·rw[Z8 c];have:m=n:=by omega
  subst this;exact hG q hq hs
end
end L2
namespace L2
open PySem PySem.Spec PyProof.Rows PySem.W
theorem LO(a b:Int)(p q:List Int):W4 (a::p) (b::q)=if a=b then W4 p q else decide (a<b):=rfl
theorem Gr:∀a b c:List Int,W4 a b=true->W4 b c=true->W4 a c=true
 |_,[],_,h,_=>by rw[QZ]at h;cases h
 |_,_::_,[],_,h=>by rw[QZ]at h;cases h
 |[],_::_,_::_,_,_=>rfl
 |x::p,y::q,z::r,J,h2=>by
  rw[LO]at J h2⊢;by_cases e1:x=y
  ·rw[Z7 e1]at J;by_cases e2:y=z
   ·rw[Z7 e2]at h2;rw[Z7 (e1.trans e2)];exact Gr p q r J h2
   ·rw[Z8 e2]at h2;rw[Z8 (by rw[e1];exact e2),e1];exact h2
  ·rw[Z8 e1]at J;have J:=ZG J;by_cases e2:y=z
   ·rw[Z8 (by omega)];exact ZR (by omega)
   ·rw[Z8 e2]at h2;have h2:=ZG h2;rw[Z8 (by omega)];exact ZR (by omega)
theorem JI:∀a b:List Int,a≠b->W4 a b=false->W4 b a=true
 |[],[],h,_=>absurd rfl h
 |[],_::_,_,h=>by cases h
 |_::_,[],_,_=>rfl
 |x::p,y::q,h,J=>by
  rw[LO]at J⊢;by_cases e:x=y
  ·rw[Z7 e]at J;rw[Z7 e.symm];exact JI p q (fun z=>h (by rw[e,z])) J
  ·rw[Z8 e]at J;have J:=of_decide_eq_false J;rw[Z8 (fun z=>e z.symm)];exact ZR (by omega)
theorem zI{ks:List (List Int)}(nd:ks.Nodup):IB ks.length (fun i j=>W4 (ks.getD i []) (ks.getD j []))where
 tr:=fun a b c=>Gr _ _ _
 va:=fun a b ha O ne h=>JI _ _ (fun e=>ne (by
  rw[ZX,ZX,ZU ha,ZU O]at e;have e:ks[a]=ks[b]:=e;exact(List.getElem_inj nd).mp e)) h
theorem BK(vs:List Value):(List.toArray ((List.toArray (List.range vs.length)).toList.map fun i=>vs.getD i Value.none))=vs.toArray:=by
 congr 1;refine UQ fun i=>?_;by_cases h:i<vs.length
 ·rw[Zf,XG h,ZU h];simp[h]
 ·rw[YQ (by simp;omega),YQ (by omega)]
def LN(h:Heap)(a:Addr)(vs:List Value):Heap:=((h.update a (Obj.mapSeq fun _=>#[])).push (seqObj "tuple" vs.toArray 0)).push (seqObj "list" #[] 0)
def zH(h:Heap)(vs:List Value)(ks:List (List Int)):Prop:=∀i,i<vs.length->∃a us n,vs.getD i Value.none=.ref a/\h.get? a=some (seqObj "list" us.toArray n)/\IntsAre us (ks.getD i [])
section
variable{prog:Program}{w:World}{A:Around}{E:Value->Shared->Prop}{s:Shared}
theorem BJ{a:Addr}{vs:List Value}{ks:List (List Int)}{n:Nat}{P:PySem.Fin->Shared->Prop}(hU:A.units<cLine)(ho:s.heap.get? a=some (seqObj "list" vs.toArray n))(hk:zH (LN s.heap a vs) vs ks)(kl:ks.length=vs.length)(nd:ks.Nodup)(rK:vs.length<64)(h:∀p,Pm vs.length p->Up (fun i j=>W4 (ks.getD i []) (ks.getD j [])) p vs.length->P (.done (.ret .none)) {s with heap:=sortedHeap s.heap a vs (List.toArray (p.toList.map fun i=>vs.getD i Value.none))}):wpAny (model prog w) A (Builtin.«list.sort» ⟨[.ref a],[]⟩) P E s:=by
 have hz:vs.length<=sizeLine:=by rw[sizeLine_eq];omega
 have hsz:vs.toArray.size=vs.length:=Y6;have la:a<s.heap.objs.size:=Zr ho;obtain⟨e1,J⟩:∃e1,(s.heap.update a (Obj.mapSeq fun _=>#[])).get? a=some (seqObj "list" #[] e1):=⟨_,get?_update_seq ho (fun _=>#[])⟩;have h6:(LN s.heap a vs).get? a=some (seqObj "list" #[] e1):=by
  unfold LN;rw[TF,TF];·exact J
  ·rw[Heap.size_update];exact Za la
  ·rw[size_push',Heap.size_update];exact Za (X6 la)
 rw[list_sort_plain];refine ZV (listItems_at ho Y (ZV (listUpdate_at ho Y (ZV (seqEpoch_at J Y (ZV (wpAny_newTuple (ZV (wpAny_newList (VQ ?_))))))))));show wpAny (model prog w) A _ P E {s with heap:=LN s.heap a vs};dsimp only;by_cases c:vs.toArray.size<2
 ·rw[Z7 c,Z7 c];refine ZV (Zt ?_);rw[StateT.run_pure];refine ZV (Zt (ZV (seqEpoch_at h6 Y (ZV (listUpdate_at h6 Y ?_ (hsz2:=?_))))))
  ·simp only[bne_self_eq_false,PU,if_false];refine Zt ?_;have:=h _ (Pm.range vs.length) (fun i j JX hj=>by omega);rw[BK]at this;have e:(pairsOf vs).map (·.2)=vs.toArray:=by
    apply Array.toList_inj.mp;rw[Array.toList_map,pairsOf_toList];simp[List.map_snd_zip]
   rw[<-e]at this;exact this
  ·rw[Array.size_map];show(pairsOf vs).size<=_;rw[pairsOf_size];exact Nat.le_succ_of_le hz
 ·rw[Z8 c,Z8 c];have c2:2<=vs.length:=by omega
  refine ZV (kas_kind (T:=.type "list") c2 (fun v hv=>?_) rfl rfl ?_)
  ·obtain⟨i,hi,rfl⟩:=List.getElem_of_mem hv;obtain⟨b,us,m,g1,g2,_⟩:=hk i hi;have e:vs[i]=.ref b:=by rw[<-g1];simp[hi]
   rw[e];exact(Looks.ld g2).andThen .now
  ·refine ZV (X' (kat_run (Q:=fun st s'=>s'={s with heap:=LN s.heap a vs}/\∃p:Array Nat,Pm vs.length p/\Up (fun i j=>W4 (ks.getD i []) (ks.getD j [])) p vs.length/\arrOf st=p.map (kas_item (vs.toArray.zip vs.toArray))/\failedOf st=none)
    (G:=fun p s'=>s'={s with heap:=LN s.heap a vs}/\Pm vs.length p/\Up (fun i j=>W4 (ks.getD i []) (ks.getD j [])) p vs.length) rfl c2 rK (fun p st s' a1 a2 a3 a4=>⟨a4.1,p,a4.2.1,a4.2.2,a2,a3⟩) ?_) ?_ fun _ _ e=>e)
   ·have Z9:=zI nd;rw[kl]at Z9;refine wM Z9 (fun i j C hi hj q=>?_) (by omega) fun p hp hs=>⟨Y,hp,hs⟩;obtain⟨b1,aK,m1,g1,g2,g3⟩:=hk i hi;obtain⟨b2,aJ,m2,f1,f2,f3⟩:=hk j hj;show wpAny _ _ (keyLt' oneType' (vs.getD i Value.none) (vs.getD j Value.none)) C (fun _ _=>False) _;rw[g1,f1];exact s_ hU g2 f2 g3 f3 q
   ·rintro⟨⟨⟩,st⟩ s' ⟨rfl,p,hp,hs,ha,hf⟩;dsimp only at ha hf⊢;have Ad:=kat_snds (vs:=vs) (ks:=vs) rfl ha;have eR:((arrOf st).map (·.2)).size<=sizeLine:=by
     rw[Ad,Y6,Z3,U_,hp.size];exact hz
    refine ZV (seqEpoch_at h6 Y (ZV (listUpdate_at h6 Y ?_ (hsz2:=Nat.le_succ_of_le eR))));rw[hf];simp only[bne_self_eq_false,PU,if_false];refine Zt ?_;have:=h p hp hs;rw[<-Ad]at this;exact this
theorem Gq{l:Addr}{vs:List Value}{ks:List (List Int)}{Q:Value->Shared->Prop}(hU:A.units+8<cLine)(hl:s.heap.IsList l vs.toArray)(hk:zH s.heap vs ks)(kl:ks.length=vs.length)(nd:ks.Nodup)(rK:vs.length<64)(h:∀p,Pm vs.length p->Up (fun i j=>W4 (ks.getD i []) (ks.getD j [])) p vs.length->Q (.ref (s.heap.objs.size+1)) {s with heap:=sortedAll s.heap vs (List.toArray (p.toList.map fun i=>vs.getD i Value.none))}):wpAny (model prog w) A (call (.builtin "sorted") [.ref l]) Q E s:=by
 have hz:vs.length<=sizeLine:=by rw[sizeLine_eq];omega
 refine Calls.call_function_entry kind_sorted plain_sorted entry_sorted (args_sorted1 _) ?_;unfold Builtin.«sorted»;refine ZV (m:=checkCount "sorted" 1 1 _) (Zt (ZV (collect_list hl (ZV (wpAny_newList ?_)))));have hsz:((s.heap.push (seqObj "list" #[] 0)).update s.heap.objs.size (Obj.mapSeq (·++vs.toArray))).objs.size=s.heap.objs.size+1:=by rw[Heap.size_update,size_push']
 have hn:(((s.heap.push (seqObj "list" #[] 0)).update s.heap.objs.size (Obj.mapSeq (·++vs.toArray))).push (seqObj "list" vs.toArray 0)).get? (s.heap.objs.size+1)=some (seqObj "list" vs.toArray 0):=by
  have:=Xn ((s.heap.push (seqObj "list" #[] 0)).update s.heap.objs.size (Obj.mapSeq (·++vs.toArray))) (o:=seqObj "list" vs.toArray 0) rfl;rw[hsz]at this;exact this
 show wpAny _ _ _ _ _ {s with heap:=((s.heap.push (seqObj "list" #[] 0)).update s.heap.objs.size (Obj.mapSeq (·++vs.toArray))).push (seqObj "list" vs.toArray 0)};rw[hsz];refine ZV (VQ (wpAny_call_entry slot_list_sort ⟨_,hn,Y⟩ entry_list_sort (BJ (ks:=ks) ?_ hn (fun i hi=>?_) kl nd rK fun p hp hs=>⟨_,Y,Zt ⟨_,Y,h p hp hs⟩⟩) (args_list_sort _)))
 ·show A.units+1+1<cLine;omega
 ·obtain⟨a,us,n,g1,g2,g3⟩:=hk i hi;refine⟨a,us,n,g1,?_,g3⟩;have la:a<s.heap.objs.size:=Zr g2;unfold LN;rw[TF,TF,Heap.get?_update_ne,TF,Heap.get?_update_ne,TF];·exact g2
  ·exact Za la
  ·exact Za la
  ·rw[hsz];exact Za (X6 la)
  ·exact Za (X6 la)
  ·rw[Heap.size_update,size_push',hsz];exact Za (X6 (X6 la))
  ·rw[size_push',Heap.size_update,size_push',hsz];exact Za (X6 (X6 (X6 la)))
end
section
variable{X:Cx}
def zG(K:W.Frag):List V->Hp->VK->Prop:=fun vs H Q=>∃(a:Addr) (rs:List Addr) (ks:List (List Int)),vs=[V.ref a]/\Zz K H a (rs.map V.ref)/\ks.length=rs.length/\(∀(i:Nat) r,rs[i]?=some r->H r=some (.lst ((ks.getD i []).map V.int)))/\ks.Nodup/\rs.length<64/\
 ∀(wL:List Addr)(yd:List (List Int))(p:Addr),yd.length=wL.length->yd.Perm ks->yd.Pairwise (fun x y=>W4 x y=true)->(∀(i:Nat) r,wL[i]?=some r->H r=some (.lst ((yd.getD i []).map V.int)))->H p=none->Q (.ref p) (upd H p (.lst (wL.map V.ref)))
theorem JH:∀{rs:List Addr}{us:List Value},Vals (rs.map V.ref) us->us=rs.map Value.ref
 |[],us,h=>by
  cases h;rfl
 |r::rs,us,h=>by
  cases h with
  |cons J h2=>
   rw[JH h2];cases J;rfl
theorem Pg:∀rs:List Addr,Vals (rs.map V.ref) (rs.map Value.ref)
 |[]=>.nil
 |_::rs=>.cons Y (Pg rs)
theorem En(hu:X.A.units+64<cLine):N4 X (.builtin "sorted") (zG X.K):=by
 intro pins s σ H vs us Q I r h;obtain⟨a,rs,ks,rfl,hs,kl,hr,nd,rK,q⟩:=h;obtain⟨Y_,rv,hl,_⟩:=I.list hs;rw[Vals.xF r];have ei:=JH rv;subst ei;have lm:(rs.map Value.ref).length=rs.length:=Z3 ..
 have gd:∀i,i<rs.length->(rs.map Value.ref).getD i Value.none=Value.ref (rs.getD i 0):=fun i hi=>by simp[hi]
 refine Gq (ks:=ks) (by omega) hl.isList (fun i hi=>?_) (by rw[lm];exact kl) nd (by rw[lm];exact rK) fun p hp hs=>?_
 ·rw[lm]at hi;have e:rs[i]?=some (rs.getD i 0):=by simp[hi]
  obtain⟨js,m,v1,v2,_⟩:=I.lst (hr i _ e);exact⟨rs.getD i 0,js,m,gd i hi,v2,v1.ints⟩
 ·rw[lm]at hp hs;have ps:=hp.size;have pl:∀i,i<rs.length->p.getD i 0<rs.length:=fun i hi=>hp.lt hi;have eo:(p.toList.map fun i=>(rs.map Value.ref).getD i Value.none)=(p.toList.map fun i=>rs.getD i 0).map Value.ref:=by
   rw[Yv];refine V9 fun i hi=>?_;exact gd i (YW.mp (hp.perm.mem_iff.mp hi))
  have lo:((p.toList.map fun i=>rs.getD i 0).map V.ref).length<=sizeLine:=by
   rw[Z3,Z3,U_,ps];exact xD rK
  obtain⟨ep,rP⟩:=sortedAll_at s.heap (rs.map Value.ref) (List.toArray (p.toList.map fun i=>(rs.map Value.ref).getD i Value.none));rw[eo]at rP;refine⟨.ref _,upd H (s.heap.objs.size+1) (.lst ((p.toList.map fun i=>rs.getD i 0).map V.ref)),I.laid (t':=s.toks) (fun _ _=>sortedAll_old) (Nat.le_succ _) ?_,Y,q _ (p.toList.map fun i=>ks.getD i []) _ ?_ ?_ ?_ ?_ (I.Ya.fresh (Nat.le_succ _))⟩
  ·rw[eo];exact⟨lo,_,ep,Pg _,rP⟩
  ·rw[Z3,Z3]
  ·have:=hp.perm.map (fun i=>ks.getD i []);refine this.trans (.of_eq ?_);rw[<-kl];refine UQ fun i=>?_;by_cases hi:i<ks.length
   ·rw[Zf,XG hi,ZU hi];simp[hi]
   ·rw[YQ (by simp;omega),YQ (by omega)]
  ·rw[UM,PN];intro i j hi hj JX;rw[U_,ps]at hi hj;have:=hs i j JX hj;have g:∀i(h:i<p.toList.length),p.toList[i]=p.getD i 0:=fun i h=>by
    have h':i<p.size:=by simpa using h
    simp[Array.getD,h']
   rw[g,g];exact this
  ·intro i r hi;rw[Zf]at hi;obtain⟨j,hj,rfl⟩:=UL.mp hi;have jm:=YW.mp (hp.perm.mem_iff.mp (Y9 hj));have e:rs[j]?=some (rs.getD j 0):=by simp[jm]
   have:=hr j _ e;rw[ZX (l:=List.map _ _),Zf,hj];exact this
end
end L2
namespace L2
open PySem PySem.Spec PyProof.Rows
section
variable{prog:Program}{w:World}{A:Around}{R:Result->Shared->Prop}{I:Addr}{fp wr:List Addr}{n:Nat}{P:Nat->Value->Prop}{St:Nat->Heap->Prop}
def zF(n:Nat)(num:Nat->Int)(d v:Value):Prop:=(n=0/\v=d)\/∃m t,v=.int m t/\(∃j,j<n/\num j=m)/\∀j,j<n->num j<=m
def pO(h:Heap)(S:Addr)(i:Nat)(num:Nat->Int):Prop:=(i=0/\∃c,h.get? S=some {cls:=.type "list",dict:=none,data:=.seq #[] c,slots:=#[]})\/
 (0<i/\∃m t c,h.get? S=some {cls:=.type "list",dict:=none,data:=.seq #[.int m t,.int m t] c,slots:=#[]}/\(∃j,j<i/\num j=m)/\∀j,j<i->num j<=m)
theorem BI(W:Walks prog w A.in1 I fp wr n P St)(num:Nat->Int)(hP:∀i v,P i v->∃t,v=.int (num i) t)(S:Addr)(kX:S∉fp)(d:Value):∀(k i:Nat)(s:Shared),n-i=k->i<=n->St i s.heap->pO s.heap S i num->(∀v h' tk,zF n num d v->(∀b o,b∉wr->b≠S->s.heap.get? b=some o->h'.get? b=some o)->R (.ok (.ret v)) {s with heap:=h',toks:=tk})->codeAny (model prog w) A (.builtin "max.loop" ⟨[.ref I,.none,.ref S],[("default",d)]⟩) R s:=by
 have kW:S∉wr:=fun h=>kX (W.sub _ h);have Gp:(toString "max"++toString ".loop":String)="max.loop":=by decide
 intro k;induction k with
 |zero=>
  intro i s hk hi A4 hB hR;obtain rfl:i=n:=by omega
  refine codeAny_builtin F.entry_max_loop ?_;rw[Around.under_plainId TJ _];rcases hB with⟨h0,c,hS⟩|⟨h0,m,t,c,hS,hm⟩
  ·show wpAny _ A.in1 (seqItems? (.ref S)>>=_) _ _ s;refine ZV (wpAny_seqItems hS Y ?_);show wpAny _ A.in1 (tryCatch (pyNext (.ref I)) _>>=_) _ _ s;refine ZV (wpAny_tryCatch (W.done s _ _ A4 fun h' tk G_=>?_));refine ZV (wpAny_rule (Zt ?_));exact hR d h' tk (.inl ⟨h0,Y⟩) fun b o O _ e=>G_ b o O e
  ·show wpAny _ A.in1 (seqItems? (.ref S)>>=_) _ _ s;refine ZV (wpAny_seqItems hS Y ?_);show wpAny _ A.in1 (tryCatch (pyNext (.ref I)) _>>=_) _ _ s;refine ZV (wpAny_tryCatch (W.done s _ _ A4 fun h' tk G_=>?_));refine ZV (wpAny_updateSeq (G_ S _ kW hS) rfl (ZV (wpAny_letGo (Zt ?_))));exact hR _ _ tk (.inr ⟨m,t,Y,hm⟩) fun b o O wK e=>(UK _ _ (Xo wK)).trans (G_ b o O e)
 |succ k ih=>
  intro i s hk hi A4 hB hR;have Xd:i<n:=by omega
  refine codeAny_builtin F.entry_max_loop ?_;rw[Around.under_plainId TJ _];rcases hB with⟨h0,c,hS⟩|⟨h0,m,t,c,hS,⟨j0,iI,eQ⟩,hm⟩
  ·show wpAny _ A.in1 (seqItems? (.ref S)>>=_) _ _ s;refine ZV (wpAny_seqItems hS Y ?_);show wpAny _ A.in1 (tryCatch (pyNext (.ref I)) _>>=_) _ _ s;refine ZV (wpAny_tryCatch (W.item i s _ _ Xd A4 fun v h' tk hv wJ G_=>?_));obtain⟨t,rfl⟩:=hP i v hv;have rJ:=G_ S _ kW hS;show wpAny _ A.in1 (updateSeq S (fun _=>#[Value.int (num i) t,Value.int (num i) t])>>=_) _ _ _;refine ZV (wpAny_updateSeq rJ Y ?_);rw[Gp];refine Zt ⟨plainId_quiet TJ _,ih (i+1) _ (by omega) Xd (W.frame _ _ _ wJ fun b O o e=>(UK _ _ (fun h:S=b=>kX (by rw[h];exact O))).trans e)
    (.inr ⟨by omega,num i,t,_,Heap.get?_update_self _ rJ Y,⟨i,by omega,Y⟩,fun j hj=>?_⟩) fun v' h2 pN ug sX=>?_⟩
   ·rw[show j=i by omega];exact U9 _
   ·exact hR v' h2 pN ug fun b o O wK e=>sX b o O wK ((UK _ _ (Xo wK)).trans (G_ b o O e))
  ·show wpAny _ A.in1 (seqItems? (.ref S)>>=_) _ _ s;refine ZV (wpAny_seqItems hS Y ?_);show wpAny _ A.in1 (tryCatch (pyNext (.ref I)) _>>=_) _ _ s;refine ZV (wpAny_tryCatch (W.item i s _ _ Xd A4 fun v h' tk hv wJ G_=>?_));obtain⟨t',rfl⟩:=hP i v hv;have rJ:=G_ S _ kW hS;show wpAny _ A.in1 (tryCatch (holding [Value.int (num i) t',Value.int (num i) t'] (richCompare .Gt (Value.int (num i) t') (Value.int m t)>>=_)) _>>=_) _ _ _;refine ZV (wpAny_tryCatch (VQ (ZV (show wpAny _ _ (compareOp .Gt (Value.int (num i) t') (Value.int m t)) _ _ _ from gt_int ?_))));refine ZV (VQ (WJ (ZV (wpAny_letGo (Zt ?_)))));by_cases O:m<num i
   ·rw[ZR O];simp only[if_true];refine ZV (wpAny_updateSeq rJ Y (ZV (wpAny_letGo ?_)));rw[Gp];refine Zt ⟨plainId_quiet TJ _,ih (i+1) _ (by omega) Xd (W.frame _ _ _ wJ fun b O o e=>(UK _ _ (fun h:S=b=>kX (by rw[h];exact O))).trans e)
     (.inr ⟨by omega,num i,t',_,Heap.get?_update_self _ rJ Y,⟨i,by omega,Y⟩,fun j hj=>?_⟩) fun v' h2 pN ug sX=>?_⟩
    ·by_cases q:j<i
     ·have:=hm j q;omega
     ·rw[show j=i by omega];exact U9 _
    ·exact hR v' h2 pN ug fun b o O wK e=>sX b o O wK ((UK _ _ (Xo wK)).trans (G_ b o O e))
   ·rw[ZF O];simp only[PU,if_false];refine ZV (wpAny_letGo ?_);rw[Gp];refine Zt ⟨plainId_quiet TJ _,ih (i+1) _ (by omega) Xd wJ (.inr ⟨by omega,m,t,c,rJ,⟨j0,by omega,eQ⟩,fun j hj=>?_⟩) fun v' h2 pN ug sX=>?_⟩
    ·by_cases q:j<i;·exact hm j q
     ·rw[show j=i by omega];omega
    ·exact hR v' h2 pN ug fun b o O wK e=>sX b o O wK (G_ b o O e)
end
section
variable{prog:Program}{w:World}{A:Around}{E:Value->Shared->Prop}{s:Shared}{l:Addr}{Y_:List Value}{ns:List Int}{Q:Value->Shared->Prop}
theorem wI{id:String}{b:Builtin}{args:List Value}{kw:List (Str×Value)}{Q:Value->Shared->Prop}(hk:builtinKind id=none)(hp:plainId id=true)(O:entryFor table id=some b)(ha:argsOk id ⟨args,kw⟩)(hc:wpAny (model prog w) A.in1 (b ⟨args,kw⟩) (fun fin s'=>match fin with
 |.done f=>wants Q E (.ok f) s'
 |.again c'=>c'.quiet=true/\codeAny (model prog w) A c' (wants Q E) s') E s):wpAny (model prog w) A (call (.builtin id) args kw) Q E s:=by
 refine wpAny_call (codeAny_call_builtin hp O ?_);simp only[checkBuiltinCall,hk];cases q:Manifest.signature? id with
 |none=>exact Zt hc
 |some sig=>
  simp only[argsOk,q]at ha;show wpAny _ A.in1 (Bind.checkArgs id sig ⟨args,kw⟩) _ _ s;have e:Bind.checkArgs id sig ⟨args,kw⟩=pure ():=ha;rw[e];exact Zt hc
theorem BH(a d:Value):argsOk "max" ⟨[a],[(Str.ofString "default",d)]⟩:=by unfold argsOk;kernel_rfl
theorem zE(hh:A.handled=none)(hl:s.heap.IsList l Y_.toArray)(hi:IntsAre Y_ ns)(d:Value)(h:∀h' tk v,(∀b o,s.heap.get? b=some o->h'.get? b=some o)->zF ns.length (fun j=>ns.getD j 0) d v->Q v {s with heap:=h',toks:=tk}):wpAny (model prog w) A (call (.builtin "max") [.ref l] [(Str.ofString "default",d)]) Q E s:=by
 have Gp:(toString "max"++toString ".loop":String)="max.loop":=by decide
 have ll:l<s.heap.objs.size:=by
  obtain⟨_,e,_⟩:=id hl;exact Zr e
 refine wI F.kind_max F.plain_max F.entry_max (BH _ _) ?_;show wpAny _ A.in1 (Builtin.Builtins.bindParams "max" ["key","default"] 0 ⟨[],[(Str.ofString "default",d)]⟩>>=_) _ _ s;refine ZV (wpAny_of_eq (show Builtin.Builtins.bindParams "max" ["key","default"] 0 ⟨[],[(Str.ofString "default",d)]⟩=pure [none,some d]from rfl) (ZV (Zt (ZV (wpAny_pyIter_list hl (ZV (wpAny_newObj_type ?_)))))));rw[Gp];have eO:l≠s.heap.objs.size:=Za ll;have hz:Y_.toArray.size=ns.length:=by rw[Y6,hi.length]
 have W:=Walks.list (prog:=prog) (w:=w) (A:=A.in1) hh s.heap.objs.size l eO Y_.toArray;rw[hz]at W;have iH:(s.heap.push {cls:=.type "list_iterator",data:=.fields #[.ref l,.int 0 0]}).objs.size=s.heap.objs.size+1:=Xm ..
 have eM:(s.heap.push {cls:=.type "list_iterator",data:=.fields #[.ref l,.int 0 0]}).IsListIter s.heap.objs.size l 0/\(s.heap.push {cls:=.type "list_iterator",data:=.fields #[.ref l,.int 0 0]}).IsList l Y_.toArray:=⟨⟨_,Xn _ rfl,Y,Y⟩,hl.push _⟩;refine Zt ⟨plainId_quiet TJ _,BI W (fun j=>ns.getD j 0) (fun i v hv=>?_) (s.heap.push {cls:=.type "list_iterator",data:=.fields #[.ref l,.int 0 0]}).objs.size (fun hm=>?_) d _ 0 _ rfl (Zw _) (W.frame _ _ _ eM fun b _ o e=>YF _ e) (.inl ⟨Y,_,Xn _ rfl⟩) fun v h' tk hv hk=>?_⟩
 ·have hv:Y_[i]?=some v:=by simpa using hv
  have il:i<ns.length:=by rw[<-hi.length];exact(ZC.mp hv).1
  obtain⟨t,ht⟩:=hi.get i (ns.getD i 0) (by rw[ZX,ZU il];rfl);rw[hv]at ht;exact⟨t,Zb ht⟩
 ·rw[iH]at hm;rcases ZH.mp hm with q|q;·exact absurd q (Nat.succ_ne_self _)
  ·rcases ZH.mp q with q|q
   ·rw[<-q]at ll;exact absurd ll (Nat.not_lt.mpr (Nat.le_succ _))
   ·cases q
 ·refine h h' tk v (fun b o e=>hk b o (fun hm=>?_) ?_ (YF _ (YF _ e))) hv
  ·rcases ZH.mp hm with q|q;·exact absurd (q▸Zr e) (Wu _)
   ·cases q
  ·rw[iH];exact Za (X6 (Zr e))
end
section
variable{X:Cx}{e e2:Expr}{t tk:TA}{p pos xO:Pos}
def pM(K:W.Frag)(t tk:TA):TE:=fun σ H Q=>t σ H fun vs H1=>tk σ H1 fun zs H2=>∃a ns d,vs=[.ref a]/\zs=[.int d]/\Zz K H2 a (ns.map V.int)/\∀m,((ns=[]/\m=d)\/(m∈ns/\∀y,y∈ns->y<=m))->Q (.int m) H2
theorem wH(hc:X.calm=true)(hg:Gl X "max")(hm:X.mg "max"=none)(he:PA X [e] t)(hd:PK X [⟨some "default",e2,xO⟩] tk)(KL:(backTo pos (starEach [e] X.env)).any (·.1)=false:=by rfl)(O:backTo pos (starEach [e] X.env)=(false,eval e X.env)::backTo pos (starEach [] X.env):=by rfl):PE X (.Call (.Name "max" p) [e] [⟨some "default",e2,xO⟩] pos) (pM X.K t tk):=by
 intro pins s σ H Q I h;refine UW (OB I hg hm boot_max ?_ (by decide) (by decide));refine PyProof.Rows.callWith_kw (Yg (he pos pins s σ H _ I h) fun us s1 ⟨vs,H1,I1,r,q⟩=>Yg (hd pos pins s1 σ H1 _ I1 q) fun ws s2 ⟨zs,H2,I2,rz,a,ns,d,ev,ez,hs,q2⟩=>?_) O KL;subst ev ez;rw[Vals.xF r];obtain⟨Y_,rv,hl,_⟩:=I2.list hs;cases rz with
 |cons r1 r2=>
  cases r2;obtain⟨td,rfl⟩:=r1;refine zE (I2.ok.hd hc) hl.isList rv.ints (.int d td) fun h' aI v hk hv=>?_;rcases hv with⟨h0,rfl⟩|⟨m,t',rfl,⟨j,hj,e1⟩,h2⟩;·exact⟨.int d,H2,I2.kept hk,⟨_,Y⟩,q2 d (.inl ⟨XF.mp h0,Y⟩)⟩
  ·refine⟨.int m,H2,I2.kept hk,⟨_,Y⟩,q2 m (.inr ⟨?_,fun y hy=>?_⟩)⟩
   ·have e1:ns.getD j 0=m:=e1;rw[<-e1,ZX,ZU hj];exact W6 hj
   ·obtain⟨i,hi,rfl⟩:=X8.mp hy;have:ns.getD i 0<=m:=h2 i hi;rw[ZX,ZU hi]at this;exact this
end
end L2
namespace L2
open PySem PySem.Spec PyProof.Rows
structure NS(K:W.Frag)(a:Addr)(Zs:List (Int×Value)):Prop where
 ex:∃o es ep,K.lookup a=some o/\o.ExactDict/\o.data=.dict es ep/\(∀e,e∈es->∃k,Value.isInt k e.key=true/\e.hash=hashInt k)/\∀k,findBy Value.isInt es k=Zs.lookup k
 sys:(a==sysModules)=false
def pL(K:W.Frag)(td ty:TE):TE:=fun σ H Q=>td σ H fun x H1=>ty σ H1 fun y H2=>∃a Zs k u v,x=.ref a/\NS K a Zs/\y=.int k/\Zs.lookup k=some u/\RelV v u/\Q v H2
def kU(K:W.Frag)(ty td:TE):TE:=fun σ H Q=>ty σ H fun y H1=>td σ H1 fun x H2=>∃a Zs k,x=.ref a/\NS K a Zs/\y=.int k/\Q (.bl (Zs.lookup k).isSome) H2
def sW(X:Cx)(te:TE)(t:TA):TE:=fun σ H Q=>te σ H fun x H1=>∃f fd ps sp k,x=.ref f/\W.keepIn X.K (.ref f)=true/\Binds X.K fd ps []/\Y' X.prog X.w X.K X.mg X.base XO k f fd ps sp/\WA k X.A/\t σ H1 fun vs H2=>sp (vs++[]) H2 Q E0
section
variable{X:Cx}{pins:List (Addr×Obj)}{σ:St}{H:Hp}{s:Shared}
theorem NS.map{a:Addr}{Zs:List (Int×Value)}(h:NS X.K a Zs)(I:Inv X pins σ H s):s.heap.MapOf (intKind X.prog X.w) a (fun k=>Zs.lookup k):=by
 obtain⟨o,es,ep,J,h2,h3,h4,h5⟩:=h.ex;exact⟨o,es,ep,I.Fm a o J,h2,h3,h4,h5⟩
end
section
variable{X:Cx}{o i fe e:Expr}{es:List Expr}{pos:Pos}{td ty te:TE}{t:TA}
theorem IA(ho:PE X o td)(hi:PE X i ty)(hs:tV i):PE X (.Subscript o i pos) (pL X.K td ty):=by
 intro pins s σ H Q I h;refine DB PySem.F.slot_dict_getitem.lookup hs (Yg (ho pins s σ H _ I h) fun u s1 ⟨x,H1,I1,rx,q1⟩=>Yg (hi pins s1 σ H1 _ I1 q1) fun iv s2 ⟨y,H2,I2,ry,a,Zs,k,uv,v,ex,kd,ey,lk,rv,q2⟩=>?_);subst ex ey;obtain rfl:u=Value.ref a:=rx;obtain⟨tk,rfl⟩:=ry;have m:=kd.map I2;exact⟨m.typeIs,wpAny_getItem_of (knd:=intKind X.prog X.w) (k:=k) (by simp[intKind,Value.isInt]) m lk ⟨v,H2,I2.tok _,rv,q2⟩⟩
theorem sV(hi:PE X i ty)(ho:PE X o td):PC X .In i o (kU X.K ty td):=by
 intro pins s σ H Q I h;refine Yg (hi pins s σ H _ I h) fun iv s1 ⟨y,H1,I1,ry,q1⟩=>Yg (ho pins s1 σ H1 _ I1 q1) fun u s2 ⟨x,H2,I2,rx,a,Zs,k,ex,kd,ey,q2⟩=>?_;subst ex ey;obtain rfl:u=Value.ref a:=rx;obtain⟨tk,rfl⟩:=ry;exact wpAny_in_of (knd:=intKind X.prog X.w) (k:=k) (by simp[intKind,Value.isInt]) kd.sys (kd.map I2) ⟨.bl _,H2,I2.tok _,Y,q2⟩
theorem Gn(hf:PE X fe te)(ha:PA X (e::es) t)
 (eK:eval (.Call fe (e::es) [] pos) X.env=(do callWith pos (<-eval fe X.env) [] (backTo pos (starEach (e::es) X.env)) (backToKw pos (keywordEach [] X.env))):=by rfl)
 (he:starEach (e::es) X.env=(false,eval e X.env)::starEach es X.env:=by rfl)(KL:(backTo pos (starEach es X.env)).any (·.1)=false:=by rfl):PE X (.Call fe (e::es) [] pos) (sW X te t):=by
 intro pins s σ H Q I h;refine Call_ (Yg (hf pins s σ H _ I h) fun fv s1 ⟨x,H1,I1,rx,f,fd,ps,sp,k,ex,hk,O,F,hr,q⟩=>?_) eK;subst ex;obtain rfl:fv=Value.ref f:=rx;exact W.callWith_K (h₀:=X.base) I.ok.mod.qZ hk (Yg (ha pos pins s1 σ H1 _ I1 q) fun us s2 ⟨vs,H2,I2,r,q2⟩=>⟨I2.Fm,E5 F hr O .nil GV I2 r q2⟩) he KL
end
end L2
namespace Rw
open PySem PySem.Spec PyProof.Rows L2
def top(i:Nat):Stmt:=PySem.Challenge.pw_roadrest_s01_answers.main.body.getD i (.Pass ⟨0,0,0,0⟩)
structure Dn(K:W.Frag)(mg:Str->Option Value)(x:Str)(st:Stmt)(ps:List Str)(f:Addr)(fd:FuncData):Prop where
 F:vc K x x st f fd
 b:Binds K fd ps []
 m:mg x=some (.ref f)
structure Cn(K:W.Frag)(mg:Str->Option Value)(x q:Str)(C:Addr)(st:Stmt)(ps:List Str)(f:Addr)(fd:FuncData):Prop where
 cl:Cm K C
 pK:Mk K C f
 m:mg x=some (.ref C)
 F:vc K "__init__" q st f fd
 b:Binds K fd ps []
structure Mn(K:W.Frag)(x q:Str)(C:Addr)(st:Stmt)(ps:List Str)(f:Addr)(fd:FuncData):Prop where
 at_:Meth K C x f
 F:vc K x q st f fd
 b:Binds K fd ps []
def Gv(mg:Str->Option Value)(x:Str)(v:V):Prop:=∃u,mg x=some u/\RelV v u
structure Yt where
 To:Addr
 Tn:FuncData
 Ui:Addr
 Uh:FuncData
 C8:Addr
 C7:FuncData
 zD:Addr
 zC:FuncData
 C6:Addr
 C4:FuncData
 CZ:Addr
 CY:FuncData
 JG:Addr
 JF:FuncData
 zB:Addr
 zA:FuncData
 NR:Addr
 NQ:FuncData
 QG:Addr
 QF:FuncData
 QE:Addr
 QD:FuncData
 RB:Addr
 RA:FuncData
 Pf:Addr
 Pe:FuncData
 QC:Addr
 QB:FuncData
 JE:Addr
 JD:FuncData
 Gm:Addr
 Gk:FuncData
 LM:Addr
 LL:FuncData
 LK:Addr
 LJ:FuncData
 Rz:Addr
 Ry:FuncData
 LI:Addr
 LH:FuncData
 Sm:Addr
 Sl:FuncData
 CW:Addr
 CV:FuncData
 JC:Addr
 JB:FuncData
 Ug:Addr
 Ue:FuncData
 Tj:Addr
 Ti:FuncData
 Th:Addr
 Tg:FuncData
 zy:Addr
 zx:FuncData
 JA:Addr
 Jz:FuncData
 Rx:Addr
 Rv:FuncData
 NP:Addr
 NO:FuncData
 Sk:Addr
 Sj:FuncData
 NN:Addr
 NM:FuncData
 CU:Addr
 CT:FuncData
 Tf:Addr
 Te:FuncData
 NK:Addr
 NJ:FuncData
 Pd:Addr
 Pc:FuncData
 QA:Addr
 Qz:FuncData
 Pb:Addr
 Pa:FuncData
 Ru:Addr
 Rt:FuncData
 O_:Addr
 O9:FuncData
 NI:Addr
 NH:FuncData
 Si:Addr
 Sh:FuncData
 O8:Addr
 O7:FuncData
 Sg:Addr
 Sf:FuncData
 LG:Addr
 LF:FuncData
 LD:Addr
 LC:FuncData
 LB:Addr
 LA:FuncData
 Td:Addr
 Tc:FuncData
 NG:Addr
 NF:FuncData
 ND:Addr
 NC:FuncData
 Ud:Addr
 NB:FuncData
 Uc:Addr
 NA:FuncData
 Ub:Addr
 Nz:FuncData
 Ua:Addr
 Ny:FuncData
 U7:Addr
 O6:FuncData
 U6:Addr
 O5:FuncData
 T_:Addr
 Nw:FuncData
 V1:Addr
 Rr:FuncData
 Vw:Addr
 Qy:FuncData
 QY:Addr
 Jy:FuncData
 T9:Addr
 Nv:FuncData
 SQ:Addr
 Lz:FuncData
 U5:Addr
 O4:FuncData
 WG:Addr
 Tb:FuncData
 CS:Addr
 CQ:FuncData
 Vm:Addr
 Vl:FuncData
 T8:Addr
 Nu:FuncData
 SO:Addr
 Ly:FuncData
 Vv:Addr
 Qx:FuncData
 SN:Addr
 Lx:FuncData
 SM:Addr
 Lw:FuncData
 U4:Addr
 O2:FuncData
 Gj:Addr
 Gi:FuncData
 Lv:Addr
 Lu:FuncData
 Jx:Addr
 Om:FuncData
 V0:Addr
 Nt:Addr
 Nr:FuncData
 SK:Addr
 Nq:Addr
 Np:FuncData
 Rq:Addr
 Nn:Addr
 Nm:FuncData
 O1:Addr
 Ls:Addr
 Lr:FuncData
 Rp:Addr
 Nl:Addr
 Nk:FuncData
 Wo:Addr
 Qw:Addr
 Qv:FuncData
 Lq:Addr
 Lp:FuncData
structure Txt(K:W.Frag)(mg:Str->Option Value)(t:Yt):Prop where
 VZ:Dn K mg "common_divisor" (top 1) ["a","b"] t.To t.Tn
 Ve:Dn K mg "common_multiple" (top 2) ["a","b"] t.Ui t.Uh
 ratio:Dn K mg "ratio" (top 3) ["upper","lower"] t.C8 t.C7
 plus:Dn K mg "plus" (top 4) ["first","second"] t.zD t.zC
 times:Dn K mg "times" (top 5) ["first","second"] t.C6 t.C4
 minus:Dn K mg "minus" (top 6) ["first","second"] t.CZ t.CY
 divided:Dn K mg "divided" (top 7) ["first","second"] t.JG t.JF
 less:Dn K mg "less" (top 8) ["first","second"] t.zB t.zA
 QX:Dn K mg "are_units" (top 13) ["number"] t.NR t.NQ
 Nj:Dn K mg "copied_road" (top 14) ["road"] t.QG t.QF
 Ro:Dn K mg "copied_land" (top 15) ["land"] t.QE t.QD
 SJ:Dn K mg "without_road" (top 16) ["land","number"] t.RB t.RA
 Lo:Dn K mg "with_units" (top 17) ["land","units"] t.Pf t.Pe
 Ni:Dn K mg "cleared_row" (top 19) ["row","pivot_row","place","before"] t.QC t.QB
 cleared:Dn K mg "cleared" (top 20) ["rows"] t.JE t.JD
 Em:Dn K mg "traced" (top 25) ["net","arrivals","place"] t.Gm t.Gk
 Gh:Dn K mg "some_way" (top 26) ["net"] t.LM t.LL
 Gg:Dn K mg "grounded" (top 27) ["rows","source"] t.LK t.LJ
 O0:Dn K mg "balance_rows" (top 28) ["net","used","spread"] t.Rz t.Ry
 balanced:Dn K mg "balanced" (top 29) ["net","used"] t.LI t.LH
 Qu:Dn K mg "first_emptied" (top 30) ["load","target"] t.Sm t.Sl
 moved:Dn K mg "moved" (top 31) ["load","target"] t.CW t.CV
 settled:Dn K mg "settled" (top 32) ["net","load","used"] t.JC t.JB
 Se:Dn K mg "carried_heights" (top 33) ["net","load"] t.Ug t.Ue
 Rn:Dn K mg "spread_heights" (top 34) ["net","whole","heights","arrivals"] t.Tj t.Ti
 UC:Dn K mg "cheaper_detour" (top 35) ["net","load"] t.Th t.Tg
 rest:Dn K mg "rest" (top 36) ["net"] t.zy t.zx
 Iz:Dn K mg "rest_at" (top 38) ["land","costs","slopes"] t.JA t.Jz
 Xy:Dn K mg "resting_flow" (top 39) ["land"] t.Rx t.Rv
 QW:Dn K mg "best_flow" (top 40) ["land"] t.NP t.NO
 TV:Dn K mg "untolled_cost" (top 41) ["road","amount"] t.Sk t.Sj
 QV:Dn K mg "road_cost" (top 42) ["road","amount"] t.NN t.NM
 spent:Dn K mg "spent" (top 43) ["land","flow"] t.CU t.CT
 WO:Dn K mg "cheapest_costs" (top 44) ["land","flow"] t.Tf t.Te
 Ta:Dn K mg "cost_each" (top 45) ["land"] t.NK t.NJ
 Ln:Dn K mg "best_tolls" (top 46) ["land","best"] t.Pd t.Pc
 Nh:Dn K mg "better_shut" (top 47) ["land","cost"] t.QA t.Qz
 Lm:Dn K mg "first_shut" (top 53) ["land","amounts"] t.Pb t.Pa
 OZ:Dn K mg "first_uneven" (top 54) ["land","amounts"] t.Ru t.Rt
 Ll:Dn K mg "first_dear" (top 55) ["land","amounts"] t.O_ t.O9
 Jw:Dn K mg "judgement" (top 56) ["land","amounts"] t.NI t.NH
 Qt:Dn K mg "passed_places" (top 64) ["land","row"] t.Si t.Sh
 Lk:Dn K mg "next_roads" (top 65) ["land","passed"] t.O8 t.O7
 Vu:Dn K mg "ways_in_order" (top 66) ["land"] t.Sg t.Sf
 Gf:Dn K mg "way_cost" (top 67) ["land","flow","way"] t.LG t.LF
 Ge:Dn K mg "least_on" (top 68) ["flow","way"] t.LD t.LC
 Gd:Dn K mg "parts_of" (top 69) ["land","flow"] t.LB t.LA
 WN:Dn K mg "fractions_told" (top 72) ["fractions"] t.Td t.Tc
 QU:Dn K mg "list_told" (top 73) ["numbers"] t.NG t.NF
 QT:Dn K mg "cost_told" (top 74) ["cost"] t.ND t.NC
 Ol:Dn K mg "tell_land" (top 75) ["land","given"] t.Ud t.NB
 Oj:Dn K mg "tell_flow" (top 76) ["land","given"] t.Uc t.NA
 Oi:Dn K mg "tell_time" (top 77) ["land","given"] t.Ub t.Nz
 Oh:Dn K mg "tell_best" (top 78) ["land","given"] t.Ua t.Ny
 Qc:Dn K mg "tell_price" (top 79) ["land","given"] t.U7 t.O6
 Qb:Dn K mg "tell_tolls" (top 80) ["land","given"] t.U6 t.O5
 Og:Dn K mg "tell_cost" (top 81) ["land","given"] t.T_ t.Nw
 SI:Dn K mg "tell_without" (top 82) ["land","given"] t.V1 t.Rr
 Rm:Dn K mg "tell_better" (top 83) ["land","given"] t.Vw t.Qy
 Iy:Dn K mg "tell_at" (top 84) ["land","given"] t.QY t.Jy
 Of:Dn K mg "tell_ways" (top 85) ["land","given"] t.T9 t.Nv
 Lj:Dn K mg "tell_way" (top 86) ["land","given"] t.SQ t.Lz
 Qa:Dn K mg "tell_parts" (top 87) ["land","given"] t.U5 t.O4
 UB:Dn K mg "tell_judgement" (top 88) ["land","given"] t.WG t.Tb
 asked:Dn K mg "asked" (top 90) ["land","number","given"] t.CS t.CQ
 Wk:Dn K mg "are_base_and_slope" (top 100) ["base","slope"] t.Vm t.Vl
 Oe:Dn K mg "make_land" (top 101) ["office","given"] t.T8 t.Nu
 Li:Dn K mg "add_road" (top 102) ["office","given"] t.SO t.Ly
 Rl:Dn K mg "change_road" (top 103) ["office","given"] t.Vv t.Qx
 Lh:Dn K mg "set_toll" (top 104) ["office","given"] t.SN t.Lx
 Lg:Dn K mg "set_shut" (top 105) ["office","given"] t.SM t.Lw
 P_:Dn K mg "set_demand" (top 106) ["office","given"] t.U4 t.O2
 answer:Dn K mg "answer" (top 109) ["office","number","given"] t.Gj t.Gi
 Gb:Dn K mg "call_end" (top 110) ["calls","place"] t.Lv t.Lu
 answers:Dn K mg "answers" (top 111) ["calls"] t.Jx t.Om
 Road:Cn K mg "Road" "Road.__init__" t.V0 (inClass (top 11) 0) ["self","tail","head","base","slope"] t.Nt t.Nr
 Land:Cn K mg "Land" "Land.__init__" t.SK (inClass (top 12) 0) ["self","places","source","goal","units"] t.Nq t.Np
 X2:Cn K mg "Link" "Link.__init__" t.Rq (inClass (top 22) 0) ["self","tail","head","cost","slope"] t.Nn t.Nm
 Net:Cn K mg "Net" "Net.__init__" t.O1 (inClass (top 23) 0) ["self","places","source","goal","units","links"] t.Ls t.Lr
 Load:Cn K mg "Load" "Load.__init__" t.Rp (inClass (top 24) 0) ["self","amounts","whole"] t.Nl t.Nk
 UA:Cn K mg "Office" "Office.__init__" t.Wo (inClass (top 99) 0) ["self"] t.Qw t.Qv
 OY:Mn K "carrying" "Load.carrying" t.Rp (inClass (top 24) 1) ["self"] t.Lq t.Lp
 Yc:YD K t.V0 "tail"
 YA:YD K t.V0 "head"
 WM:YD K t.V0 "base"
 Xx:YD K t.V0 "slope"
 Xc:YD K t.V0 "toll"
 X0:YD K t.V0 "shut"
 Yw:YD K t.SK "places"
 Xv:YD K t.SK "source"
 Xb:YD K t.SK "goal"
 Xw:YD K t.SK "units"
 ZK:YD K t.SK "roads"
 YS:YD K t.Rq "tail"
 Y4:YD K t.Rq "head"
 WL:YD K t.Rq "cost"
 VY:YD K t.Rq "slope"
 WE:YD K t.O1 "places"
 U3:YD K t.O1 "source"
 P9:YD K t.O1 "goal"
 Ng:YD K t.O1 "units"
 XZ:YD K t.O1 "links"
 Y3:YD K t.Rp "amounts"
 W8:YD K t.Rp "whole"
 Yh:YD K t.Wo "land"
 El:Gv mg "MOST_UNITS" (.int (1000))
 pJ:Gv mg "RESTS" (.int (0))
 Iw:Gv mg "ON_SHUT_ROAD" (.int (1))
 zw:Gv mg "NOT_EVEN" (.int (2))
 Iv:Gv mg "NOT_CHEAPEST" (.int (3))
 X1:Gv mg "WRONG_NUMBER" (.int (-1))
 VC:Gv mg "NOT_THERE" (.int (-2))
 Ek:Gv mg "WRONG_LIST" (.int (-3))
 SH:Gv mg "NO_WAY" (.int (-4))
 kT:Gv mg "FULL" (.int (-5))
 wG:Gv mg "NO_LAND" (.int (-8))
 Nf:Gv mg "MOST_JUDGED" (.int (1000000000))
 Ga:Gv mg "MOST_PLACES" (.int (6))
 Ej:Gv mg "MOST_ROADS" (.int (9))
 BG:Gv mg "MOST_BASE" (.int (1000))
 Ei:Gv mg "MOST_SLOPE" (.int (1000))
 OX:Gv mg "MOST_OF_TOLL" (.int (1000000))
 BE:Gv mg "LAND_CALL" (.int (1))
 Eh:Gv mg "JUDGE_CALL" (.int (20))
 WB:mg "len"=none
 uU:mg "abs"=none
 Od:mg "list"=none
 pI:mg "min"=none
 pH:mg "max"=none
 zu:mg "sorted"=none
 nodict:mg "dict"=none
 T7:mg "range"=none
 Vd:mg "enumerate"=none
 Lf:mg "zip"=none
section
variable{X:Cx}
theorem gl{x:Str}{v:V}{pos:Pos}(h:Gv X.mg x v)(hg:Gl X x:=by rfl)(hd:(x==("__debug__":Str))=false:=by decide):PE X (.Name x pos) (tC v):=by
 obtain⟨u,hu,r⟩:=h;exact xX hg hu r hd
theorem cl{x:Str}{st:Stmt}{ps:List Str}{f:Addr}{fd:FuncData}{sp:Sp}{j k:Nat}{e:Expr}{es:List Expr}{t:TA}{p pos:Pos}(D:Dn X.K X.mg x st ps f fd)(G:Y' X.prog X.w X.K X.mg X.base XO j f fd ps sp)(hr:WA k X.A)(hj:j<=k)(hg:Gl X x)(ha:PA X (e::es) t)(E4:(x==("__debug__":Str))=false:=by decide)(he:starEach (e::es) X.env=(false,eval e X.env)::starEach es X.env:=by rfl)(KL:(backTo pos (starEach es X.env)).any (·.1)=false:=by rfl):PE X (.Call (.Name x p) (e::es) [] pos) (vo sp [] E0 t):=xQ G (hr.mono hj) hg D.m D.F.kp D.b .nil GV ha E4 he KL
theorem mk{x q:Str}{C:Addr}{st:Stmt}{ps:List Str}{f:Addr}{fd:FuncData}{sp:Sp}{j k:Nat}{e:Expr}{es:List Expr}{t:TA}{p pos:Pos}(D:Cn X.K X.mg x q C st ps f fd)(G:Y' X.prog X.w X.K X.mg X.base XO j f fd ps sp)(hr:WA k X.A)(hj:j+1<=k)(hg:Gl X x)(ha:PA X (e::es) t)(E4:(x==("__debug__":Str))=false:=by decide)(he:starEach (e::es) X.env=(false,eval e X.env)::starEach es X.env:=by rfl)(KL:(backTo pos (starEach es X.env)).any (·.1)=false:=by rfl):PE X (.Call (.Name x p) (e::es) [] pos) (DJ C sp [] E0 t):=xP D.pK G (hr.mono hj) hg D.m D.b .nil GV ha E4 he KL
theorem eJ{x q:Str}{C:Addr}{st:Stmt}{ps:List Str}{f:Addr}{fd:FuncData}{sp:Sp}{j k:Nat}{p pos:Pos}(D:Cn X.K X.mg x q C st ps f fd)(G:Y' X.prog X.w X.K X.mg X.base XO j f fd ps sp)(hr:WA k X.A)(hj:j+1<=k)(hg:Gl X x)(E4:(x==("__debug__":Str))=false:=by decide):PE X (.Call (.Name x p) [] [] pos) (DJ C sp [] E0 Ck):=AS D.pK G (hr.mono hj) hg D.m D.b .nil GV E4
end
end Rw
namespace L2
open PySem PySem.Spec PyProof.Rows
theorem ZY.Zx{H0 H:Hp}(s:ZY H0 H){a:Addr}(h:H0 a=none)(o:HO):ZY H0 (upd H a o):=fun b u e=>by
 rw[ZW (ZA e h)];exact s b u e
theorem ZY.new{H:Hp}{a:Addr}(h:H a=none)(o:HO):ZY H (upd H a o):=ZY.Zx (ZY.refl H) h o
end L2
namespace Rw
open PySem PySem.Spec PyProof.Rows L2
abbrev St:=L2.St
theorem Le{H:Hp}{a b:Addr}{o u:HO}(O:H b=some u)(h:H a=none):upd H a o b=some u:=by
 rw[ZW (ZA O h)];exact O
theorem CP{Z_:It}{n:Nat}{g:TG}{tb:TS}{D:Ends}{σ:St}{H:Hp}(Pv:Nat->St->Hp->Prop)(h0:Pv 0 σ H)(kS:∀i σ H,i<n->Pv i σ H->Z_.go i H)(A4:∀σ H,Pv n σ H->Z_.stop n H)(hs:∀i x σ H H',i<n->Pv i σ H->Z_.Hq i H x H'->g x σ H' fun Wt H2=>tb {D with nx:=Pv (i+1),ct:=Pv (i+1),bk:=D.nx} Wt H2)(hd:∀σ H,Pv n σ H->D.nx σ H):∃W:Nat->Nat->St->Hp->Prop,(∃m,W 0 m σ H)/\∀i m σ H,W i m σ H->(Z_.stop i H/\D.nx σ H)\/(Z_.go i H/\∃N:St->Hp->Prop,(∀XQ H',N XQ H'->∃m',m'<m/\W (i+1) m' XQ H')/\∀x H',Z_.Hq i H x H'->g x σ H' fun Wt H2=>tb {D with nx:=N,ct:=N,bk:=D.nx} Wt H2):=by
 refine⟨fun i m σ H=>m=n-i/\i<=n/\Pv i σ H,⟨n,by simp,Zw _,h0⟩,?_⟩;rintro i m σ H ⟨rfl,hi,p⟩;by_cases Xd:i<n;·exact .inr ⟨kS i σ H Xd p,Pv (i+1),fun XQ H' p'=>⟨n-(i+1),by omega,Y,Xd,p'⟩,fun x H' y=>hs i x σ H H' Xd p y⟩
 ·have e:i=n:=by omega
  subst e;exact .inl ⟨A4 σ H p,hd σ H p⟩
abbrev BD(K:W.Frag)(i j:Nat):TG:=qN K 2 (A5 (Kc i) (A5 (Kc j) qO))
theorem Ld{K:W.Frag}{i j:Nat}{T:Addr}{x y:V}{σ:St}{H:Hp}{Q:St->Hp->Prop}(h:Vj K H T [x,y])(q:Q ((σ.set i (some x)).set j (some y)) H):BD K i j (.ref T) σ H Q:=
 ⟨T,[x,y],Y,h,Y,x,[y],Y,y,[],Y,Y,q⟩
theorem Vk{K:PySem.W.Frag}{a:Addr}{xs:List V}{i j:Nat}{tb:TS}{D:Ends}{σ:St}{H:Hp}(Pv:Nat->St->Hp->Prop)(h0:Pv 0 σ H)(hl:∀k σ H,k<=xs.length->Pv k σ H->Zz K H a xs)(hs:∀k x σ H H',xs[k]?=some x->Pv k σ H->ZY H H'->tb {D with nx:=Pv (k+1),ct:=Pv (k+1),bk:=D.nx} ((σ.set i (some (.int k))).set j (some x)) H')(hd:∀σ H,Pv xs.length σ H->D.nx σ H):∃W:Nat->Nat->St->Hp->Prop,(∃m,W 0 m σ H)/\∀i' m σ H,W i' m σ H->((vg K a).stop i' H/\D.nx σ H)\/((vg K a).go i' H/\∃N:St->Hp->Prop,(∀XQ H',N XQ H'->∃m',m'<m/\W (i'+1) m' XQ H')/\∀x H',(vg K a).Hq i' H x H'->BD K i j x σ H' fun Wt H2=>tb {D with nx:=N,ct:=N,bk:=D.nx} Wt H2):=by
 refine CP (n:=xs.length) Pv h0 (fun k σ H hk p=>⟨xs,xs[k],hl k σ H (Y5 hk) p,by simp[hk]⟩) (fun σ H p=>⟨xs,hl _ σ H (ZM _) p,ZM _⟩) (fun k v σ H H' hk p y=>?_) hd;obtain⟨T,x,rfl,hT,rfl,hx⟩:=y;exact Ld (Vj.of Z4) (hs k x σ H _ (hx xs (hl k σ H (Y5 hk) p)) p (ZY.new hT _))
theorem MD{K:PySem.W.Frag}{a b:Addr}{xs ys:List V}{i j:Nat}{tb:TS}{D:Ends}{σ:St}{H:Hp}(he:xs.length=ys.length)(Pv:Nat->St->Hp->Prop)(h0:Pv 0 σ H)(hl:∀k σ H,k<=xs.length->Pv k σ H->Zz K H a xs/\Zz K H b ys)(hs:∀k x y σ H H',xs[k]?=some x->ys[k]?=some y->Pv k σ H->ZY H H'->tb {D with nx:=Pv (k+1),ct:=Pv (k+1),bk:=D.nx} ((σ.set i (some x)).set j (some y)) H')(hd:∀σ H,Pv xs.length σ H->D.nx σ H):∃W:Nat->Nat->St->Hp->Prop,(∃m,W 0 m σ H)/\∀i' m σ H,W i' m σ H->((vf K a b).stop i' H/\D.nx σ H)\/((vf K a b).go i' H/\∃N:St->Hp->Prop,(∀XQ H',N XQ H'->∃m',m'<m/\W (i'+1) m' XQ H')/\∀x H',(vf K a b).Hq i' H x H'->BD K i j x σ H' fun Wt H2=>tb {D with nx:=N,ct:=N,bk:=D.nx} Wt H2):=by
 refine CP (n:=xs.length) Pv h0 (fun k σ H hk p=>⟨xs,ys,xs[k],ys[k]'(by omega),(hl k σ H (Y5 hk) p).1,(hl k σ H (Y5 hk) p).2,by simp[hk],by simp⟩) (fun σ H p=>⟨xs,ys,(hl _ σ H (ZM _) p).1,(hl _ σ H (ZM _) p).2,.inl (ZM _)⟩) (fun k v σ H H' hk p y=>?_) hd;obtain⟨T,x,y,rfl,hT,rfl,hx,hy⟩:=y;have q:=hl k σ H (Y5 hk) p;exact Ld (Vj.of Z4) (hs k x y σ H _ (hx xs q.1) (hy ys q.2) p (ZY.new hT _))
theorem zr{Z_:It}{n:Nat}{g:TG}{tt:TT}{te:TE}{vs:List Nat}{σ:St}{H1:Hp}{D:Addr}{Qd:Hp->Prop}(Pv:Nat->Hp->Prop)(h0:Pv 0 (upd H1 D (.lst [])))(kS:∀i H,i<n->Pv i H->Z_.go i H)(A4:∀H,Pv n H->Z_.stop n H)(hs:∀i x H H',i<n->Pv i H->Z_.Hq i H x H'->g x (wipe σ vs) H' fun Wt H2=>wipe Wt vs=wipe σ vs/\tt Wt H2 fun b H3=>if b=true then te Wt H3 fun y H4=>∃acc,H4 D=some (.lst acc)/\acc.length<sizeLine/\Pv (i+1) (upd H4 D (.lst (acc++[y])))else Pv (i+1) H3)(hd:∀H,Pv n H->Qd H):∃W:Nat->Nat->Hp->Prop,(∃m,W 0 m (upd H1 D (.lst [])))/\∀i m H,W i m H->(Z_.stop i H/\Qd H)\/(Z_.go i H/\∃Nx:Hp->Prop,(∀H',Nx H'->∃m',m'<m/\W (i+1) m' H')/\∀x H',Z_.Hq i H x H'->g x (wipe σ vs) H' fun Wt H2=>wipe Wt vs=wipe σ vs/\tt Wt H2 fun b H3=>if b=true then te Wt H3 fun y H4=>∃acc,H4 D=some (.lst acc)/\acc.length<sizeLine/\Nx (upd H4 D (.lst (acc++[y])))else Nx H3):=by
 refine⟨fun i m H=>m=n-i/\i<=n/\Pv i H,⟨n,by simp,Zw _,h0⟩,?_⟩;rintro i m H ⟨rfl,hi,p⟩;by_cases Xd:i<n;·exact .inr ⟨kS i H Xd p,Pv (i+1),fun H' p'=>⟨n-(i+1),by omega,Y,Xd,p'⟩,fun x H' y=>hs i x H H' Xd p y⟩
 ·have e:i=n:=by omega
  subst e;exact .inl ⟨A4 H p,hd H p⟩
theorem MC {K : PySem.W.Frag} {a : Addr} {xs : List V} {i j : Nat} {tt : TT} {te : TE} {vs : List Nat} {σ : St} {H1 : Hp} {D : Addr} {Qd : Hp -> Prop} (Pv : Nat -> Hp -> Prop) (h0 : Pv 0 (upd H1 D (.lst []))) (hl : ∀ k H, k <= xs.length -> Pv k H -> Zz K H a xs)
    (hs : ∀ k x H H', xs[k]? = some x -> Pv k H -> ZY H H' -> wipe (((wipe σ vs).set i (some (.int k))).set j (some x)) vs = wipe σ vs /\ tt (((wipe σ vs).set i (some (.int k))).set j (some x)) H' fun b H3 =>
      if b = true then te (((wipe σ vs).set i (some (.int k))).set j (some x)) H3 fun y H4 => ∃ acc, H4 D = some (.lst acc) /\ acc.length < sizeLine /\ Pv (k + 1) (upd H4 D (.lst (acc ++ [y]))) else Pv (k + 1) H3) (hd : ∀ H, Pv xs.length H -> Qd H) :
    ∃ W : Nat -> Nat -> Hp -> Prop, (∃ m, W 0 m (upd H1 D (.lst []))) /\ ∀ i' m H, W i' m H ->
      ((vg K a).stop i' H /\ Qd H) \/ ((vg K a).go i' H /\ ∃ Nx : Hp -> Prop, (∀ H', Nx H' -> ∃ m', m' < m /\ W (i' + 1) m' H') /\ ∀ x H', (vg K a).Hq i' H x H' -> BD K i j x (wipe σ vs) H' fun Wt H2 => wipe Wt vs = wipe σ vs /\ tt Wt H2 fun b H3 =>
        if b = true then te Wt H3 fun y H4 => ∃ acc, H4 D = some (.lst acc) /\ acc.length < sizeLine /\ Nx (upd H4 D (.lst (acc ++ [y]))) else Nx H3) := by
  refine zr (n := xs.length) Pv h0 (fun k H hk p => ⟨xs, xs[k], hl k H (Y5 hk) p, by simp [hk]⟩) (fun H p => ⟨xs, hl _ H (ZM _) p, ZM _⟩) (fun k v H H' hk p y => ?_) hd
  obtain ⟨T, x, rfl, hT, rfl, hx⟩ := y
  exact Ld (Vj.of Z4) (hs k x H _ (hx xs (hl k H (Y5 hk) p)) p (ZY.new hT _))
theorem Eg {K : PySem.W.Frag} {a b : Addr} {xs ys : List V} {i j : Nat} {tt : TT} {te : TE} {vs : List Nat} {σ : St} {H1 : Hp} {D : Addr} {Qd : Hp -> Prop} (he : xs.length = ys.length) (Pv : Nat -> Hp -> Prop) (h0 : Pv 0 (upd H1 D (.lst []))) (hl : ∀ k H, k <= xs.length -> Pv k H -> Zz K H a xs /\ Zz K H b ys)
    (hs : ∀ k x y H H', xs[k]? = some x -> ys[k]? = some y -> Pv k H -> ZY H H' -> wipe (((wipe σ vs).set i (some x)).set j (some y)) vs = wipe σ vs /\ tt (((wipe σ vs).set i (some x)).set j (some y)) H' fun b H3 =>
      if b = true then te (((wipe σ vs).set i (some x)).set j (some y)) H3 fun y H4 => ∃ acc, H4 D = some (.lst acc) /\ acc.length < sizeLine /\ Pv (k + 1) (upd H4 D (.lst (acc ++ [y]))) else Pv (k + 1) H3) (hd : ∀ H, Pv xs.length H -> Qd H) :
    ∃ W : Nat -> Nat -> Hp -> Prop, (∃ m, W 0 m (upd H1 D (.lst []))) /\ ∀ i' m H, W i' m H ->
      ((vf K a b).stop i' H /\ Qd H) \/ ((vf K a b).go i' H /\ ∃ Nx : Hp -> Prop, (∀ H', Nx H' -> ∃ m', m' < m /\ W (i' + 1) m' H') /\ ∀ x H', (vf K a b).Hq i' H x H' -> BD K i j x (wipe σ vs) H' fun Wt H2 => wipe Wt vs = wipe σ vs /\ tt Wt H2 fun b H3 =>
        if b = true then te Wt H3 fun y H4 => ∃ acc, H4 D = some (.lst acc) /\ acc.length < sizeLine /\ Nx (upd H4 D (.lst (acc ++ [y]))) else Nx H3) := by
  refine zr (n := xs.length) Pv h0 (fun k H hk p => ⟨xs, ys, xs[k], ys[k]'(by omega), (hl k H (Y5 hk) p).1, (hl k H (Y5 hk) p).2, by simp [hk], by simp⟩) (fun H p => ⟨xs, ys, (hl _ H (ZM _) p).1, (hl _ H (ZM _) p).2, .inl (ZM _)⟩) (fun k v H H' hk p y => ?_) hd
  obtain ⟨T, x, y, rfl, hT, rfl, hx, hy⟩ := y
  have q := hl k H (Y5 hk) p
  exact Ld (Vj.of Z4) (hs k x y H _ (hx xs q.1) (hy ys q.2) p (ZY.new hT _))
theorem Uz{n:Nat}{g:TG}{tb:TS}{D:Ends}{σ:St}{H:Hp}(Pv:Nat->St->Hp->Prop)(h0:Pv 0 σ H)(hs:∀(i:Nat) σ H,i<n->Pv i σ H->g (.int (i:Int)) σ H fun Wt H2=>tb {D with nx:=Pv (i+1),ct:=Pv (i+1),bk:=D.nx} Wt H2)(hd:∀σ H,Pv n σ H->D.nx σ H):∃W:Nat->Nat->St->Hp->Prop,(∃m,W 0 m σ H)/\∀i m σ H,W i m σ H->((Fe 0 n).stop i H/\D.nx σ H)\/((Fe 0 n).go i H/\∃N:St->Hp->Prop,(∀XQ H',N XQ H'->∃m',m'<m/\W (i+1) m' XQ H')/\∀x H',(Fe 0 n).Hq i H x H'->g x σ H' fun Wt H2=>tb {D with nx:=N,ct:=N,bk:=D.nx} Wt H2):=
 Cq Pv h0 (fun i σ H hi p=>by rw[Int.zero_add];exact hs i σ H hi p) hd
theorem QS {n : Nat} {g : TG} {tt : TT} {te : TE} {vs : List Nat} {σ : St} {H1 : Hp} {D : Addr} {Qd : Hp -> Prop} (Pv : Nat -> Hp -> Prop) (h0 : Pv 0 (upd H1 D (.lst [])))
    (hs : ∀ (i : Nat) H, i < n -> Pv i H -> g (.int (i : Int)) (wipe σ vs) H fun Wt H2 => wipe Wt vs = wipe σ vs /\ tt Wt H2 fun b H3 =>
      if b = true then te Wt H3 fun y H4 => ∃ acc, H4 D = some (.lst acc) /\ acc.length < sizeLine /\ Pv (i + 1) (upd H4 D (.lst (acc ++ [y]))) else Pv (i + 1) H3) (hd : ∀ H, Pv n H -> Qd H) :
    ∃ W : Nat -> Nat -> Hp -> Prop, (∃ m, W 0 m (upd H1 D (.lst []))) /\ ∀ i m H, W i m H ->
      ((Fe 0 n).stop i H /\ Qd H) \/ ((Fe 0 n).go i H /\ ∃ Nx : Hp -> Prop, (∀ H', Nx H' -> ∃ m', m' < m /\ W (i + 1) m' H') /\ ∀ x H', (Fe 0 n).Hq i H x H' -> g x (wipe σ vs) H' fun Wt H2 => wipe Wt vs = wipe σ vs /\ tt Wt H2 fun b H3 =>
        if b = true then te Wt H3 fun y H4 => ∃ acc, H4 D = some (.lst acc) /\ acc.length < sizeLine /\ Nx (upd H4 D (.lst (acc ++ [y]))) else Nx H3) :=
  AG Pv h0 (fun i H hi p => by rw [Int.zero_add]; exact hs i H hi p) hd
abbrev IL(H:Hp)(a:Addr)(ns:List Int):Prop:=H a=some (.lst (ns.map V.int))
theorem int_at{ns:List Int}{k:Nat}{x:V}(h:(ns.map V.int)[k]?=some x):k<ns.length/\x=.int (ns.getD k 0):=by
 rw[Zf]at h;obtain⟨n,hn,rfl⟩:=UL.mp h;refine⟨(ZC.mp hn).1,?_⟩;rw[ZX,hn];rfl
theorem Wy{ns:List Int}{k:Nat}(h:k<ns.length):Q6 (ns.map V.int) (k:Int)=some (.int (ns.getD k 0)):=by
 refine S1 ?_;rw[Zf,ZX,ZU h];rfl
theorem YI{rs:List Addr}{k:Nat}{r:Addr}(h:rs[k]?=some r):Q6 (rs.map V.ref) (k:Int)=some (.ref r):=by
 refine S1 ?_;rw[Zf,h];rfl
theorem Yk{rs:List Addr}{k:Nat}{x:V}(h:(rs.map V.ref)[k]?=some x):∃r,rs[k]?=some r/\x=.ref r:=by
 rw[Zf]at h;obtain⟨r,hr,rfl⟩:=UL.mp h;exact⟨r,hr,Y⟩
theorem CO(ns:List Int)(n:Int):ns.map V.int++[.int n]=(ns++[n]).map V.int:=by rw[Y1];rfl
theorem U2(rs:List Addr)(r:Addr):rs.map V.ref++[.ref r]=(rs++[r]).map V.ref:=by rw[Y1];rfl
theorem U1{α:Type}{l:List α}{x y:α}{j:Nat}(h:(l++[x])[j]?=some y):(j<l.length/\l[j]?=some y)\/(j=l.length/\y=x):=by
 by_cases hj:j<l.length
 ·rw[V_ hj]at h;exact .inl ⟨hj,h⟩
 ·rw[UO (by omega)]at h;by_cases q:j-l.length=0
  ·rw[q]at h;cases h;exact .inr ⟨by omega,Y⟩
  ·rw[YQ (by simp;omega)]at h;cases h
theorem rH{A B:Prop}{c:Bool}(hc:c=true)(h:A):if c=true then A else B:=by rw[Z7 hc];exact h
theorem pG{A B:Prop}{c:Bool}(hc:c=false)(h:B):if c=true then A else B:=by rw[Z8 (by rw[hc];simp)];exact h
section
variable{X:Cx}{K:W.Frag}
theorem P8{i j k:Nat}{x y:Str}{px py pos:Pos}(hK:X.K=K)(hc:X.calm=true)(hN:X.N.Nodup)(hi:X.N[i]?=some x)(hj:X.N[j]?=some y)(hx:Loc X.env.scope x)(hy:Loc X.env.scope y)(hf:X.fn x=true\/X.env.scope.names.lookup x=some .local:=by first|exact .inl rfl|exact .inr rfl|assumption)(kR:X.fn y=true\/X.env.scope.names.lookup y=some .local:=by first|exact .inl rfl|exact .inr rfl|assumption):PG X (.Tuple [.Name x px,.Name y py] k pos) (BD K i j):=by
 subst hK;exact V7 hc (Y0 (ZD hN hi hx hf) (Y0 (ZD hN hj hy kR) WX))
theorem U0{e:Expr}{f:Str}{pos:Pos}{ta:TE}(hK:X.K=K)(he:PE X e ta)(O:attributeBase e f X.env (eval e X.env)=eval e X.env):PE X (.Attribute e f pos) (xR K ta f):=by
 subst hK;exact ZZ he O
theorem zq(hK:X.K=K):oj X (qz K):=by
 subst hK;exact ZO
end
theorem Uy{X:Cx}:qL X (fun o i H Q=>∃p xs k v,o=.ref p/\i=.int k/\Zz X.K H p xs/\0<=k/\Q6 xs k=some v/\Q v H):=by
 intro pins s σ H o i ov iv Q I ro ri h;obtain⟨p,xs,k,v,rfl,rfl,hs,h0,ha,q⟩:=h;cases ro;obtain⟨t,rfl⟩:=ri;obtain⟨Y_,r,pl,hz⟩:=I.list hs;obtain⟨j,J,h2,h3,h4,h5⟩:=Je ha;obtain⟨w,ew,Cf⟩:=r.get h2;have hl:=r.length;have hn:=Mr;have hj:k.toNat=j:=by
  rw[seqIndex_of h0 h5]at J;exact Zb J
 exact wpAny_getItem_list pl.isList h0 (by omega) (by rw[hj];simpa using ew) ⟨v,H,I,Cf,q⟩
end Rw
namespace Rw
open PySem PySem.Spec PyProof.Rows L2 RR
def Fr(H:Hp)(a:Addr)(q:Rat):Prop:=H a=some (.tup [.int q.num,.int q.den])
theorem Fr.up{H H':Hp}{a:Addr}{q:Rat}(h:Fr H a q)(s:ZY H H'):Fr H' a q:=s _ _ h
def Hz:Nat:=33554432
theorem CN{n:Nat}{x:Int}(h:Bd n x):Builtin.Int.intBits x<=n:=by
 unfold Builtin.Int.intBits;split;·exact Zw _
 ·rename_i q;have h0:x.natAbs≠0:=fun z=>q (by rw[Int.natAbs_eq_zero.mp z];rfl);have:=(Nat.log2_lt h0).mpr h;omega
theorem XT{x y:Int}(hx:Bd Hz x)(hy:Bd Hz y):IntMulOk x y:=mulOk_of_bits (CN hx) (CN hy) (by decide)
theorem zp{q:Rat}(h:0<q):0<q.num:=by
 have J:=Tx.mpr (YH h);have h2:q.num≠0:=fun z=>by
  have:=Rat.num_eq_zero.mp z;rw[this]at h;exact absurd h (by decide)
 omega
def kQ:Sp:=fun vs H Q _=>∃a b:Int,vs=[.int a,.int b]/\0<=a/\0<=b/\Q (.int ((Int.gcd a b:Nat):Int)) H
def kP:Sp:=fun vs H Q _=>∃a b:Int,vs=[.int a,.int b]/\0<a/\0<b/\Bd Hz a/\Bd Hz b/\Q (.int ((Int.lcm a b:Nat):Int)) H
def wF:Sp:=fun vs H Q _=>∃u l:Int,vs=[.int u,.int l]/\0<l/\∀p,H p=none->Q (.ref p) (upd H p (.tup [.int (qr u l).num,.int (qr u l).den]))
def zo(f:Rat->Rat->Rat):Sp:=fun vs H Q _=>∃a b p q,vs=[.ref a,.ref b]/\Fr H a p/\Fr H b q/\Rb Hz p/\Rb Hz q/\∀H' c,ZY H H'->Fr H' c (f p q)->Q (.ref c) H'
def pF:Sp:=fun vs H Q _=>∃a b p q,vs=[.ref a,.ref b]/\Fr H a p/\Fr H b q/\Rb Hz p/\Rb Hz q/\0<q/\∀H' c,ZY H H'->Fr H' c (p/q)->Q (.ref c) H'
def sU:Sp:=fun vs H Q _=>∃a b p q,vs=[.ref a,.ref b]/\Fr H a p/\Fr H b q/\Rb Hz p/\Rb Hz q/\Q (.bl (decide (p<q))) H
section
variable{P:Program}{w:World}{K:W.Frag}{mg:Str->Option Value}{base:Heap}{t:Yt}
theorem OW:ZN ["a","b","left"] ["a","b"] (Z0 (top 1)):=⟨Y,Y,Y,by decide+kernel,Y,by decide+kernel,by decide+kernel⟩
theorem VX(T:Txt K mg t):Y' P w K mg base XO 33 t.To t.Tn ["a","b"] kQ:=by
 have sc:=OW;refine T.VZ.F.ok sc (fun vs H Q E h=>?_) (fun Yx A outer s H vs Q E hr h=>?_)
 ·obtain⟨a,b,rfl,_⟩:=h;rfl
 ·obtain⟨a,b,rfl,ha,O,k⟩:=h;refine⟨_,(Z5 (Vr Zl (ZJ N3 (Z 1) ZS (Zu _)) (Z5 (ZT (i:=2) sc.nd Y (Or.inl Y) (Zg ui (Z 0) (Z 1)))
   (Z5 (ZT (i:=0) sc.nd Y (Or.inl Y) (Z 1))
   (Z1 (ZT (i:=1) sc.nd Y (Or.inl Y) (Z 2))))))
   (Z1 (ZP (Z 0)))),?_⟩
  refine⟨fun m σ H'=>H'=H/\∃(x y:Int) (l:Option V),σ=[some (.int x),some (.int y),l]/\0<=x/\0<=y/\m=y.toNat/\Int.gcd x y=Int.gcd a b,⟨_,Y,a,b,none,Y,ha,O,Y,Y⟩,?_⟩;rintro m σ H' ⟨rfl,x,y,l,rfl,hx,hy,rfl,hg⟩;refine⟨_,Y,_,_,Y,Y,_,Y,Ws (fun c=>?_) (fun c=>?_)⟩
  ·have qw:0<y:=ZG c;refine⟨fun XQ Iu=>∃m',m'<y.toNat/\(Iu=H'/\∃(x y:Int) (l:Option V),XQ=[some (.int x),some (.int y),l]/\0<=x/\0<=y/\m'=y.toNat/\Int.gcd x y=Int.gcd a b),fun _ _ h=>h,?_⟩;refine⟨_,Y,_,Y,_,_,Y,Y,qw,_,Y,_,Y,?_⟩;have J:=Int.emod_nonneg x (by omega:y≠0);have h2:=Int.emod_lt_of_pos x qw;exact⟨(x%y).toNat,by omega,Y,y,x%y,_,Y,hy,J,Y,by rw[<-hg];exact zV hx qw⟩
  ·have eI:y=0:=by
    have:¬0<y:=fun q=>c (ZR q);omega
   subst eI;refine⟨_,Y,?_⟩;have e:x=((Int.gcd a b:Nat):Int):=by
    rw[<-hg,Int.gcd_zero_right];omega
   rw[e];exact k
theorem P7:ZN ["a","b"] ["a","b"] (Z0 (top 2)):=⟨Y,Y,Y,by decide+kernel,Y,by decide+kernel,by decide+kernel⟩
theorem Ux(T:Txt K mg t):Y' P w K mg base XO 34 t.Ui t.Uh ["a","b"] kP:=by
 have sc:=P7;refine T.Ve.F.ok sc (fun vs H Q E h=>?_) (fun Yx A outer s H vs Q E hr h=>?_)
 ·obtain⟨a,b,rfl,_⟩:=h;rfl
 ·have hd:=hr.div (by decide);obtain⟨a,b,rfl,ha,O,ba,bb,k⟩:=h;refine⟨_,(Z1 (ZP (Zg YX (Zg (V5 hd) (Z 0) (cl T.VZ (VX T) hr (by decide) rfl (Z6 (Z 0) (Z6 (Z 1) Z2)))) (Z 1)))),?_⟩;refine⟨_,Y,_,Y,_,Y,a,b,Y,by omega,by omega,_,_,Y,Y,JQ O,_,Y,_,_,Y,Y,XT ba.div bb,?_⟩;show Q (V.int (a/((Int.gcd a b:Nat):Int)*b)) H;rw[GI ha O];exact k
theorem zm:ZN ["upper","lower","divisor"] ["upper","lower"] (Z0 (top 3)):=⟨Y,Y,Y,by decide+kernel,Y,by decide+kernel,by decide+kernel⟩
theorem Yo(T:Txt K mg t):Y' P w K mg base XO 34 t.C8 t.C7 ["upper","lower"] wF:=by
 have sc:=zm;refine T.ratio.F.ok sc (fun vs H Q E h=>?_) (fun Yx A outer s H vs Q E hr h=>?_)
 ·obtain⟨u,l,rfl,_⟩:=h;rfl
 ·have hd:=hr.div (by decide);obtain⟨u,l,rfl,hl,k⟩:=h;refine⟨_,(Z5 (ZT (i:=2) sc.nd Y (Or.inl Y) (cl T.VZ (VX T) hr (by decide) rfl (Z6 (YV Hm (by rfl) T.uU boot_abs (Z6 (Z 0) Z2)) (Z6 (Z 1) Z2))))
   (Z1 (ZP (E7 (Z6 (Zg (V5 hd) (Z 0) (Z 2)) (Z6 (Zg (V5 hd) (Z 1) (Z 2)) Z2)))))),?_⟩
  have hg:=JQ (a:=u) hl;refine⟨_,Y,u,Y,_,Y,_,_,Y,by split<;>omega,by omega,?_⟩;rw[Di];refine⟨_,Y,_,Y,_,_,Y,Y,hg,_,Y,_,Y,_,_,Y,Y,hg,(by show 2<=sizeLine;decide),fun p hp=>?_⟩;have:=k p hp;rw[IK hl Y,LX hl rfl]at this;exact this
theorem wD:ZN ["first","second"] ["first","second"] (Z0 (top 4)):=⟨Y,Y,Y,by decide+kernel,Y,by decide+kernel,by decide+kernel⟩
theorem UZ(T:Txt K mg t):Y' P w K mg base XO 35 t.zD t.zC ["first","second"] (zo (·+·)):=by
 have sc:=wD;refine T.plus.F.ok sc (fun vs H Q E h=>?_) (fun Yx A outer s H vs Q E hr h=>?_)
 ·obtain⟨a,b,p,q,rfl,_⟩:=h;rfl
 ·obtain⟨a,b,p,q,rfl,hp,hq,bp,bq,k⟩:=h;refine⟨_,(Z1 (ZP (cl T.ratio (Yo T) hr (by decide) rfl (Z6 (Zg S4 (Zg YX (ZL Yr (Z 0) ZS (fun _ _=>rfl)) (ZL Yr (Z 1) ZS (fun _ _=>rfl))) (Zg YX (ZL Yr (Z 1) ZS (fun _ _=>rfl)) (ZL Yr (Z 0) ZS (fun _ _=>rfl)))) (Z6 (Zg YX (ZL Yr (Z 0) ZS (fun _ _=>rfl)) (ZL Yr (Z 1) ZS (fun _ _=>rfl))) Z2))))),?_⟩;refine⟨_,Y,_,_,_,_,Y,Y,Vj.of hp,Y,_,Y,_,_,_,_,Y,Y,Vj.of hq,Y,_,_,Y,Y,XT bp.num bq.den,
   _,Y,_,_,_,_,Y,Y,Vj.of hq,Y,_,Y,_,_,_,_,Y,Y,Vj.of hp,Y,_,_,Y,Y,XT bq.num bp.den,_,_,Y,Y,
   _,Y,_,_,_,_,Y,Y,Vj.of hp,Y,_,Y,_,_,_,_,Y,Y,Vj.of hq,Y,_,_,Y,Y,XT bp.den bq.den,_,_,Y,Vn p q,fun c hc=>?_⟩
  rw[IJ];exact k _ c (ZY.new hc _) Z4
theorem zk:ZN ["first","second"] ["first","second"] (Z0 (top 5)):=⟨Y,Y,Y,by decide+kernel,Y,by decide+kernel,by decide+kernel⟩
theorem Lc(T:Txt K mg t):Y' P w K mg base XO 35 t.C6 t.C4 ["first","second"] (zo (·*·)):=by
 have sc:=zk;refine T.times.F.ok sc (fun vs H Q E h=>?_) (fun Yx A outer s H vs Q E hr h=>?_)
 ·obtain⟨a,b,p,q,rfl,_⟩:=h;rfl
 ·obtain⟨a,b,p,q,rfl,hp,hq,bp,bq,k⟩:=h;refine⟨_,(Z1 (ZP (cl T.ratio (Yo T) hr (by decide) rfl (Z6 (Zg YX (ZL Yr (Z 0) ZS (fun _ _=>rfl)) (ZL Yr (Z 1) ZS (fun _ _=>rfl))) (Z6 (Zg YX (ZL Yr (Z 0) ZS (fun _ _=>rfl)) (ZL Yr (Z 1) ZS (fun _ _=>rfl))) Z2))))),?_⟩;refine⟨_,Y,_,_,_,_,Y,Y,Vj.of hp,Y,_,Y,_,_,_,_,Y,Y,Vj.of hq,Y,_,_,Y,Y,XT bp.num bq.num,
   _,Y,_,_,_,_,Y,Y,Vj.of hp,Y,_,Y,_,_,_,_,Y,Y,Vj.of hq,Y,_,_,Y,Y,XT bp.den bq.den,_,_,Y,Vn p q,fun c hc=>?_⟩
  rw[GJ];exact k _ c (ZY.new hc _) Z4
theorem zj:ZN ["first","second"] ["first","second"] (Z0 (top 6)):=⟨Y,Y,Y,by decide+kernel,Y,by decide+kernel,by decide+kernel⟩
theorem F'(T:Txt K mg t):Y' P w K mg base XO 36 t.CZ t.CY ["first","second"] (zo (·-·)):=by
 have sc:=zj;refine T.minus.F.ok sc (fun vs H Q E h=>?_) (fun Yx A outer s H vs Q E hr h=>?_)
 ·obtain⟨a,b,p,q,rfl,_⟩:=h;rfl
 ·obtain⟨a,b,p,q,rfl,hp,hq,bp,bq,k⟩:=h;refine⟨_,(Z1 (ZP (cl T.plus (UZ T) hr (by decide) rfl (Z6 (Z 0) (Z6 (E7 (Z6 (Ho Mt (ZL Yr (Z 1) ZS (fun _ _=>rfl))) (Z6 (ZL Yr (Z 1) ZS (fun _ _=>rfl)) Z2))) Z2))))),?_⟩;refine⟨_,Y,_,Y,_,_,_,_,Y,Y,Vj.of hq,Y,_,Y,_,Y,_,_,_,_,Y,Y,Vj.of hq,Y,(by show 2<=sizeLine;decide),fun c hc=>⟨a,c,p,-q,Y,Fr.up hp (ZY.new hc _),?_,bp,bq.neg,fun H' d s f=>?_⟩⟩
  ·show upd H c _ c=_;rw[Z4,Rat.neg_num,Rat.neg_den]
  ·have f:Fr H' d (p+-q):=f;rw[<-Rat.sub_eq_add_neg]at f;exact k H' d ((ZY.new hc _).trans s) f
theorem Ef:ZN ["first","second"] ["first","second"] (Z0 (top 7)):=⟨Y,Y,Y,by decide+kernel,Y,by decide+kernel,by decide+kernel⟩
theorem Ee(T:Txt K mg t):Y' P w K mg base XO 35 t.JG t.JF ["first","second"] pF:=by
 have sc:=Ef;refine T.divided.F.ok sc (fun vs H Q E h=>?_) (fun Yx A outer s H vs Q E hr h=>?_)
 ·obtain⟨a,b,p,q,rfl,_⟩:=h;rfl
 ·obtain⟨a,b,p,q,rfl,hp,hq,bp,bq,q0,k⟩:=h;refine⟨_,(Z1 (ZP (cl T.ratio (Yo T) hr (by decide) rfl (Z6 (Zg YX (ZL Yr (Z 0) ZS (fun _ _=>rfl)) (ZL Yr (Z 1) ZS (fun _ _=>rfl))) (Z6 (Zg YX (ZL Yr (Z 0) ZS (fun _ _=>rfl)) (ZL Yr (Z 1) ZS (fun _ _=>rfl))) Z2))))),?_⟩;refine⟨_,Y,_,_,_,_,Y,Y,Vj.of hp,Y,_,Y,_,_,_,_,Y,Y,Vj.of hq,Y,_,_,Y,Y,XT bp.num bq.den,
   _,Y,_,_,_,_,Y,Y,Vj.of hp,Y,_,Y,_,_,_,_,Y,Y,Vj.of hq,Y,_,_,Y,Y,XT bp.den bq.num,_,_,Y,U8 (V3 p) (zp q0),fun c hc=>?_⟩
  rw[tG p q q0];exact k _ c (ZY.new hc _) Z4
theorem wC:ZN ["first","second"] ["first","second"] (Z0 (top 8)):=⟨Y,Y,Y,by decide+kernel,Y,by decide+kernel,by decide+kernel⟩
theorem Ir(T:Txt K mg t):Y' P w K mg base XO 33 t.zB t.zA ["first","second"] sU:=by
 have sc:=wC;refine T.less.F.ok sc (fun vs H Q E h=>?_) (fun Yx A outer s H vs Q E hr h=>?_)
 ·obtain⟨a,b,p,q,rfl,_⟩:=h;rfl
 ·obtain⟨a,b,p,q,rfl,hp,hq,bp,bq,k⟩:=h;refine⟨_,(Z1 (ZP (DK Kb (Zg YX (ZL Yr (Z 0) ZS (fun _ _=>rfl)) (ZL Yr (Z 1) ZS (fun _ _=>rfl))) (Zg YX (ZL Yr (Z 1) ZS (fun _ _=>rfl)) (ZL Yr (Z 0) ZS (fun _ _=>rfl))) (Zu _)))),?_⟩;refine⟨_,Y,_,_,_,_,Y,Y,Vj.of hp,Y,_,Y,_,_,_,_,Y,Y,Vj.of hq,Y,_,_,Y,Y,XT bp.num bq.den,
   _,Y,_,_,_,_,Y,Y,Vj.of hq,Y,_,Y,_,_,_,_,Y,Y,Vj.of hp,Y,_,_,Y,Y,XT bq.num bp.den,_,_,Y,Y,?_⟩
  show Q (V.bl (decide (p.num*q.den<q.num*p.den))) H;rw[w4];exact k
end
end Rw
namespace Rw
open PySem PySem.Spec PyProof.Rows L2 RR
open RhRoads (Road Land)
theorem zi{K:W.Frag}{H:Hp}{a C dx:Addr}{fs:List (Str×V)}{f:Str}{y:V}{Q:Hp->Prop}(h:H a=some (.ins C dx fs))(c:Cm K C)(n:YD K C f)(l:fs.length<1000)(q:Q (upd H a (.ins C dx (S3 f y fs)))):∃a' C' iG q_,V.ref a=.ref a'/\H a'=some (.ins C' iG q_)/\Cm K C'/\YD K C' f/\q_.length<1000/\Q (upd H a' (.ins C' iG (S3 f y q_))):=⟨a,C,dx,fs,Y,h,c,n,l,q⟩
def Nd(r:Road)(ta:Addr):List (Str×V):=[("tail",.int r.from_),("head",.int r.to_),("base",.int r.base),("slope",.int r.slope),("toll",.ref ta),("shut",.int r.shut.toNat)]
def uT(n s g u:Nat)(la:Addr):List (Str×V):=[("places",.int n),("source",.int s),("goal",.int g),("units",.int u),("roads",.ref la)]
structure F_(t:Yt)(H:Hp)(a ta:Addr)(r:Road):Prop where
 obj:∃dx,H a=some (.ins t.V0 dx (Nd r ta))
 toll:Fr H ta r.toll
def WK(t:Yt)(H:Hp)(a:Addr)(r:Road):Prop:=∃ta,F_ t H a ta r
structure Rk(t:Yt)(H:Hp)(a la:Addr)(rs:List Addr)(l:Land):Prop where
 obj:∃dx,H a=some (.ins t.SK dx (uT l.places l.source l.goal l.units la))
 lst:H la=some (.lst (rs.map V.ref))
 len:rs.length=l.roads.length
 nd:rs.Nodup
 at_:∀i ra,rs[i]?=some ra->WK t H ra (rd l i)
def WY(t:Yt)(H:Hp)(a:Addr)(l:Land):Prop:=∃la rs,Rk t H a la rs l
theorem F_.up{t:Yt}{H H':Hp}{a ta:Addr}{r:Road}(h:F_ t H a ta r)(s:ZY H H'):F_ t H' a ta r:=⟨let⟨dx,e⟩:=h.obj;⟨dx,s _ _ e⟩,h.toll.up s⟩
theorem WK.up{t:Yt}{H H':Hp}{a:Addr}{r:Road}(h:WK t H a r)(s:ZY H H'):WK t H' a r:=let⟨ta,e⟩:=h;⟨ta,e.up s⟩
theorem Rk.up{t:Yt}{H H':Hp}{a la:Addr}{rs:List Addr}{l:Land}(h:Rk t H a la rs l)(s:ZY H H'):Rk t H' a la rs l:=⟨let⟨dx,e⟩:=h.obj;⟨dx,s _ _ e⟩,s _ _ h.lst,h.len,h.nd,fun i ra e=>(h.at_ i ra e).up s⟩
theorem WY.up{t:Yt}{H H':Hp}{a:Addr}{l:Land}(h:WY t H a l)(s:ZY H H'):WY t H' a l:=let⟨la,rs,e⟩:=h;⟨la,rs,e.up s⟩
section
variable{P:Program}{w:World}{K:W.Frag}{mg:Str->Option Value}{base:Heap}{t:Yt}
theorem zg{H:Hp}{a b:Addr}{o:HO}(h:H a=some o)(O:H b=none):b≠a:=fun q=>by rw[q,h]at O;cases O
theorem BC:qr 0 1=0:=by
 rw[ED];rfl
def wB(t:Yt):Sp:=fun vs H Q _=>∃(p dx:Addr) (u v b s:Nat),vs=[.ref p,.int u,.int v,.int b,.int s]/\H p=some (.ins t.V0 dx [])/\
 ∀H' ta,F_ t H' p ta ⟨u,v,b,s,0,false⟩->(∀b o,H b=some o->b≠p->H' b=some o)->Q .Xs H'
theorem Iq:ZN ["self","tail","head","base","slope"] ["self","tail","head","base","slope"] (Z0 (inClass (top 11) 0)):=⟨Y,Y,Y,by decide+kernel,Y,by decide+kernel,by decide+kernel⟩
theorem OV(T:Txt K mg t):Y' P w K mg base XO 35 t.Nt t.Nr ["self","tail","head","base","slope"] (wB t):=by
 have sc:=Iq;refine T.Road.F.ok sc (fun vs H Q E h=>?_) (fun Yx A outer s H vs Q E hr h=>?_)
 ·obtain⟨p,dx,u,v,b,s,rfl,_⟩:=h;rfl
 ·obtain⟨p,dx,u,v,b,s,rfl,hp,k⟩:=h;refine⟨_,(Z5 (YK (Z 0) (Z 1) rfl)
   (Z5 (YK (Z 0) (Z 2) rfl)
   (Z5 (YK (Z 0) (Z 3) rfl)
   (Z5 (YK (Z 0) (Z 4) rfl)
   (Z5 (YK (Z 0) (cl T.ratio (Yo T) hr (by decide) rfl (Z6 ZS (Z6 ZS Z2))) rfl)
   (Z1 (YK (Z 0) ZS Y))))))),?_⟩
  refine⟨_,Y,_,Y,zi hp T.Road.cl T.Yc (by decide) ⟨_,Y,_,Y,zi Z4 T.Road.cl T.YA (by show 1<1000;decide) ⟨_,Y,_,Y,zi Z4 T.Road.cl T.WM (by show 2<1000;decide) ⟨_,Y,_,Y,zi Z4 T.Road.cl T.Xx (by show 3<1000;decide) ⟨0,1,Y,by decide,fun ta nU=>⟨_,Y,zi (Le Z4 nU) T.Road.cl T.Xc (by show 4<1000;decide) ⟨_,Y,zi Z4 T.Road.cl T.X0 (by show 5<1000;decide) ?_⟩⟩⟩⟩⟩⟩⟩;have n1:ta≠p:=zg Z4 nU;refine k _ ta ⟨⟨dx,Z4⟩,?_⟩ fun b o e O=>?_
  ·show _=some _;rw[ZW n1,ZW n1,Z4,BC]
  ·have h2:b≠ta:=fun q=>by
    subst q;rw[ZW O,ZW O,ZW O,ZW O,e]at nU;cases nU
   rw[ZW O,ZW O,ZW h2,ZW O,ZW O,ZW O,ZW O];exact e
def wA(t:Yt):Sp:=fun vs H Q _=>∃(p dx:Addr) (n s g u:Nat),vs=[.ref p,.int n,.int s,.int g,.int u]/\H p=some (.ins t.SK dx [])/\
 ∀H' la,H la=none->H' p=some (.ins t.SK dx (uT n s g u la))->H' la=some (.lst [])->(∀b o,H b=some o->b≠p->H' b=some o)->Q .Xs H'
theorem Ip:ZN ["self","places","source","goal","units"] ["self","places","source","goal","units"] (Z0 (inClass (top 12) 0)):=⟨Y,Y,Y,by decide+kernel,Y,by decide+kernel,by decide+kernel⟩
theorem OU(T:Txt K mg t):Y' P w K mg base XO 33 t.Nq t.Np ["self","places","source","goal","units"] (wA t):=by
 have sc:=Ip;refine T.Land.F.ok sc (fun vs H Q E h=>?_) (fun Yx A outer s H vs Q E hr h=>?_)
 ·obtain⟨p,dx,n,s,g,u,rfl,_⟩:=h;rfl
 ·obtain⟨p,dx,n,s,g,u,rfl,hp,k⟩:=h;refine⟨_,(Z5 (YK (Z 0) (Z 1) rfl)
   (Z5 (YK (Z 0) (Z 2) rfl)
   (Z5 (YK (Z 0) (Z 3) rfl)
   (Z5 (YK (Z 0) (Z 4) rfl)
   (Z1 (YK (Z 0) (Zy Z2) rfl)))))),?_⟩
  refine⟨_,Y,_,Y,zi hp T.Land.cl T.Yw (by decide) ⟨_,Y,_,Y,zi Z4 T.Land.cl T.Xv (by show 1<1000;decide) ⟨_,Y,_,Y,zi Z4 T.Land.cl T.Xb (by show 2<1000;decide) ⟨_,Y,_,Y,zi Z4 T.Land.cl T.Xw (by show 3<1000;decide) ⟨Zw _,fun la sT=>⟨_,Y,zi (Le Z4 sT) T.Land.cl T.ZK (by show 4<1000;decide) ?_⟩⟩⟩⟩⟩⟩;have n1:la≠p:=zg Z4 sT;have h0:H la=none:=by
   rw[ZW n1,ZW n1,ZW n1,ZW n1]at sT;exact sT
  refine k _ la h0 Z4 (by rw[ZW n1,Z4]) fun b o e O=>?_;rw[ZW O,ZW (fun q=>by rw[q,h0]at e;cases e),ZW O,ZW O,ZW O,ZW O];exact e
def wu:Sp:=fun vs H Q _=>∃n:Int,vs=[.int n]/\Q (.bl (decide (1<=n/\n<=1000))) H
theorem Io:ZN ["number"] ["number"] (Z0 (top 13)):=⟨Y,Y,Y,by decide+kernel,Y,by decide+kernel,by decide+kernel⟩
theorem SG(T:Txt K mg t):Y' P w K mg base XO 33 t.NR t.NQ ["number"] wu:=by
 have sc:=Io;refine T.QX.F.ok sc (fun vs H Q E h=>?_) (fun Yx A outer s H vs Q E hr h=>?_)
 ·obtain⟨n,rfl,_⟩:=h;rfl
 ·obtain⟨n,rfl,k⟩:=h;refine⟨_,(Z1 (ZP (Hn RU RU ZS (Z 0) (gl T.El)))),?_⟩;refine⟨_,Y,_,_,Y,Y,_,Y,Ws (fun c=>?_) (fun c=>?_)⟩
  ·have c:=ZG c;refine⟨_,_,Y,Y,?_⟩;have e:decide (1<=n/\n<=1000)=decide (n<=1000):=by by_cases q:n<=1000<;>simp[q,c]
   rw[e]at k;exact k
  ·have c:¬1<=n:=fun q=>c (ZR q);have e:decide (1<=n/\n<=1000)=false:=by simp[c]
   rw[e]at k;exact k
def wq(t:Yt):Sp:=fun vs H Q _=>∃a r,vs=[.ref a]/\WK t H a r/\∀H' b,H b=none->ZY H H'->WK t H' b r->Q (.ref b) H'
theorem La:ZN ["road","twin"] ["road"] (Z0 (top 14)):=⟨Y,Y,Y,by decide+kernel,Y,by decide+kernel,by decide+kernel⟩
theorem K'(T:Txt K mg t):Y' P w K mg base XO 37 t.QG t.QF ["road"] (wq t):=by
 have sc:=La;refine T.Nj.F.ok sc (fun vs H Q E h=>?_) (fun Yx A outer s H vs Q E hr h=>?_)
 ·obtain⟨a,r,rfl,_⟩:=h;rfl
 ·obtain⟨a,r,rfl,⟨ta,hR⟩,k⟩:=h;refine⟨_,(Z5 (ZT (i:=1) sc.nd Y (Or.inl Y) (mk T.Road (OV T) hr (by decide) rfl (Z6 (ZZ (Z 0) rfl) (Z6 (ZZ (Z 0) rfl) (Z6 (ZZ (Z 0) rfl) (Z6 (ZZ (Z 0) rfl) Z2))))))
   (Z5 (YK (Z 1) (ZZ (Z 0) rfl) rfl)
   (Z5 (YK (Z 1) (ZZ (Z 0) rfl) rfl)
   (Z1 (ZP (Z 1)))))),?_⟩
  obtain⟨TU,ea⟩:=hR.obj;refine⟨_,Y,_,_,_,_,_,Y,ea,T.Road.cl,T.Yc,Y,_,Y,_,_,_,_,_,Y,ea,T.Road.cl,T.YA,Y,_,Y,_,_,_,_,_,Y,ea,T.Road.cl,T.WM,Y,_,Y,_,_,_,_,_,Y,ea,T.Road.cl,T.Xx,Y,?_⟩;intro x dx nx nd ne;refine⟨x,dx,_,_,_,_,Y,Z4,fun H1 tb hB kp=>⟨Y,?_⟩⟩;have s1:ZY H H1:=ZY.made nx nd kp;have eF:=hR.up s1;obtain⟨iF,e1⟩:=hB.obj;have eE:a≠x:=ZA ea nx;have Hy:=s1 _ _ ea;refine⟨_,Y,_,_,_,_,_,Y,Hy,T.Road.cl,T.Xc,Y,_,Y,_,_,_,_,Y,e1,T.Road.cl,T.Xc,(by show 6<1000;decide),_,Y,_,_,_,_,_,Y,(by rw[ZW eE];exact Hy),T.Road.cl,T.X0,Y,_,Y,_,_,_,_,Y,Z4,T.Road.cl,T.X0,(by show 6<1000;decide),_,Y,?_⟩;refine k _ x nx (fun b o e=>?_) ⟨ta,⟨iF,?_⟩,?_⟩
  ·have O:b≠x:=ZA e nx;rw[ZW O,ZW O];exact s1 _ _ e
  ·rw[Z4];rfl
  ·have O:ta≠x:=ZA hR.toll nx;show _=some _;rw[ZW O,ZW O];exact eF.toll
end
end Rw
namespace Rw
open PySem PySem.Spec PyProof.Rows L2 RR
open RhRoads (Road Land)
theorem Xu{H:Hp}{b D:Addr}{o u:HO}{xs:List V}(h:H b=some o)(hD:H D=some (.lst xs))(n:∀ys,o≠.lst ys):upd H D u b=some o:=by
 rw[ZW (fun q=>by rw[q,hD]at h;exact n _ (Zb h).symm)];exact h
theorem SF{H:Hp}{b D C dx:Addr}{o u:HO}{fs:List (Str×V)}(h:H b=some o)(hD:H D=some (.ins C dx fs))(n:∀C dx fs,o≠.ins C dx fs):upd H D u b=some o:=by
 rw[ZW (fun q=>by rw[q,hD]at h;exact n _ _ _ (Zb h).symm)];exact h
theorem WK.lst{t:Yt}{H:Hp}{b D:Addr}{u:HO}{xs:List V}{r:Road}(h:WK t H b r)(hD:H D=some (.lst xs)):WK t (upd H D u) b r:=by
 obtain⟨ta,⟨dx,e⟩,f⟩:=h;exact⟨ta,⟨dx,Xu e hD fun ys q=>by cases q⟩,Xu f hD fun ys q=>by cases q⟩
theorem WK.ins{t:Yt}{H:Hp}{b D C dx:Addr}{u:HO}{fs:List (Str×V)}{r:Road}(h:WK t H b r)(hD:H D=some (.ins C dx fs))(n:b≠D):WK t (upd H D u) b r:=by
 obtain⟨ta,⟨dx,e⟩,f⟩:=h;exact⟨ta,⟨dx,by rw[ZW n];exact e⟩,SF f hD fun _ _ _ q=>by cases q⟩
section
variable{P:Program}{w:World}{K:W.Frag}{mg:Str->Option Value}{base:Heap}{t:Yt}
def wo(t:Yt):Sp:=fun vs H Q _=>∃a l,vs=[.ref a]/\WY t H a l/\l.roads.length<=9/\∀H' b lb rb,H b=none->H lb=none->(∀r,r∈rb->H r=none)->ZY H H'->Rk t H' b lb rb l->Q (.ref b) H'
theorem K_:ZN ["land","twin","road"] ["land"] (Z0 (top 15)):=⟨Y,Y,Y,by decide+kernel,Y,by decide+kernel,by decide+kernel⟩
theorem Rj(T:Txt K mg t):Y' P w K mg base XO 38 t.QE t.QD ["land"] (wo t):=by
 have sc:=K_;refine T.Ro.F.ok sc (fun vs H Q E h=>?_) (fun Yx A outer s H vs Q E hr h=>?_)
 ·obtain⟨a,l,rfl,_⟩:=h;rfl
 ·obtain⟨a,l,rfl,⟨la,rs,hL⟩,h9,k⟩:=h;obtain⟨TU,ea⟩:=hL.obj;refine⟨_,(Z5 (ZT (i:=1) sc.nd Y (Or.inl Y) (mk T.Land (OU T) hr (by decide) rfl (Z6 (ZZ (Z 0) rfl) (Z6 (ZZ (Z 0) rfl) (Z6 (ZZ (Z 0) rfl) (Z6 (ZZ (Z 0) rfl) Z2))))))
   (Z5 (YK (Z 1) (Sr Y sc.nd (Yy (ZZ (Z 0) rfl)) (YB (own:=[("road",2)]) (show Us ["land","twin","road"] (Z0 (top 15)) _ _=true by decide+kernel)) (fun _ _ _ _ _=>by exact(ZD (i:=2) sc.nd Y (Or.inl Y))) (fun _ _ _ _ _=>by exact XS) (fun _ _ _ _ _=>by exact(cl T.Nj (K' T) hr (by decide) rfl (Z6 (Z 2) Z2)))) rfl)
   (Z1 (ZP (Z 1))))),?_⟩
  refine⟨_,Y,_,_,_,_,_,Y,ea,T.Land.cl,T.Yw,Y,_,Y,_,_,_,_,_,Y,ea,T.Land.cl,T.Xv,Y,_,Y,_,_,_,_,_,Y,ea,T.Land.cl,T.Xb,Y,_,Y,_,_,_,_,_,Y,ea,T.Land.cl,T.Xw,Y,?_⟩;intro x dx nx nd ne;refine⟨x,dx,_,_,_,_,Y,Z4,fun H1 lx aH e1 e2 kp=>⟨Y,?_⟩⟩;have s1:ZY H H1:=ZY.made nx nd kp;have Bb:=hL.up s1;have Hy:=s1 _ _ ea;refine⟨_,Y,_,_,_,_,_,Y,Hy,T.Land.cl,T.ZK,Y,la,Y,⟨_,Zz.of Bb.lst⟩,fun D hD=>?_⟩;refine Vy (K:=K) (a:=la) (xs:=rs.map V.ref) (fun i H'=>ZY H1 H'/\∃bs:List Addr,H' D=some (.lst (bs.map V.ref))/\bs.length=i/\bs.Nodup/\(∀b,b∈bs->H1 b=none)/\∀(j:Nat) b,bs[j]?=some b->WK t H' b (rd l j))
   ⟨ZY.new hD _,[],Z4,Y,TM,fun b O=>(by cases O),fun j b O=>(by simp at O)⟩ (fun i H' _ p=>Zz.of (p.1 _ _ Bb.lst)) ?_ ?_
  ·rintro i y H' hi ⟨s2,bs,d1,d2,d3,d4,d5⟩;rw[Zf]at hi;obtain⟨ra,Xt,rfl⟩:=UL.mp hi;refine⟨Y,_,Y,ra,rd l i,Y,(Bb.at_ i ra Xt).up s2,fun H3 b O s3 hB=>?_⟩;have eD:i<rs.length:=(ZC.mp Xt).1;have dD:=s3 _ _ d1;refine⟨_,dD,by rw[Z3,d2];exact Zo (Zo eD (by rw[hL.len];exact h9)) (by decide),(s2.trans s3).Zx hD _,bs++[b],?_,by rw[ZI,d2];rfl,Pr d3 ?_,?_,?_⟩
   ·rw[Z4,Y1];rfl
   ·intro q;obtain⟨j,hj⟩:=List.getElem?_of_mem q;obtain⟨ta,⟨dz,z⟩,_⟩:=d5 j b hj;rw[O]at z;cases z
   ·intro c hc;rcases Zm.mp hc with hc|hc;·exact d4 c hc
    ·rw[Zp]at hc;subst hc;exact s2.free O
   ·intro j c hc;by_cases hj:j<bs.length
    ·rw[V_ hj]at hc;exact((d5 j c hc).up s3).lst dD
    ·rw[UO (by omega)]at hc;have iI:j-bs.length=0:=by
      by_cases q:j-bs.length=0;·exact q
      ·rw[YQ (by simp;omega)]at hc;cases hc
     rw[iI]at hc;cases hc;have:j=i:=by omega
     subst this;exact hB.lst dD
  ·rintro H' ⟨s2,bs,d1,d2,d3,d4,d5⟩;rw[Z3]at d2;have BB:=s2 _ _ e1;have xn:x∉bs:=fun q=>by
    have:=d4 x q;rw[e1]at this;cases this
   refine⟨_,Y,_,_,_,_,Y,BB,T.Land.cl,T.ZK,(by show 5<1000;decide),_,Y,?_⟩;refine k _ x D bs nx (s1.free hD) (fun r hr=>s1.free (d4 r hr)) (fun b o e=>?_) ⟨⟨dx,?_⟩,?_,?_,d3,fun i ra Xt=>(d5 i ra Xt).ins BB fun q=>xn (q▸Y9 Xt)⟩
   ·rw[ZW (ZA e nx)];exact s2 _ _ (s1 _ _ e)
   ·rw[Z4];rfl
   ·rw[SF d1 BB fun _ _ _ q=>by cases q]
   ·rw[d2];exact hL.len
def BA(t:Yt):Sp:=fun vs H Q _=>∃a l,∃e:Nat,vs=[.ref a,.int e]/\WY t H a l/\l.roads.length<=9/\e<l.roads.length/\∀H' b,ZY H H'->WY t H' b (RoadSpec.one l e fun r=>{r with shut:=true})->Q (.ref b) H'
theorem zf{l:Land}{e i:Nat}{f:Road->Road}(he:e<l.roads.length):rd (RoadSpec.one l e f) i=if i=e then f (rd l i)else rd l i:=by
 unfold rd RoadSpec.one;show(l.roads.modify e f).getD i Wz=_;rw[ZX,List.getElem?_modify,ZX];by_cases q:i=e
 ·subst q;simp[ZU he]
 ·have q':¬e=i:=fun z=>q z.symm;simp[q,q']
theorem MW:ZN ["land","number","twin","road"] ["land","number"] (Z0 (top 16)):=⟨Y,Y,Y,by decide+kernel,Y,by decide+kernel,by decide+kernel⟩
theorem Sa(T:Txt K mg t):Y' P w K mg base XO 39 t.RB t.RA ["land","number"] (BA t):=by
 have sc:=MW;refine T.SJ.F.ok sc (fun vs H Q E h=>?_) (fun Yx A outer s H vs Q E hr h=>?_)
 ·obtain⟨a,l,e,rfl,_⟩:=h;rfl
 ·obtain⟨a,l,e,rfl,hL,h9,he,k⟩:=h;refine⟨_,(Z5 (ZT (i:=2) sc.nd Y (Or.inl Y) (cl T.Ro (Rj T) hr (by decide) rfl (Z6 (Z 0) Z2)))
   (Z5 (ZT (i:=3) sc.nd Y (Or.inl Y) (ZL ZO (ZZ (Z 2) rfl) (Z 1) (fun _ _=>rfl)))
   (Z5 (YK (Z 3) ZS Y)
   (Z1 (ZP (Z 2)))))),?_⟩
  refine⟨_,Y,a,l,Y,hL,h9,fun H1 b lb rb n1 n2 n3 s1 hB=>?_⟩;obtain⟨wj,eb⟩:=hB.obj;obtain⟨ra,Xt⟩:∃ra,rb[e]?=some ra:=⟨_,ZU (by rw[hB.len];exact he)⟩;obtain⟨ta,⟨pE,er⟩,fr⟩:=hB.at_ e ra Xt;refine⟨_,Y,_,_,_,_,_,Y,eb,T.Land.cl,T.ZK,Y,_,Y,_,_,_,_,Y,Y,Zz.of hB.lst,S1 (by rw[Zf,Xt];rfl),_,Y,_,_,_,_,Y,er,T.Road.cl,T.X0,(by show 6<1000;decide),_,Y,?_⟩;have eB:H ra=none:=n3 ra (Y9 Xt);refine k _ b (fun c o ec=>?_) ⟨lb,rb,⟨wj,?_⟩,?_,?_,hB.nd,fun i rc K9=>?_⟩
  ·rw[ZW (ZA ec eB)];exact s1 _ _ ec
  ·rw[ZW];·exact eb
   ·intro q;rw[q,er]at eb;have:=Zb eb;injection this with _ _ z
    cases z
  ·rw[SF hB.lst er fun _ _ _ q=>by cases q]
  ·rw[hB.len];show _=(l.roads.modify e _).length;rw[List.length_modify]
  ·rw[zf he];by_cases q:i=e
   ·subst q;rw[Xt]at K9;cases K9;rw[Z7 rfl];exact⟨ta,⟨pE,Z4⟩,SF fr er fun _ _ _ q=>by cases q⟩
   ·rw[Z8 q];exact(hB.at_ i rc K9).ins er fun z=>q (As hB.nd K9 (by rw[z];exact Xt))
def F9(t:Yt):Sp:=fun vs H Q _=>∃a l,∃d:Nat,vs=[.ref a,.int d]/\WY t H a l/\l.roads.length<=9/\∀H' b,ZY H H'->WY t H' b {l with units:=d}->Q (.ref b) H'
theorem KA:ZN ["land","units","twin"] ["land","units"] (Z0 (top 17)):=⟨Y,Y,Y,by decide+kernel,Y,by decide+kernel,by decide+kernel⟩
theorem Kz(T:Txt K mg t):Y' P w K mg base XO 39 t.Pf t.Pe ["land","units"] (F9 t):=by
 have sc:=KA;refine T.Lo.F.ok sc (fun vs H Q E h=>?_) (fun Yx A outer s H vs Q E hr h=>?_)
 ·obtain⟨a,l,d,rfl,_⟩:=h;rfl
 ·obtain⟨a,l,d,rfl,hL,h9,k⟩:=h;refine⟨_,(Z5 (ZT (i:=2) sc.nd Y (Or.inl Y) (cl T.Ro (Rj T) hr (by decide) rfl (Z6 (Z 0) Z2)))
   (Z5 (YK (Z 2) (Z 1) rfl)
   (Z1 (ZP (Z 2))))),?_⟩
  refine⟨_,Y,a,l,Y,hL,h9,fun H1 b lb rb n1 n2 n3 s1 hB=>?_⟩;obtain⟨wj,eb⟩:=hB.obj;refine⟨_,Y,_,Y,_,_,_,_,Y,eb,T.Land.cl,T.Xw,(by show 5<1000;decide),_,Y,?_⟩;refine k _ b (fun c o ec=>?_) ⟨lb,rb,⟨wj,Z4⟩,?_,hB.len,hB.nd,fun i rc K9=>?_⟩
  ·rw[ZW (ZA ec n1)];exact s1 _ _ ec
  ·rw[SF hB.lst eb fun _ _ _ q=>by cases q]
  ·refine WK.ins (hB.at_ i rc K9) eb fun q=>?_;obtain⟨ta,⟨pE,er⟩,_⟩:=hB.at_ i rc K9;rw[q,eb]at er;have:=Zb er;injection this with _ _ z
   cases z
end
end Rw
namespace Rw
open PySem PySem.Spec PyProof.Rows L2 RR
section
variable{P:Program}{w:World}{K:W.Frag}{mg:Str->Option Value}{base:Heap}{t:Yt}
def Im:Sp:=fun vs H Q _=>∃a b,∃p:Nat,∃bf:Int,∃row pr:List Int,vs=[.ref a,.ref b,.int p,.int bf]/\IL H a row/\IL H b pr/\row.length=pr.length/\row.length<=100/\p<row.length/\0<bf/\(∀j,j<row.length->Bd Hz (row.getD j 0)/\Bd Hz (pr.getD j 0))/\
 ∀H' c,H c=none->ZY H H'->IL H' c (VD p bf pr row)->Q (.ref c) H'
theorem K8:ZN ["row","pivot_row","place","before","pivot","factor","a","b"] ["row","pivot_row","place","before"] (Z0 (top 19)):=⟨Y,Y,Y,by decide+kernel,Y,by decide+kernel,by decide+kernel⟩
theorem K7(T:Txt K mg t):Y' P w K mg base XO 33 t.QC t.QB ["row","pivot_row","place","before"] Im:=by
 have sc:=K8;refine T.Ni.F.ok sc (fun vs H Q E h=>?_) (fun Yx A outer s H vs Q E hr h=>?_)
 ·obtain⟨a,b,p,bf,row,pr,rfl,_⟩:=h;rfl
 ·have hd:=hr.div (by decide);obtain⟨a,b,p,bf,row,pr,rfl,ha,O,hl,zd,hp,h0,bd,k⟩:=h;refine⟨_,(Z5 (ZT (i:=4) sc.nd Y (Or.inr Y) (ZL ZO (Z 1) (Z 2) (fun _ _=>rfl)))
   (Z5 (ZT (i:=5) sc.nd Y (Or.inr Y) (ZL ZO (Z 0) (Z 2) (fun _ _=>rfl)))
   (Z1 (ZP (Sr Y sc.nd (Qm Y T.Lf (Z6 (Z 0) (Z6 (Z 1) Z2))) (YB (own:=[("a",6),("b",7)]) (show Us ["row","pivot_row","place","before","pivot","factor","a","b"] (Z0 (top 19)) _ _=true by decide+kernel)) (fun _ _ _ _ _=>by exact(P8 (K:=K) (i:=6) (j:=7) rfl rfl sc.nd Y rfl (Or.inl Y) (Or.inl Y))) (fun _ _ _ _ _=>by exact XS) (fun _ _ _ _ _=>by exact(Zg (V5 hd) (Zg Qn (Zg YX (Z 4) (Z 6)) (Zg YX (Z 5) (Z 7))) (Z 3)))))))),?_⟩
  refine⟨_,Y,_,Y,_,_,_,_,Y,Y,Zz.of O,Wy (by omega),_,Y,_,Y,_,_,_,_,Y,Y,Zz.of ha,Wy hp,?_⟩;refine⟨_,Y,_,Y,_,_,_,_,Y,Zz.of ha,Zz.of O,fun D hD=>?_⟩;refine Eg (K:=K) (xs:=row.map V.int) (ys:=pr.map V.int) (by simp[hl]) (fun i H'=>ZY H H'/\∃acc:List Int,IL H' D acc/\acc=(VD p bf pr row).take i)
   ⟨ZY.new hD _,[],Z4,Y⟩ (fun i H' _ q=>⟨Zz.of (q.1 _ _ ha),Zz.of (q.1 _ _ O)⟩) ?_ ?_
  ·rintro i x y H1 H2 hx hy ⟨s1,acc,d1,d2⟩ s2;obtain⟨hi,rfl⟩:=int_at hx;obtain⟨hj,rfl⟩:=int_at hy;have hlen:(VD p bf pr row).length=row.length:=by
    unfold VD;rw[List.length_zipWith];omega
   refine⟨Y,_,Y,_,Y,_,_,Y,Y,XT (bd p hp).2 (bd i hi).1,_,Y,_,Y,_,_,Y,Y,XT (bd p hp).1 (bd i hi).2,_,_,Y,Y,_,Y,_,_,Y,Y,h0,?_⟩;refine⟨_,s2 _ _ d1,?_,(s1.trans s2).Zx hD _,acc++[(VD p bf pr row).getD i 0],?_,?_⟩
   ·rw[Z3,d2,XE];exact YG (Nat.min_le_right _ _) (by rw[hlen];exact YG zd (by decide))
   ·show upd _ _ _ _=_;rw[Z4,<-CO];congr 4;unfold VD;rw[Pl _ rfl hl.symm hi,Int.fdiv_eq_ediv_of_nonneg _ (by omega)]
   ·rw[d2,Xp,ZX,ZU (by rw[hlen];exact hi)];rfl
  ·rintro H' ⟨s1,acc,d1,d2⟩;rw[Z3,PM (by unfold VD;rw[List.length_zipWith];omega)]at d2;subst d2;exact k H' D hD s1 d1
def Uw(H:Hp)(a:Addr)(rows:List (List Int)):Prop:=∃rs:List Addr,H a=some (.lst (rs.map V.ref))/\rs.length=rows.length/\∀(i:Nat) r,rs[i]?=some r->IL H r (rows.getD i [])
theorem Uw.up{H H':Hp}{a:Addr}{rows:List (List Int)}(h:Uw H a rows)(s:ZY H H'):Uw H' a rows:=by
 obtain⟨rs,J,h2,h3⟩:=h;exact⟨rs,s _ _ J,h2,fun i r e=>s _ _ (h3 i r e)⟩
def Bz:Sp:=fun vs H Q _=>∃a rows n b,vs=[.ref a]/\Uw H a rows/\0<n/\n<=6/\RE n (n+1) rows/\SX n (fun i j=>(ent rows i j:Rat))/\(∀i,i<n->∀j,j<n+1->Bd b (ent rows i j))/\b<=1000/\
 ∀H' c,ZY H H'->Uw H' c (Yl n rows).1->Q (.ref c) H'
theorem Ed:ZN ["rows","before","place","pivot_row","number","row"] ["rows"] (Z0 (top 20)):=⟨Y,Y,Y,by decide+kernel,Y,by decide+kernel,by decide+kernel⟩
theorem Ec(T:Txt K mg t):Y' P w K mg base XO 34 t.JE t.JD ["rows"] Bz:=by
 have sc:=Ed;refine T.cleared.F.ok sc (fun vs H Q E h=>?_) (fun Yx A outer s H vs Q E hr h=>?_)
 ·obtain⟨a,rows,n,b,rfl,_⟩:=h;rfl
 ·have hd:=hr.div (by decide);obtain⟨a,rows,n,b,rfl,⟨rs,e1,e2,e3⟩,n0,n6,R,PD,bd,b1,k⟩:=h;have nl:rs.length=n:=by rw[e2,R.len]
  refine⟨_,(Z5 (ZT (i:=1) sc.nd Y (Or.inr Y) ZS)
   (Z5 (YC Zl Y (Wi Y T.T7 (Z6 (YV Zi (by rfl) T.WB YU (Z6 (Z 0) Z2)) Z2)) (ZD (i:=2) sc.nd Y (Or.inr Y)) (Z5 (ZT (i:=3) sc.nd Y (Or.inr Y) (ZL ZO (Z 0) (Z 2) (fun _ _=>rfl)))
   (Z5 (Vq (i:=0) rfl sc.nd Y rfl (Uq Y rfl rfl rfl) (Wn Y T.Vd (Z6 (Z 0) Z2)) (YB (own:=[("number",4),("row",5)]) (show Us ["rows","before","place","pivot_row","number","row"] (Z0 (top 20)) _ _=true by decide+kernel)) (fun _ _ _ _ _=>by exact(P8 (K:=K) (i:=4) (j:=5) rfl rfl sc.nd Y rfl (Or.inl Y) (Or.inl Y))) (fun _ _ _ _ _=>by exact XS) (fun _ _ _ _ _=>by exact(Mx (ZJ Vb (Z 4) (Z 2) (Zu _)) (Z 3) (cl T.Ni (K7 T) hr (by decide) rfl (Z6 (Z 5) (Z6 (Z 3) (Z6 (Z 2) (Z6 (Z 1) Z2))))))))
   (Z1 (ZT (i:=1) sc.nd Y (Or.inr Y) (ZL ZO (Z 3) (Z 2) (fun _ _=>rfl)))))))
   (Z1 (ZP (Z 0))))),?_⟩
  refine⟨_,Y,_,_,Y,.inl (Zz.of e1),(rs.length:Int),by rw[Z3],by omega,by omega,?_⟩;subst nl;refine Uz (n:=rs.length) (fun i σ H'=>∃c2 c3 c4 c5 a',σ=[some (.ref a'),some (.int (Yl i rows).2),c2,c3,c4,c5]/\ZY H H'/\Uw H' a' (Yl i rows).1) ⟨none,none,none,none,a,Y,ZY.refl H,rs,e1,e2,e3⟩ ?_ ?_
  ·rintro i σ H1 hi ⟨c2,c3,c4,c5,a',rfl,s1,wL,d1,d2,d3⟩;obtain⟨R1,bp,uS⟩:=SU R PD n6 bd i (by omega);have l1:wL.length=rs.length:=by rw[d2,R1.len]
   obtain⟨rp,pD⟩:∃rp,wL[i]?=some rp:=⟨_,ZU (by omega)⟩;have big:64*(b+1)<=Hz:=by
    show 64*(b+1)<=33554432;omega
   have ln:∀j,j<rs.length->((Yl i rows).1.getD j []).length=rs.length+1:=fun j hj=>R1.at hj;refine⟨_,Y,_,Y,_,_,_,_,Y,Y,Zz.of d1,YI pD,_,Y,_,_,Y,Zz.of d1,fun D hD=>?_⟩;refine MC (K:=K) (xs:=wL.map V.ref) (fun k H2=>ZY H1 H2/\∃bs:List Addr,H2 D=some (.lst (bs.map V.ref))/\bs.length=k/\(∀c,c∈bs->c≠D)/\∀(j:Nat) c,bs[j]?=some c->IL H2 c ((Yl (i+1) rows).1.getD j []))
    ⟨ZY.new hD _,[],Z4,Y,fun c hc=>(by cases hc),fun j c hc=>(by simp at hc)⟩ (fun k H2 _ q=>Zz.of (q.1 _ _ d1)) ?_ ?_
   ·rintro k x H2 H3 hx ⟨s2,bs,g1,g2,g3,g4⟩ s3;obtain⟨r,GR,rfl⟩:=Yk hx;have hk:k<rs.length:=by rw[<-l1];exact(ZC.mp GR).1
    have CM:=s2.trans s3;have row:(Yl (i+1) rows).1.getD k []=if k=i then(Yl i rows).1.getD i []else VD i (Yl i rows).2 ((Yl i rows).1.getD i []) ((Yl i rows).1.getD k []):=by
     show(Vx i (Yl i rows).2 (Yl i rows).1).getD k []=_;unfold Vx;rw[getD_map _ _ k ([],0) [] (by rw[List.length_zipIdx,R1.len];exact hk),ZX (l:=(Yl i rows).1.zipIdx),List.getElem?_zipIdx,ZU (by rw[R1.len];exact hk)];simp[ZX,ZU (show k<(Yl i rows).1.length by rw[R1.len];exact hk)]
    have fin:∀H4 c,ZY H3 H4->c≠D->IL H4 c ((Yl (i+1) rows).1.getD k [])->∃acc,H4 D=some (.lst acc)/\acc.length<sizeLine/\(ZY H1 (upd H4 D (.lst (acc++[.ref c])))/\∃bs:List Addr,upd H4 D (.lst (acc++[.ref c])) D=some (.lst (bs.map V.ref))/\bs.length=k+1/\(∀c,c∈bs->c≠D)/\∀(j:Nat) c',bs[j]?=some c'->IL (upd H4 D (.lst (acc++[.ref c]))) c' ((Yl (i+1) rows).1.getD j [])):=by
     intro H4 c s4 nc ic;refine⟨_,s4 _ _ (s3 _ _ g1),by rw[Z3,g2];exact Zo hk (by rw[show sizeLine=16777216 from sizeLine_eq];omega),(CM.trans s4).Zx hD _,bs++[c],by rw[Z4,U2],by rw[ZI,g2];rfl,fun d hd=>?_,fun j d hd=>?_⟩
     ·rcases Zm.mp hd with z|z;·exact g3 d z
      ·rw[Zp]at z;rw[z];exact nc
     ·rcases U1 hd with⟨z1,z2⟩|⟨z1,rfl⟩
      ·show upd _ _ _ _=_;rw[ZW (g3 d (Y9 z2))];exact s4 _ _ (s3 _ _ (g4 j d z2))
      ·rw[z1,g2];show upd _ _ _ _=_;rw[ZW nc];exact ic
    refine⟨Y,_,Y,_,Y,Y,_,Y,Ws (fun c=>⟨_,Y,?_⟩) (fun c=>⟨_,Y,_,Y,_,Y,_,Y,?_⟩)⟩
    ·have ki:k=i:=by
      have:=ZG c;injection this with z
      omega
     have ej:=CM _ _ (d3 i rp pD);refine fin H3 rp (ZY.refl _) (ZA (d3 i rp pD) hD) ?_;rw[row,Z7 ki];exact ej
    ·have ki:k≠i:=fun z=>c (by rw[z];exact ZR Y);refine⟨r,rp,i,(Yl i rows).2,_,_,Y,CM _ _ (d3 k r GR),CM _ _ (d3 i rp pD),by rw[ln k hk,ln i hi],by rw[ln k hk];omega,by rw[ln k hk];omega,bp,fun j hj=>?_,fun H4 c' nc s4 ic=>?_⟩
     ·rw[ln k hk]at hj;exact⟨(uS k hk j hj).mono big,(uS i hi j hj).mono big⟩
     ·refine fin H4 c' s4 (fun z=>by rw[z,s3 _ _ g1]at nc;cases nc) ?_;rw[row,Z8 ki];exact ic
   ·rintro H2 ⟨s2,bs,g1,g2,g3,g4⟩;rw[Z3]at g2;refine⟨_,Y,_,Y,_,_,_,_,Y,Y,Zz.of (s2 _ _ (d3 i rp pD)),Wy (by rw[ln i hi];omega),_,_,_,_,D,Y,s1.trans s2,bs,g1,?_,g4⟩;rw[g2,l1];have:=(SU R PD n6 bd (i+1) (by omega)).1.len;exact this.symm
  ·rintro σ H1 ⟨c2,c3,c4,c5,a',rfl,s1,hR⟩;exact⟨_,Y,k H1 a' s1 hR⟩
end
end Rw
namespace Rw
open PySem PySem.Spec PyProof.Rows L2 RR
abbrev NL(H:Hp)(a:Addr)(us:List Nat):Prop:=H a=some (.lst (us.map fun(k:Nat)=>V.int (k:Int)))
theorem Uv{us:List Nat}{k:Nat}{x:V}(h:(us.map fun(k:Nat)=>V.int (k:Int))[k]?=some x):∃u,us[k]?=some u/\x=.int (u:Nat):=by
 rw[Zf]at h;obtain⟨n,hn,rfl⟩:=UL.mp h;exact⟨n,hn,Y⟩
theorem SE(us:List Nat)(u:Nat):(us.map fun(k:Nat)=>V.int (k:Int))++[.int (u:Int)]=(us++[u]).map fun(k:Nat)=>V.int (k:Int):=by rw[Y1];rfl
def uR(l:JN):List (Str×V):=[("tail",.int l.tail),("head",.int l.head),("cost",.int l.cost),("slope",.int l.slope)]
def pC(n s g:Nat)(u:Int)(la:Addr):List (Str×V):=[("places",.int n),("source",.int s),("goal",.int g),("units",.int u),("links",.ref la)]
def pB(la:Addr)(w:Int):List (Str×V):=[("amounts",.ref la),("whole",.int w)]
def Oc(t:Yt)(H:Hp)(a:Addr)(l:JN):Prop:=∃dx,H a=some (.ins t.Rq dx (uR l))
structure Eb(t:Yt)(H:Hp)(a la:Addr)(ks:List Addr)(P:Y8):Prop where
 obj:∃dx,H a=some (.ins t.O1 dx (pC P.n P.s P.t P.units la))
 lst:H la=some (.lst (ks.map V.ref))
 len:ks.length=P.links.length
 at_:∀(i:Nat) k,ks[i]?=some k->Oc t H k (P.lk i)
structure CL(t:Yt)(H:Hp)(a la:Addr)(ys:List Int)(w:Int):Prop where
 obj:∃dx,H a=some (.ins t.Rp dx (pB la w))
 lst:IL H la ys
def S_(t:Yt)(H:Hp)(a:Addr)(P:Y8):Prop:=∃la ks,Eb t H a la ks P
def W7(t:Yt)(H:Hp)(a:Addr)(ys:List Int)(w:Int):Prop:=∃la,CL t H a la ys w
theorem Oc.up{t:Yt}{H H':Hp}{a:Addr}{l:JN}(h:Oc t H a l)(s:ZY H H'):Oc t H' a l:=let⟨dx,e⟩:=h;⟨dx,s _ _ e⟩
theorem Eb.up{t:Yt}{H H':Hp}{a la:Addr}{ks:List Addr}{P:Y8}(h:Eb t H a la ks P)(s:ZY H H'):Eb t H' a la ks P:=⟨let⟨dx,e⟩:=h.obj;⟨dx,s _ _ e⟩,s _ _ h.lst,h.len,fun i k e=>(h.at_ i k e).up s⟩
theorem S_.up{t:Yt}{H H':Hp}{a:Addr}{P:Y8}(h:S_ t H a P)(s:ZY H H'):S_ t H' a P:=let⟨la,ks,e⟩:=h;⟨la,ks,e.up s⟩
theorem CL.up{t:Yt}{H H':Hp}{a la:Addr}{ys:List Int}{w:Int}(h:CL t H a la ys w)(s:ZY H H'):CL t H' a la ys w:=⟨let⟨dx,e⟩:=h.obj;⟨dx,s _ _ e⟩,s _ _ h.lst⟩
theorem W7.up{t:Yt}{H H':Hp}{a:Addr}{ys:List Int}{w:Int}(h:W7 t H a ys w)(s:ZY H H'):W7 t H' a ys w:=let⟨la,e⟩:=h;⟨la,e.up s⟩
theorem Eb.link{t:Yt}{H:Hp}{a la:Addr}{ks:List Addr}{P:Y8}(h:Eb t H a la ks P){e:Nat}(he:e<P.links.length):∃k dx,ks[e]?=some k/\H k=some (.ins t.Rq dx (uR (P.lk e))):=by
 have hl:e<ks.length:=by rw[h.len];exact he
 have hk:ks[e]?=some ks[e]:=ZU hl;obtain⟨dx,q⟩:=h.at_ e _ hk;exact⟨_,dx,hk,q⟩
section
variable{P:Program}{w:World}{K:W.Frag}{mg:Str->Option Value}{base:Heap}{t:Yt}
def we(t:Yt):Sp:=fun vs H Q _=>∃(p dx:Addr) (u v:Nat) (c b:Int),vs=[.ref p,.int u,.int v,.int c,.int b]/\H p=some (.ins t.Rq dx [])/\
 ∀H',Oc t H' p ⟨u,v,c,b⟩->(∀b o,H b=some o->b≠p->H' b=some o)->Q .Xs H'
theorem Il:ZN ["self","tail","head","cost","slope"] ["self","tail","head","cost","slope"] (Z0 (inClass (top 22) 0)):=⟨Y,Y,Y,by decide+kernel,Y,by decide+kernel,by decide+kernel⟩
theorem Ik(T:Txt K mg t):Y' P w K mg base XO 33 t.Nn t.Nm ["self","tail","head","cost","slope"] (we t):=by
 have sc:=Il;refine T.X2.F.ok sc (fun vs H Q E h=>?_) (fun Yx A outer s H vs Q E hr h=>?_)
 ·obtain⟨p,dx,u,v,c,b,rfl,_⟩:=h;rfl
 ·obtain⟨p,dx,u,v,c,b,rfl,hp,k⟩:=h;refine⟨_,(Z5 (YK (Z 0) (Z 1) rfl)
   (Z5 (YK (Z 0) (Z 2) rfl)
   (Z5 (YK (Z 0) (Z 3) rfl)
   (Z1 (YK (Z 0) (Z 4) rfl))))),?_⟩
  refine⟨_,Y,_,Y,_,_,_,_,Y,hp,T.X2.cl,T.YS,(by show 0<1000;decide),_,Y,_,Y,_,_,_,_,Y,Z4,T.X2.cl,T.Y4,(by show 1<1000;decide),_,Y,_,Y,_,_,_,_,Y,Z4,T.X2.cl,T.WL,(by show 2<1000;decide),_,Y,_,Y,_,_,_,_,Y,Z4,T.X2.cl,T.VY,(by show 3<1000;decide),?_⟩;refine k _ ⟨dx,Z4⟩ fun b o e O=>?_;rw[ZW O,ZW O,ZW O,ZW O];exact e
def sS(t:Yt):Sp:=fun vs H Q _=>∃(p dx:Addr) (n s g:Nat) (u:Int) (la:Addr),vs=[.ref p,.int n,.int s,.int g,.int u,.ref la]/\H p=some (.ins t.O1 dx [])/\
 ∀H',H' p=some (.ins t.O1 dx (pC n s g u la))->(∀b o,H b=some o->b≠p->H' b=some o)->Q .Xs H'
theorem F8:ZN ["self","places","source","goal","units","links"] ["self","places","source","goal","units","links"] (Z0 (inClass (top 23) 0)):=⟨Y,Y,Y,by decide+kernel,Y,by decide+kernel,by decide+kernel⟩
theorem F7(T:Txt K mg t):Y' P w K mg base XO 33 t.Ls t.Lr ["self","places","source","goal","units","links"] (sS t):=by
 have sc:=F8;refine T.Net.F.ok sc (fun vs H Q E h=>?_) (fun Yx A outer s H vs Q E hr h=>?_)
 ·obtain⟨p,dx,n,s,g,u,la,rfl,_⟩:=h;rfl
 ·obtain⟨p,dx,n,s,g,u,la,rfl,hp,k⟩:=h;refine⟨_,(Z5 (YK (Z 0) (Z 1) rfl)
   (Z5 (YK (Z 0) (Z 2) rfl)
   (Z5 (YK (Z 0) (Z 3) rfl)
   (Z5 (YK (Z 0) (Z 4) rfl)
   (Z1 (YK (Z 0) (Z 5) rfl)))))),?_⟩
  refine⟨_,Y,_,Y,_,_,_,_,Y,hp,T.Net.cl,T.WE,(by show 0<1000;decide),_,Y,_,Y,_,_,_,_,Y,Z4,T.Net.cl,T.U3,(by show 1<1000;decide),_,Y,_,Y,_,_,_,_,Y,Z4,T.Net.cl,T.P9,(by show 2<1000;decide),_,Y,_,Y,_,_,_,_,Y,Z4,T.Net.cl,T.Ng,(by show 3<1000;decide),_,Y,_,Y,_,_,_,_,Y,Z4,T.Net.cl,T.XZ,(by show 4<1000;decide),?_⟩;refine k _ Z4 fun b o e O=>?_;rw[ZW O,ZW O,ZW O,ZW O,ZW O];exact e
def wc(t:Yt):Sp:=fun vs H Q _=>∃(p dx la:Addr) (ys:List Int) (w:Int),vs=[.ref p,.ref la,.int w]/\H p=some (.ins t.Rp dx [])/\IL H la ys/\ys.length<=100/\0<w/\
 ∀H',W7 t H' p (ys.map fun y=>y/Ph w ys) (w/Ph w ys)->(∀b o,H b=some o->b≠p->H' b=some o)->Q .Xs H'
theorem zc(a b:Int):Int.gcd a (if b<0 then-b else b)=Int.gcd a b:=by rw[Int.gcd_comm,Di,Int.gcd_comm]
theorem Ij:ZN ["self","amounts","whole","divisor","amount"] ["self","amounts","whole"] (Z0 (inClass (top 24) 0)):=⟨Y,Y,Y,by decide+kernel,Y,by decide+kernel,by decide+kernel⟩
theorem OT(T:Txt K mg t):Y' P w K mg base XO 34 t.Nl t.Nk ["self","amounts","whole"] (wc t):=by
 have sc:=Ij;refine T.Load.F.ok sc (fun vs H Q E h=>?_) (fun Yx A outer s H vs Q E hr h=>?_)
 ·obtain⟨p,dx,la,ys,w,rfl,_⟩:=h;rfl
 ·have hd:=hr.div (by decide);obtain⟨p,dx,la,ys,w,rfl,hp,hy,zd,w0,k⟩:=h;refine⟨_,(Z5 (ZT (i:=3) sc.nd Y (Or.inr Y) (Z 2))
   (Z5 (YC Zl Y (Yy (Z 1)) (ZD (i:=4) sc.nd Y (Or.inl Y)) (Z1 (ZT (i:=3) sc.nd Y (Or.inr Y) (cl T.VZ (VX T) hr (by decide) rfl (Z6 (Z 3) (Z6 (YV Hm (by rfl) T.uU boot_abs (Z6 (Z 4) Z2)) Z2))))))
   (Z5 (YK (Z 0) (Sr Y sc.nd (Yy (Z 1)) (YB (own:=[("amount",4)]) (show Us ["self","amounts","whole","divisor","amount"] (Z0 (inClass (top 24) 0)) _ _=true by decide+kernel)) (fun _ _ _ _ _=>by exact(ZD (i:=4) sc.nd Y (Or.inl Y))) (fun _ _ _ _ _=>by exact XS) (fun _ _ _ _ _=>by exact(Zg (V5 hd) (Z 4) (Z 3)))) rfl)
   (Z1 (YK (Z 0) (Zg (V5 hd) (Z 2) (Z 3)) rfl))))),?_⟩
  refine⟨_,Y,_,Y,la,Y,⟨_,Zz.of hy⟩,XA (K:=K) (a:=la) (xs:=ys.map V.int) (fun i σ H'=>H'=H/\∃c4,σ=[some (.ref p),some (.ref la),some (.int w),some (.int (Ph w (ys.take i))),c4]) ⟨Y,none,Y⟩ (fun i σ H' _ q=>by rw[q.1];exact Zz.of hy) ?_ ?_⟩
  ·rintro i x σ H' hx ⟨rfl,c4,rfl⟩;obtain⟨hi,rfl⟩:=int_at hx;have g0:=(ME (ys.take i) w w0).1;refine⟨_,Y,_,Y,_,Y,_,_,Y,by omega,by split<;>omega,Y,some (.int (ys.getD i 0)),?_⟩;rw[zc];have e:ys.take (i+1)=ys.take i++[ys.getD i 0]:=by
    rw[Xp,ZX,ZU hi];rfl
   rw[e,BX];rfl
  ·rintro σ H' ⟨rfl,c4,rfl⟩;rw[Z3,X7];obtain⟨g0,g1,g2⟩:=ME ys w w0;refine⟨_,Y,la,Y,⟨_,Zz.of hy⟩,fun D hD=>?_⟩;refine Vy (K:=K) (a:=la) (xs:=ys.map V.int) (fun i H1=>ZY H' H1/\IL H1 D ((ys.map fun y=>y/Ph w ys).take i)) ⟨ZY.new hD _,Z4⟩ (fun i H1 _ q=>Zz.of (q.1 _ _ hy)) ?_ ?_
   ·rintro i x H1 hx ⟨s1,d1⟩;obtain⟨hi,rfl⟩:=int_at hx;refine⟨Y,_,Y,_,Y,_,_,Y,Y,g0,_,d1,?_,s1.Zx hD _,?_⟩
    ·rw[Z3,XE];exact YG (Nat.min_le_right _ _) (by rw[Z3];exact YG zd (by decide))
    ·show upd _ _ _ _=_;rw[Z4,CO,Xp,Zf,ZU hi,ZX,ZU hi];rfl
   ·rintro H1 ⟨s1,d1⟩;rw[Z3,PM (by rw[Z3];exact ZM _)]at d1;have nT:=s1 _ _ hp;refine⟨_,Y,_,_,_,_,Y,nT,T.Load.cl,T.Y3,(by show 0<1000;decide),_,Y,_,Y,_,_,Y,Y,g0,_,Y,_,_,_,_,Y,Z4,T.Load.cl,T.W8,(by show 1<1000;decide),?_⟩;refine k _ ⟨D,⟨dx,Z4⟩,?_⟩ fun b o e O=>?_
    ·show upd _ _ _ _=_;rw[ZW,ZW];·exact d1
     ·exact fun q=>by rw[q]at d1;have d1:=nT.symm.trans d1;cases d1
     ·exact fun q=>by rw[q]at d1;have d1:=nT.symm.trans d1;cases d1
    ·rw[ZW O,ZW O];exact s1 _ _ e
def TR(ys:List Int):List Nat:=(List.range ys.length).filter fun k=>decide (0<ys.getD k 0)
theorem Uu{ys:List Int}{e:Nat}:e∈TR ys↔e<ys.length/\0<ys.getD e 0:=by
 unfold TR;rw[XX,YW];simp
theorem SD(ys:List Int):(TR ys).Nodup:=ML _ R5
def wb(t:Yt):Sp:=fun vs H Q _=>∃a ys w,vs=[.ref a]/\W7 t H a ys w/\ys.length<=100/\∀H' c,H c=none->ZY H H'->NL H' c (TR ys)->Q (.ref c) H'
theorem F6:ZN ["self","number","amount"] ["self"] (Z0 (inClass (top 24) 1)):=⟨Y,Y,Y,by decide+kernel,Y,by decide+kernel,by decide+kernel⟩
theorem Ri(T:Txt K mg t):Y' P w K mg base XO 33 t.Lq t.Lp ["self"] (wb t):=by
 have sc:=F6;refine T.OY.F.ok sc (fun vs H Q E h=>?_) (fun Yx A outer s H vs Q E hr h=>?_)
 ·obtain⟨a,ys,w,rfl,_⟩:=h;rfl
 ·obtain⟨a,ys,w,rfl,⟨la,⟨dx,ea⟩,hy⟩,zd,k⟩:=h;refine⟨_,(Z1 (ZP (Sr Y sc.nd (Wn Y T.Vd (Z6 (ZZ (Z 0) rfl) Z2)) (YB (own:=[("number",1),("amount",2)]) (show Us ["self","number","amount"] (Z0 (inClass (top 24) 1)) _ _=true by decide+kernel)) (fun _ _ _ _ _=>by exact(P8 (K:=K) (i:=1) (j:=2) rfl rfl sc.nd Y rfl (Or.inl Y) (Or.inl Y))) (fun _ _ _ _ _=>by exact(DD (ZJ N3 (Z 2) ZS (Zu _)))) (fun _ _ _ _ _=>by exact(Z 1))))),?_⟩;refine⟨_,Y,_,_,_,_,_,Y,ea,T.Load.cl,T.Y3,Y,_,_,Y,Zz.of hy,fun D hD=>?_⟩;refine MC (K:=K) (xs:=ys.map V.int) (fun i H1=>ZY H H1/\NL H1 D ((List.range i).filter fun k=>decide (0<ys.getD k 0))) ⟨ZY.new hD _,Z4⟩ (fun i H1 _ q=>Zz.of (q.1 _ _ hy)) ?_ ?_
  ·rintro i x H1 H2 hx ⟨s1,d1⟩ s2;obtain⟨hi,rfl⟩:=int_at hx;refine⟨Y,_,Y,_,_,Y,Y,_,Y,Ws (fun c=>⟨_,Y,?_⟩) (fun c=>⟨s1.trans s2,?_⟩)⟩
   ·refine⟨_,s2 _ _ d1,?_,(s1.trans s2).Zx hD _,?_⟩
    ·rw[Z3];have:=Wx (fun k=>decide (0<ys.getD k 0)) (List.range i);rw[Zd]at this;exact YG this (Zo (Zo hi zd) (by decide))
    ·show upd _ _ _ _=_;rw[Z4,SE,WU,Vt,YN,Z7 c];rfl
   ·show H2 D=_;rw[WU,Vt,YN,Z8 c];simp only[List.filter_nil,XH];exact s2 _ _ d1
  ·rintro H1 ⟨s1,d1⟩;rw[Z3]at d1;exact k H1 D hD s1 d1
end
theorem kO{X:Cx}{x q:Str}{C:Addr}{st:Stmt}{ps:List Str}{f:Addr}{fd:FuncData}{sp:Sp}{j k:Nat}{o:Expr}{ta:TE}{pl:Sem Bool}{apos pos:Pos}(c:Cm X.K C)(D:Mn X.K x q C st ps f fd)(G:Y' X.prog X.w X.K X.mg X.base XO j f fd ps sp)(hr:WA k X.A)(hj:j<=k)(he:PE X o ta)
 (ht:eval (.Call (.Attribute o x apos) [] [] pos) X.env=(do let ov<-eval o X.env;standAt apos.atName;let(f,first)<-holding [ov] (getMethod ov x pl);callWith pos f first (backTo pos (starEach [] X.env)) (backToKw pos (keywordEach [] X.env))):=by rfl):
 PE X (.Call (.Attribute o x apos) [] [] pos) (vn C x sp [] E0 ta Ck):=AU he c D.at_ G (hr.mono hj) D.b .nil GV ht
end Rw
namespace Rw
open PySem PySem.Spec PyProof.Rows L2 RR
def DI(H:Hp)(a:Addr)(n:Nat)(f:Nat->Option V):Prop:=∃Zs:List (Key×V),H a=some (.dK Zs)/\(Zs.map (·.1)).Nodup/\(∀k,k∈Zs.map (·.1)->∃v:Nat,v<n/\k=Sum.inl (v:Int))/\∀v:Nat,VH Zs (Sum.inl (v:Int))=f v
theorem DI.up{H H':Hp}{a:Addr}{n:Nat}{f:Nat->Option V}(h:DI H a n f)(s:ZY H H'):DI H' a n f:=let⟨Zs,J,h2,h3,h4⟩:=h;⟨Zs,s _ _ J,h2,h3,h4⟩
theorem DI.get{H:Hp}{a:Addr}{n:Nat}{f:Nat->Option V}(h:DI H a n f)(v:Nat):R9 H a (.int v) (f v):=by
 obtain⟨Zs,J,h2,h3,h4⟩:=h;have:=R9.k (k:=Sum.inl (v:Int)) J;rw[h4]at this;exact this
theorem DI.F5{H:Hp}{a:Addr}{n:Nat}{f:Nat->Option V}(h:DI H a n f){v:Nat}{x:V}(e:f v=some x):R9 H a (.int v) (some x):=by
 rw[<-e];exact h.get v
theorem DI.nS{H:Hp}{a:Addr}{n:Nat}{f:Nat->Option V}(h:DI H a n f):∃Zs,H a=some (.dK Zs):=let⟨Zs,J,_⟩:=h;⟨Zs,J⟩
theorem y_{n:Nat}{ks:List Key}(nd:ks.Nodup)(h:∀k,k∈ks->∃v:Nat,v<n/\k=Sum.inl (v:Int)):ks.length<=n:=by
 have J:(ks.map fun k=>match k with|.inl z=>z.toNat|.inr _=>0).Nodup:=by
  refine UM.mpr (nd.imp_of_mem fun{a b} ha O R7 q=>R7 ?_);obtain⟨u,_,rfl⟩:=h a ha;obtain⟨v,_,rfl⟩:=h b O;have q:(u:Int).toNat=(v:Int).toNat:=q;rw[Int.toNat_natCast,Int.toNat_natCast]at q;rw[q]
 have:=Xf n _ J fun v hv=>by
  obtain⟨k,hk,rfl⟩:=Zc.mp hv;obtain⟨u,hu,rfl⟩:=h k hk;show(u:Int).toNat<n;rw[Int.toNat_natCast];exact hu
 rw[Z3]at this;exact this
theorem DI.put{H:Hp}{a:Addr}{n:Nat}{f:Nat->Option V}(h:DI H a n f)(hn:n<=100){v:Nat}(hv:v<n)(x:V):∃o,G7 H a (.int v) x (upd H a o)/\(∃Zs,o=.dK Zs)/\∀H2,H2 a=some o->DI H2 a n (fun u=>if u=v then some x else f u):=by
 obtain⟨Zs,J,h2,h3,h4⟩:=h;have hl:=y_ h2 h3;rw[Z3]at hl;refine⟨.dK (putK Zs (Sum.inl (v:Int)) x),G7.k (k:=Sum.inl (v:Int)) J (YG (ZE hl hn) (by decide)),⟨_,Y⟩,fun H2 e=>⟨_,e,?_,?_,fun u=>?_⟩⟩
 ·cases q:VH Zs (Sum.inl (v:Int))with
  |none=>exact xh x h2 q
  |some y=>
   unfold putK;rw[Z7 (by rw[V6,q];rfl),Yv];have:(Zs.map ((fun x=>x.1)∘fun kv=>if kv.1=Sum.inl (v:Int)then(kv.1,x)else kv))=Zs.map (·.1):=V9 fun kv _=>by
    show(if kv.1=Sum.inl (v:Int)then(kv.1,x)else kv).1=kv.1;split<;>rfl
   rw[this];exact h2
 ·intro k hk;cases q:VH Zs (Sum.inl (v:Int))with
  |none=>
   rw[G8 x q,Y1,Zm]at hk;rcases hk with hk|hk;·exact h3 k hk
   ·have hk:k∈[(Sum.inl (v:Int):Key)]:=hk;rw[Zp]at hk;exact⟨v,hv,hk⟩
  |some y=>
   unfold putK at hk;rw[Z7 (by rw[V6,q];rfl),Yv]at hk;have:(Zs.map ((fun x=>x.1)∘fun kv=>if kv.1=Sum.inl (v:Int)then(kv.1,x)else kv))=Zs.map (·.1):=V9 fun kv _=>by
    show(if kv.1=Sum.inl (v:Int)then(kv.1,x)else kv).1=kv.1;split<;>rfl
   rw[this]at hk;exact h3 k hk
 ·rw[AF,h4];show _=if u=v then some x else f u
  by_cases q:u=v;·rw[Z7 q,Z7 (by rw[q])]
  ·rw[Z8 q,Z8 (fun z=>q (by injection z with z;omega))]
theorem DI.new{H:Hp}{a:Addr}(n:Nat)(h:H a=some (.dK [])):DI H a n (fun _=>none):=⟨[],h,TM,fun k hk=>(by cases hk),fun _=>rfl⟩
def nv(arr:Nat->Option Nat):Nat->Option V:=fun v=>(arr v).map fun(e:Nat)=>V.int (e:Int)
def iv(lab:Nat->Option Int):Nat->Option V:=fun v=>(lab v).map fun(z:Int)=>V.int z
theorem y9(arr:Nat->Option Nat)(v e:Nat):(fun u=>if u=v then some (V.int (e:Int))else nv arr u)=nv (putN arr v e):=by
 funext u;unfold nv putN;by_cases z:u=v;·rw[Z7 z,Z7 z];rfl
 ·rw[Z8 z,Z8 z]
theorem y8(lab:Nat->Option Int)(v:Nat)(z:Int):(fun u=>if u=v then some (V.int z)else iv lab u)=iv (QN lab v z):=by
 funext u;unfold iv QN;by_cases z:u=v;·rw[Z7 z,Z7 z];rfl
 ·rw[Z8 z,Z8 z]
theorem By(arr:Nat->Option Nat)(v:Nat):(nv arr v).isSome=(arr v).isSome:=by
 unfold nv;cases arr v<;>rfl
theorem VB(arr:Nat->Option Int)(v:Nat):(iv arr v).isSome=(arr v).isSome:=by
 unfold iv;cases arr v<;>rfl
theorem Ii{v:Nat}{us:List Nat}:oi (.int (v:Int)) (us.map fun(k:Nat)=>V.int (k:Int))=decide (v∈us):=by
 unfold oi;rw[List.any_map];induction us with
 |nil=>simp
 |cons u us ih=>
  rw[TQ,ih];show((u:Int)==(v:Int)||_)=_;by_cases q:u=v
  ·subst q;simp
  ·have q1:¬((u:Int)=(v:Int)):=by omega
   have q2:¬v=u:=fun z=>q z.symm;have q3:((u:Int)==(v:Int))=false:=by rw[VL];exact q1
   rw[q3,Bool.false_or];simp[q2]
theorem Ob(us:List Nat):(us.map fun(k:Nat)=>V.int (k:Int)).all PB=true:=by
 rw[List.all_map,We];intro x _;rfl
section
variable{P:Program}{w:World}{K:W.Frag}{mg:Str->Option Value}{base:Heap}{t:Yt}
def y6(t:Yt):Sp:=fun vs H Q _=>∃a d,∃v:Nat,∃(P:Y8) (arr:Nat->Option Nat) (Ye:Nat->Nat),vs=[.ref a,.ref d,.int v]/\S_ t H a P/\DI H d P.n (nv arr)/\(∀u e,arr u=some e->e<P.links.length/\Ye (P.lk e).tail<Ye u)/\Ye v<=1000/\
 ∀H' c ks,H c=none->ZY H H'->NL H' c ks->Chain P arr v ks->Q (.ref c) H'
theorem Bx:ZN ["net","arrivals","place","numbers"] ["net","arrivals","place"] (Z0 (top 25)):=⟨Y,Y,Y,by decide+kernel,Y,by decide+kernel,by decide+kernel⟩
theorem Jv(T:Txt K mg t):Y' P w K mg base XO 33 t.Gm t.Gk ["net","arrivals","place"] (y6 t):=by
 have sc:=Bx;refine T.Em.F.ok sc (fun vs H Q E h=>?_) (fun Yx A outer s H vs Q E hr h=>?_)
 ·obtain⟨a,d,v,P,arr,Ye,rfl,_⟩:=h;rfl
 ·have hu:=QK hr;obtain⟨a,d,v,P,arr,Ye,rfl,⟨la,ks,hN⟩,hD,hA,hT,k⟩:=h;obtain⟨TU,ea⟩:=hN.obj;refine⟨_,(Z5 (ZT (i:=3) sc.nd Y (Or.inl Y) (Zy Z2))
   (Z5 (Vr Zl (Vi (EU hu (Z 2) (Z 1))) (Z5 (Xr (Va Yf W5 WT Xk (Z 3) (Z6 (WH hu (Z 1) (Z 2) (fun _ _=>rfl)) Z2)))
   (Z1 (ZT (i:=2) sc.nd Y (Or.inl Y) (ZZ (ZL ZO (ZZ (Z 0) rfl) (WH hu (Z 1) (Z 2) (fun _ _=>rfl)) (fun _ _=>rfl)) rfl)))))
   (Z1 (ZP (Z 3))))),?_⟩
  refine⟨Zw _,fun c hc=>?_⟩;refine⟨fun m σ H'=>ZY H H'/\∃(u:Nat) (ns:List Nat),σ=[some (.ref a),some (.ref d),some (.int u),some (.ref c)]/\NL H' c ns/\m=Ye u/\ns.length+Ye u<=Ye v/\∀rest,Chain P arr u rest->Chain P arr v (ns++rest),⟨_,ZY.new hc _,v,[],Y,Z4,Y,by simp,fun rest h=>h⟩,?_⟩;rintro m σ H' ⟨s1,u,ns,rfl,hL,rfl,hl,HA⟩;refine⟨_,Y,_,Y,d,_,Y,(hD.up s1).get u,_,Y,?_⟩;rw[By];cases q:arr u with
  |none=>
   refine YJ ⟨_,Y,k H' c ns hc s1 hL ?_⟩;have:=HA [] q;rw[XH]at this;exact this
  |some e=>
   obtain⟨he,ht⟩:=hA u e q;have g1:R9 H' d (.int u) (some (.int e)):=(hD.up s1).F5 (by unfold nv;rw[q];rfl);obtain⟨kk,dk,hk,ek⟩:=(hN.up s1).link he;have s2:ZY H (upd H' c (.lst ((ns.map fun(k:Nat)=>V.int (k:Int))++[.int (e:Int)]))):=s1.Zx hc _;have g2:R9 (upd H' c (.lst ((ns.map fun(k:Nat)=>V.int (k:Int))++[.int (e:Int)]))) d (.int u) (some (.int e)):=(hD.up s2).F5 (by unfold nv;rw[q];rfl);have iE:=hN.up s2;obtain⟨aF,aE,sX,kN⟩:=iE.link he;refine Y2 ⟨fun XQ Iu=>∃m',m'<Ye u/\(ZY H Iu/\∃(u:Nat) (ns:List Nat),XQ=[some (.ref a),some (.ref d),some (.int u),some (.ref c)]/\NL Iu c ns/\m'=Ye u/\ns.length+Ye u<=Ye v/\∀rest,Chain P arr u rest->Chain P arr v (ns++rest)),fun _ _ h=>h,?_⟩;refine⟨_,Y,.inl ⟨Y,_,Zz.of hL⟩,_,Y,_,Y,d,_,Y,g1,c,_,_,Y,Y,hL,by rw[Z3];exact Zo (show ns.length<1001 by omega) (by decide),?_⟩;refine⟨_,Y,_,_,_,_,_,Y,(s2 _ _ ea),T.Net.cl,T.XZ,Y,_,Y,_,Y,d,_,Y,g2,_,_,_,_,Y,Y,Zz.of iE.lst,YI sX,_,_,_,_,_,Y,kN,T.X2.cl,T.YS,Y,?_⟩;refine⟨_,ht,s2,_,ns++[e],Y,?_,Y,?_,fun rest GR=>?_⟩
   ·show upd _ _ _ _=_;rw[Z4,SE]
   ·rw[ZI];show ns.length+1+_<=_;omega
   ·rw[Wc];exact HA (e::rest) ⟨q,GR⟩
end
structure K6(P:Y8)(rl:List Nat)(arr:Nat->Option Nat):Prop where
 src:rl[0]?=some P.s
 nd:rl.Nodup
 lt:∀v,v∈rl->v<P.n
 ar:∀v e,arr v=some e->e<P.links.length/\(P.lk e).head=v/\v∈rl/\(P.lk e).tail∈rl/\rl.idxOf (P.lk e).tail<rl.idxOf v
 all:∀v,v∈rl->v≠P.s->∃e,arr v=some e
 no:arr P.s=none
def ind(rl:List Nat):Nat->Option Rat:=fun v=>if v∈rl then some 0 else none
theorem K6.start{P:Y8}(ok:P.Ok):K6 P [P.s] (fun _=>none)where
 src:=rfl
 nd:=by simp
 lt:=fun v hv=>by rw[Zp]at hv;subst hv;exact ok.s
 ar:=fun v e h=>by cases h
 all:=fun v hv hs=>by rw[Zp]at hv;exact absurd hv hs
 no:=rfl
theorem K6.put{P:Y8}(ok:P.Ok){rl:List Nat}{arr:Nat->Option Nat}(C:K6 P rl arr){e:Nat}(he:e<P.links.length)(ht:(P.lk e).tail∈rl)(hh:(P.lk e).head∉rl):K6 P (rl++[(P.lk e).head]) (putN arr (P.lk e).head e):=by
 have s0:P.s∈rl:=Y9 C.src;have ix:∀u,u∈rl->(rl++[(P.lk e).head]).idxOf u=rl.idxOf u:=fun u hu=>by rw[List.idxOf_append,Z7 hu]
 have ee:(rl++[(P.lk e).head]).idxOf (P.lk e).head=rl.length:=by
  rw[List.idxOf_append,Z8 hh];simp
 have lt:∀u,u∈rl->rl.idxOf u<rl.length:=fun u hu=>List.idxOf_lt_length_of_mem hu;refine⟨?_,Pr C.nd hh,fun v hv=>?_,fun v f hf=>?_,fun v hv hs=>?_,?_⟩
 ·rw[V_ (List.length_pos_of_mem s0)];exact C.src
 ·rcases Zm.mp hv with hv|hv;·exact C.lt v hv
  ·rw[Zp]at hv;subst hv;exact ok.lh e he
 ·unfold putN at hf;by_cases q:v=(P.lk e).head
  ·rw[Z7 q]at hf;cases hf;subst q;refine⟨he,Y,by simp,Yu _ ht,?_⟩;rw[ix _ ht,ee];exact lt _ ht
  ·rw[Z8 q]at hf;obtain⟨J,h2,h3,h4,h5⟩:=C.ar v f hf;refine⟨J,h2,Yu _ h3,Yu _ h4,?_⟩;rw[ix _ h3,ix _ h4];exact h5
 ·unfold putN;by_cases q:v=(P.lk e).head;·exact⟨e,Z7 q⟩
  ·rw[Z8 q];rcases Zm.mp hv with hv|hv;·exact C.all v hv hs
   ·rw[Zp]at hv;exact absurd hv q
 ·unfold putN;rw[Z8 (fun q=>hh (by rw[<-q];exact s0))];exact C.no
theorem wa{rl:List Nat}{v:Nat}:ind (rl++[v])=RR.put (ind rl) v (0+0):=by
 funext u;unfold ind RR.put;by_cases q:u=v
 ·rw[Z7 q,Z7 (by simp[q])];congr 1;grind
 ·rw[Z8 q];show _=if u∈rl then some 0 else none
  by_cases z:u∈rl;·rw[Z7 z,Z7 (Yu _ z)]
  ·rw[Z8 z,Z8 (by simp[z,q])]
theorem K6.chain{P:Y8}{rl:List Nat}{arr:Nat->Option Nat}(C:K6 P rl arr):∀(ks:List Nat)(v:Nat),v∈rl->Chain P arr v ks->(∀i,i<ks.length->ks.getD i 0<P.links.length/\rl.idxOf (P.lk (ks.getD i 0)).tail<rl.idxOf (P.lk (ks.getD i 0)).head)/\(∀i,i<ks.length->(P.lk (ks.getD i 0)).head=if i=0 then v else(P.lk (ks.getD (i-1) 0)).tail)/\(if ks.length=0 then v else(P.lk (ks.getD (ks.length-1) 0)).tail)=P.s:=by
 intro ks;induction ks with
 |nil=>
  intro v hv hc;refine⟨fun i hi=>absurd hi (by simp),fun i hi=>absurd hi (by simp),?_⟩;show v=P.s;by_cases q:v=P.s;·exact q
  ·obtain⟨e,he⟩:=C.all v hv q;have hc:arr v=none:=hc;rw[hc]at he;cases he
 |cons f ks ih=>
  intro v hv hc;obtain⟨ye,uW⟩:arr v=some f/\Chain P arr (P.lk f).tail ks:=hc;obtain⟨J,h2,h3,h4,h5⟩:=C.ar v f ye;obtain⟨i1,i2,i3⟩:=ih _ h4 uW;refine⟨fun i hi=>?_,fun i hi=>?_,?_⟩
  ·cases i with
   |zero=>
    show f<_/\rl.idxOf (P.lk f).tail<rl.idxOf (P.lk f).head;rw[h2];exact⟨J,h5⟩
   |succ i=>exact i1 i (by simpa using hi)
  ·cases i with
   |zero=>rw [Z7 rfl];exact h2
   |succ i=>
    rw[Z8 (by omega)];have:=i2 i (by simpa using hi);show(P.lk (ks.getD i 0)).head=(P.lk ((f::ks).getD (i+1-1) 0)).tail;rw[this];cases i with
    |zero=>rfl
    |succ i=>rw [Z8 (by omega)];rfl
  ·rw[Z8 (by simp)];cases ks with
   |nil=>exact i3
   |cons g ks=>
    rw[Z8 (by simp)]at i3;exact i3
def uQ(P:Y8)(ks:List Nat):Prop:=(ks=[]/\¬P.X3.Reach P.t)\/(ks≠[]/\∃Ye,P.X3.Way Ye (fun i=>ks.getD i 0) (ks.length-1))
theorem K6.way{P:Y8}(ok:P.Ok){rl:List Nat}{arr:Nat->Option Nat}(C:K6 P rl arr)(B:BF P.X3 (fun _=>0) (ind rl) P.n 0){ks:List Nat}(h:Chain P arr P.t ks):uQ P ks:=by
 by_cases q:P.t∈rl
 ·obtain⟨i1,i2,i3⟩:=C.chain ks P.t q h;have R7:ks≠[]:=fun z=>by
   subst z;exact ok.st (show P.t=P.s from i3).symm
  have hp:0<ks.length:=List.length_pos_iff.mpr R7;rw[Z8 (by omega)]at i3;refine .inr ⟨R7,rl.idxOf,fun i hi=>(i1 i (by omega)).1,?_,i3,fun i hi=>?_,fun i hi=>(i1 i (by omega)).2⟩
  ·have:=i2 0 hp;rw[Z7 rfl]at this;exact this
  ·have:=i2 (i+1) (by omega);rw[Z8 (by omega)]at this;exact this.symm
 ·refine .inl ⟨?_,fun r=>?_⟩
  ·cases ks with
   |nil=>rfl
   |cons f ks=>
    obtain⟨ye,_⟩:arr P.t=some f/\_:=h;exact absurd (C.ar P.t f ye).2.2.1 q
  ·obtain⟨k,c,hw⟩:=r.walk (fun _=>0);obtain⟨k',c',hk,_,wZ⟩:=hw.short ok.X3 fun _ _ _=>Ym;obtain⟨d,_,hd⟩:=B.comp k' _ c' (by have:k'<P.n:=hk;omega) wZ;unfold ind at hd;rw[Z8 q]at hd;cases hd
section
variable{P:Program}{w:World}{K:W.Frag}{mg:Str->Option Value}{base:Heap}{t:Yt}
def sR(t:Yt):Sp:=fun vs H Q _=>∃a P,vs=[.ref a]/\S_ t H a P/\P.Ok/\P.n<=6/\P.links.length<=9/\∀H' c ks,ZY H H'->NL H' c ks->uQ P ks->Q (.ref c) H'
theorem F4:ZN ["net","arrivals","reached","step","number","link"] ["net"] (Z0 (top 26)):=⟨Y,Y,Y,by decide+kernel,Y,by decide+kernel,by decide+kernel⟩
theorem F3(T:Txt K mg t):Y' P w K mg base XO 34 t.LM t.LL ["net"] (sR t):=by
 have sc:=F4;refine T.Gh.F.ok sc (fun vs H Q E h=>?_) (fun Yx A outer s H vs Q E hr h=>?_)
 ·obtain⟨a,P,rfl,_⟩:=h;rfl
 ·have hu:=QK hr;obtain⟨a,P,rfl,⟨la,ks,hN⟩,ok,n6,m9,k⟩:=h;obtain⟨TU,ea⟩:=hN.obj;refine⟨_,(Z5 (ZT (i:=1) sc.nd Y (Or.inl Y) G3)
   (Z5 (ZT (i:=2) sc.nd Y (Or.inl Y) (Zy (Z6 (ZZ (Z 0) rfl) Z2)))
   (Z5 (YC Zl Y (Wi Y T.T7 (Z6 (ZZ (Z 0) rfl) Z2)) (ZD (i:=3) sc.nd Y (Or.inl Y)) (Z1 (YC Zl Y (Wn Y T.Vd (Z6 (ZZ (Z 0) rfl) Z2)) (V7 Y (Y0 (ZD (i:=4) sc.nd Y (Or.inl Y)) (Y0 (ZD (i:=5) sc.nd Y (Or.inl Y)) WX))) (Z1 (YZ (PW.pt (Qr (ZJ Ce (ZZ (Z 5) rfl) (Z 2) rfl) (Q7 (ZJ Py (ZZ (Z 5) rfl) (Z 2) rfl)))) (Z5 (Xr (Va Yf W5 WT Xk (Z 2) (Z6 (ZZ (Z 5) rfl) Z2)))
   (Z1 (Pw hu (Z 1) (ZZ (Z 5) rfl) (Z 4) rfl))) Zv)))))
   (Z1 (ZP (cl T.Em (Jv T) hr (by decide) rfl (Z6 (Z 0) (Z6 (Z 1) (Z6 (ZZ (Z 0) rfl) Z2))))))))),?_⟩
  refine fun d hd=>⟨_,Y,_,_,_,_,_,Y,Le ea hd,T.Net.cl,T.U3,Y,(by show 1<=sizeLine;decide),fun c hc=>?_⟩;have s0:ZY H (upd (upd H d (.dK [])) c (.lst [.int P.s])):=(ZY.new hd _).trans (ZY.new hc _);have Bg:c≠d:=fun q=>by rw[q,Z4]at hc;cases hc
  have kM:H c=none:=(ZY.new hd (.dK [])).free hc;let Z_:Nat->Nat->Hp->Prop:=fun r i H'=>ZY H H'/\∃rl arr,NL H' c rl/\DI H' d P.n (nv arr)/\K6 P rl arr/\BF P.X3 (fun _=>0) (ind rl) r i
  have J0:Z_ 0 0 (upd (upd H d (.dK [])) c (.lst [.int P.s])):=by
   refine⟨s0,[P.s],fun _=>none,Z4,DI.new _ (by rw[ZW (fun q=>Bg q.symm),Z4]),K6.start ok,?_⟩;have:=BF.start P.X3 (fun _=>0);have e:ind [P.s]=RR.start P.X3.s:=by
    funext v;unfold ind RR.start;by_cases q:v=P.s;·rw[Z7 (by simp[q]),Z7 (show v=P.X3.s from q)]
    ·rw[Z8 (by simp[q]),Z8 (show¬v=P.X3.s from q)]
   rw[e];exact this
  refine⟨_,Y,_,_,_,_,_,Y,(s0 _ _ ea),T.Net.cl,T.WE,Y,(P.n:Int),Y,by omega,by omega,?_⟩;refine Uz (n:=P.n) (fun r σ H'=>(∃c3 c4 c5,σ=[some (.ref a),some (.ref d),some (.ref c),c3,c4,c5])/\Z_ r 0 H') ⟨⟨none,none,none,Y⟩,J0⟩ ?_ ?_
  ·rintro r σ H1 rF ⟨⟨c3,c4,c5,rfl⟩,j1⟩;have Hy:=j1.1 _ _ ea;refine⟨_,Y,_,_,_,_,_,Y,Hy,T.Net.cl,T.XZ,Y,_,_,Y,Zz.of (j1.1 _ _ hN.lst),?_⟩;refine Vk (K:=K) (xs:=ks.map V.ref) (fun i σ H'=>(∃c3 c4 c5,σ=[some (.ref a),some (.ref d),some (.ref c),c3,c4,c5])/\Z_ r i H') ⟨⟨_,_,_,Y⟩,j1⟩ (fun i σ H' _ q=>Zz.of (q.2.1 _ _ hN.lst)) ?_ ?_
   ·rintro i x σ H2 H3 hx ⟨⟨c3,c4,c5,rfl⟩,s2,rl,arr,g1,g2,C,B⟩ s3;obtain⟨kk,v_,rfl⟩:=Yk hx;have hi:i<P.links.length:=by rw[<-hN.len];exact(ZC.mp v_).1
    have s4:=s2.trans s3;obtain⟨dk,ek⟩:=(hN.at_ i kk v_).up s4;have g1:=s3 _ _ g1;have g2:=g2.up s3;refine⟨_,Y,_,_,_,_,_,Y,ek,T.X2.cl,T.YS,Y,_,Y,_,_,Y,.inl (Zz.of g1),Y,Ob _,_,Y,?_⟩;rw[Ii];by_cases q1:(P.lk i).tail∈rl
    ·refine rH (ZR q1) ⟨_,Y,_,_,_,_,_,Y,ek,T.X2.cl,T.Y4,Y,_,Y,_,_,Y,.inl (Zz.of g1),Y,Ob _,_,Y,?_⟩;rw[Ii];by_cases q2:(P.lk i).head∈rl
     ·refine pG (by rw[ZR q2];rfl) ⟨⟨_,_,_,Y⟩,s4,rl,arr,g1,g2,C,?_⟩;exact B.keep (c:=0) (d:=0) (Z7 q1) (Z7 q2) (by grind)
     ·refine rH (by rw[ZF q2];rfl) ?_;have hlen:=Xf P.n rl C.nd C.lt;refine⟨_,Y,.inl ⟨Y,_,Zz.of g1⟩,_,Y,_,_,_,_,_,Y,ek,T.X2.cl,T.Y4,Y,c,_,_,Y,Y,g1,by rw[Z3];exact YG (ZE hlen n6) (by decide),?_⟩;obtain⟨o,y4,⟨kv,rfl⟩,pA⟩:=(show DI (upd H3 c (.lst ((rl.map fun(k:Nat)=>V.int (k:Int))++[.int ((P.lk i).head:Int)]))) d P.n (nv arr)from by
       obtain⟨Zs,z1,z2⟩:=g2;exact⟨Zs,Xu z1 g1 (fun ys q=>by cases q),z2⟩).put (by omega) (ok.lh i hi) (.int (i:Int))
      have kN:upd H3 c (.lst ((rl.map fun(k:Nat)=>V.int (k:Int))++[.int ((P.lk i).head:Int)])) kk=_:=Xu ek g1 fun ys q=>by cases q
      refine⟨_,Y,_,Y,_,Y,_,_,_,_,_,Y,kN,T.X2.cl,T.Y4,Y,d,_,Y,y4,⟨_,_,_,Y⟩,?_,rl++[(P.lk i).head],putN arr (P.lk i).head i,?_,?_,C.put ok hi q1 q2,?_⟩;·exact(s4.Zx kM _).Zx hd _
      ·show upd _ _ _ _=_;rw[ZW Bg,Z4,SE]
      ·rw[<-y9];exact pA _ Z4
      ·rw[wa];exact B.put (c:=0) hi Y (Z7 q1) fun x hx=>by
        have:ind rl (P.X3.to i)=none:=Z8 q2;rw[this]at hx;cases hx
    ·refine pG (ZF q1) (YJ ⟨⟨_,_,_,Y⟩,s4,rl,arr,g1,g2,C,B.skip (.inr (Z8 q1))⟩)
   ·rintro σ H2 ⟨⟨c3,c4,c5,rfl⟩,s2,rl,arr,g1,g2,C,B⟩;rw[Z3,hN.len]at B;exact⟨⟨_,_,_,Y⟩,s2,rl,arr,g1,g2,C,B.next⟩
  ·rintro σ H1 ⟨⟨c3,c4,c5,rfl⟩,s2,rl,arr,g1,g2,C,B⟩;refine⟨_,Y,_,Y,_,Y,_,_,_,_,_,Y,(s2 _ _ ea),T.Net.cl,T.P9,Y,a,d,P.t,P,arr,rl.idxOf,Y,⟨la,ks,hN.up s2⟩,g2,fun u e he=>⟨(C.ar u e he).1,(C.ar u e he).2.2.2.2⟩,?_,fun H2 c2 d_ n2 s3 hL HA=>k H2 c2 d_ (s2.trans s3) hL (C.way ok B HA)⟩;have hlen:=Xf P.n rl C.nd C.lt;have:=List.idxOf_le_length (l:=rl) (a:=P.t);show List.idxOf P.t rl<=1000;omega
end
end Rw
namespace Rw
open PySem PySem.Spec PyProof.Rows L2 RR
def grow(s v:Nat)(row:List Int):List Int:=(List.range row.length).map fun u=>if v=s\/row.getD v 0=0 then(if u=v then 1 else 0)else if u=s then 0 else row.getD u 0
theorem YT{n j:Nat}{f:Nat->Int}(h:j<n):((List.range n).map f).getD j 0=f j:=by
 rw[ZX,Zf,XG h];rfl
theorem UY(f:Nat->Int)(j:Nat)(z:Int)(h:f j=z):((List.range j).map f).map V.int++[.int z]=((List.range (j+1)).map f).map V.int:=by
 rw[WU,Y1,Y1,<-h];rfl
section
variable{P:Program}{w:World}{K:W.Frag}{mg:Str->Option Value}{base:Heap}{t:Yt}
def Ea:Sp:=fun vs H Q _=>∃a,∃s:Nat,∃rows n wd,vs=[.ref a,.int s]/\Uw H a rows/\RE n wd rows/\n<=wd/\wd<=100/\∀H' c,ZY H H'->Uw H' c ((List.range n).map fun v=>grow s v (rows.getD v []))->Q (.ref c) H'
theorem F2:ZN ["rows","source","answer","number","row","place","entry"] ["rows","source"] (Z0 (top 27)):=⟨Y,Y,Y,by decide+kernel,Y,by decide+kernel,by decide+kernel⟩
theorem F1(T:Txt K mg t):Y' P w K mg base XO 33 t.LK t.LJ ["rows","source"] Ea:=by
 have sc:=F2;refine T.Gg.F.ok sc (fun vs H Q E h=>?_) (fun Yx A outer s H vs Q E hr h=>?_)
 ·obtain⟨a,s,rows,n,wd,rfl,_⟩:=h;rfl
 ·obtain⟨a,s,rows,n,wd,rfl,⟨rs,e1,e2,e3⟩,R,nw,Bw,k⟩:=h;have nl:rs.length=n:=by rw[e2,R.len]
  refine⟨_,(Z5 (ZT (i:=2) sc.nd Y (Or.inl Y) (Zy Z2))
   (Z5 (YC Zl Y (Wn Y T.Vd (Z6 (Z 0) Z2)) (V7 Y (Y0 (ZD (i:=3) sc.nd Y (Or.inr Y)) (Y0 (ZD (i:=4) sc.nd Y (Or.inl Y)) WX))) (Z1 (YZ (PW.pt (Vc (ZJ Vb (Z 3) (Z 1) (Zu _)) (VJ (ZJ Vb (ZL ZO (Z 4) (Z 3) (fun _ _=>rfl)) ZS (Zu _))))) (Z1 (Xr (Va Yf W5 WT Xk (Z 2) (Z6 (Sr Y sc.nd (Wi Y T.T7 (Z6 (YV Zi (by rfl) T.WB YU (Z6 (Z 4) Z2)) Z2)) (YB (own:=[("place",5)]) (show Us ["rows","source","answer","number","row","place","entry"] (Z0 (top 27)) _ _=true by decide+kernel)) (fun _ _ _ _ _=>by exact(ZD (i:=5) sc.nd Y (Or.inl Y))) (fun _ _ _ _ _=>by exact XS) (fun _ _ _ _ _=>by exact(Mx (ZJ Vb (Z 5) (Z 3) (Zu _)) ZS ZS))) Z2)))) (Z1 (Xr (Va Yf W5 WT Xk (Z 2) (Z6 (Sr Y sc.nd (Wn Y T.Vd (Z6 (Z 4) Z2)) (YB (own:=[("place",5),("entry",6)]) (show Us ["rows","source","answer","number","row","place","entry"] (Z0 (top 27)) _ _=true by decide+kernel)) (fun _ _ _ _ _=>by exact(P8 (K:=K) (i:=5) (j:=6) rfl rfl sc.nd Y rfl (Or.inl Y) (Or.inl Y))) (fun _ _ _ _ _=>by exact XS) (fun _ _ _ _ _=>by exact(Mx (ZJ Vb (Z 5) (Z 1) (Zu _)) ZS (Z 6)))) Z2)))))))
   (Z1 (ZP (Z 2))))),?_⟩
  refine⟨Zw _,fun c hc=>?_⟩;have s0:ZY H (upd H c (.lst [])):=ZY.new hc _;refine⟨_,Y,_,_,Y,Zz.of (s0 _ _ e1),?_⟩;refine Vk (K:=K) (xs:=rs.map V.ref) (fun i σ H'=>(∃c3 c4 c5 c6,σ=[some (.ref a),some (.int s),some (.ref c),c3,c4,c5,c6])/\ZY H H'/\∃bs:List Addr,H' c=some (.lst (bs.map V.ref))/\bs.length=i/\(∀b,b∈bs->b≠c)/\∀(j:Nat) b,bs[j]?=some b->IL H' b (grow s j (rows.getD j [])))
   ⟨⟨none,none,none,none,Y⟩,s0,[],Z4,Y,fun b O=>(by cases O),fun j b O=>(by simp at O)⟩ (fun i σ H' _ q=>Zz.of (q.2.1 _ _ e1)) ?_ ?_
  ·rintro i x σ H1 H2 hx ⟨⟨c3,c4,c5,c6,rfl⟩,s1,bs,g1,g2,g3,g4⟩ s2;obtain⟨r,GR,rfl⟩:=Yk hx;have hi:i<n:=by rw[<-nl];exact(ZC.mp GR).1
   have s3:=s1.trans s2;have er:=s3 _ _ (e3 i r GR);have ln:(rows.getD i []).length=wd:=R.at hi;have g1:=s2 _ _ g1;have fin:∀H3 D,H2 D=none->ZY H2 H3->IL H3 D (grow s i (rows.getD i []))->∀c3 c4 c5 c6,(∃d3 d4 d5 d6,[some (V.ref a),some (.int (s:Int)),some (.ref c),c3,c4,c5,c6]=[some (V.ref a),some (.int (s:Int)),some (.ref c),d3,d4,d5,d6])/\ZY H (upd H3 c (.lst (bs.map V.ref++[.ref D])))/\∃yc:List Addr,upd H3 c (.lst (bs.map V.ref++[.ref D])) c=some (.lst (yc.map V.ref))/\yc.length=i+1/\(∀b,b∈yc->b≠c)/\∀(j:Nat) b,yc[j]?=some b->IL (upd H3 c (.lst (bs.map V.ref++[.ref D]))) b (grow s j (rows.getD j [])):=by
    intro H3 D hD s4 hI c3 c4 c5 c6;have nD:D≠c:=fun q=>by rw[q,g1]at hD;cases hD
    refine⟨⟨_,_,_,_,Y⟩,(s3.trans s4).Zx hc _,bs++[D],by rw[Z4,U2],by rw[ZI,g2];rfl,fun b O=>?_,fun j b O=>?_⟩
    ·rcases Zm.mp O with z|z;·exact g3 b z
     ·rw[Zp]at z;rw[z];exact nD
    ·rcases U1 O with⟨z1,z2⟩|⟨z1,rfl⟩
     ·show upd _ _ _ _=_;rw[ZW (g3 b (Y9 z2))];exact s4 _ _ (s2 _ _ (g4 j b z2))
     ·rw[z1,g2];show upd _ _ _ _=_;rw[ZW nD];exact hI
   have lb:(bs.map V.ref).length<sizeLine:=by rw[Z3,g2];exact Zo hi (ZE (ZE nw Bw) (by decide))
   have sQ:(i=s\/(rows.getD i []).getD i 0=0)->grow s i (rows.getD i [])=(List.range wd).map fun u=>if u=i then 1 else 0:=fun q=>by
    unfold grow;rw[ln];exact V9 fun u _=>by rw[Z7 q]
   have v9:¬(i=s\/(rows.getD i []).getD i 0=0)->grow s i (rows.getD i [])=(List.range wd).map fun u=>if u=s then 0 else(rows.getD i []).getD u 0:=fun q=>by
    unfold grow;rw[ln];exact V9 fun u _=>by rw[Z8 q]
   have uP:(i=s\/(rows.getD i []).getD i 0=0)->∀(D:Addr),H2 D=none->∀H3,(ZY H2 H3/\IL H3 D ((List.range wd).map fun u=>if u=i then(1:Int)else 0))->(∃l xs y,V.ref c=.ref l/\[V.ref D]=[y]/\H3 l=some (.lst xs)/\xs.length<sizeLine/\((∃d3 d4 d5 d6,[some (V.ref a),some (.int (s:Int)),some (.ref c),some (.int (i:Int)),some (.ref r),c5,c6]=[some (V.ref a),some (.int (s:Int)),some (.ref c),d3,d4,d5,d6])/\ZY H (upd H3 l (.lst (xs++[y])))/\∃yc:List Addr,upd H3 l (.lst (xs++[y])) c=some (.lst (yc.map V.ref))/\yc.length=i+1/\(∀b,b∈yc->b≠c)/\∀(j:Nat) b,yc[j]?=some b->IL (upd H3 l (.lst (xs++[y]))) b (grow s j (rows.getD j [])))):=fun q D hD H3 ⟨s4,hI⟩=>
    ⟨c,_,_,Y,Y,s4 _ _ g1,lb,fin H3 D hD s4 (by rw[sQ q];exact hI) _ _ _ _⟩
   refine⟨_,Y,_,Y,Y,_,Y,Ws (fun c1=>?_) (fun c1=>?_)⟩
   ·have q:i=s:=by
     have:=ZG c1;injection this with z
     omega
    refine Y2 ⟨_,Y,.inl ⟨Y,_,Zz.of g1⟩,_,Y,_,_,Y,.inl (Zz.of er),(wd:Int),by rw[Z3,ln],by omega,by omega,fun D hD=>?_⟩;refine QS (n:=wd) (fun j H3=>ZY H2 H3/\IL H3 D ((List.range j).map fun u=>if u=i then(1:Int)else 0)) ⟨ZY.new hD _,Z4⟩ ?_ (uP (.inl q) D hD);rintro j H3 hj ⟨s4,d4⟩;refine⟨Y,_,Y,_,Y,Y,_,Y,Ws (fun c2=>?_) (fun c2=>?_)⟩
    ·have z:j=i:=by
      have:=ZG c2;injection this with z
      omega
     refine⟨_,d4,by rw[Z3,Z3,Zd];exact Zo hj (ZE Bw (by decide)),s4.Zx hD _,?_⟩;show upd _ _ _ _=_;rw[Z4,UY _ _ _ (Z7 z)]
    ·have z:j≠i:=fun z=>c2 (by rw[z];exact ZR Y);refine⟨_,d4,by rw[Z3,Z3,Zd];exact Zo hj (ZE Bw (by decide)),s4.Zx hD _,?_⟩;show upd _ _ _ _=_;rw[Z4,UY _ _ _ (Z8 z)]
   ·have q1:i≠s:=fun z=>c1 (by rw[z];exact ZR Y);refine⟨_,Y,_,Y,_,_,_,_,Y,Y,Zz.of er,Wy (by rw[ln];omega),Y,_,Y,Ws (fun c2=>?_) (fun c2=>?_)⟩
    ·have q:(rows.getD i []).getD i 0=0:=by
      have:=ZG c2;injection this with z
     refine⟨_,Y,.inl ⟨Y,_,Zz.of g1⟩,_,Y,_,_,Y,.inl (Zz.of er),(wd:Int),by rw[Z3,ln],by omega,by omega,fun D hD=>?_⟩;refine QS (n:=wd) (fun j H3=>ZY H2 H3/\IL H3 D ((List.range j).map fun u=>if u=i then(1:Int)else 0)) ⟨ZY.new hD _,Z4⟩ ?_ (uP (.inr q) D hD);rintro j H3 hj ⟨s4,d4⟩;refine⟨Y,_,Y,_,Y,Y,_,Y,Ws (fun c2=>?_) (fun c2=>?_)⟩
     ·have z:j=i:=by
       have:=ZG c2;injection this with z
       omega
      refine⟨_,d4,by rw[Z3,Z3,Zd];exact Zo hj (ZE Bw (by decide)),s4.Zx hD _,?_⟩;show upd _ _ _ _=_;rw[Z4,UY _ _ _ (Z7 z)]
     ·have z:j≠i:=fun z=>c2 (by rw[z];exact ZR Y);refine⟨_,d4,by rw[Z3,Z3,Zd];exact Zo hj (ZE Bw (by decide)),s4.Zx hD _,?_⟩;show upd _ _ _ _=_;rw[Z4,UY _ _ _ (Z8 z)]
    ·have q:¬(i=s\/(rows.getD i []).getD i 0=0):=fun z=>by
      rcases z with z|z;·exact q1 z
      ·exact c2 (by rw[z];exact ZR Y)
     refine⟨_,Y,.inl ⟨Y,_,Zz.of g1⟩,_,Y,_,_,Y,Zz.of er,fun D hD=>?_⟩;refine MC (K:=K) (xs:=(rows.getD i []).map V.int) (fun j H3=>ZY H2 H3/\IL H3 D ((List.range j).map fun u=>if u=s then 0 else(rows.getD i []).getD u 0)) ⟨ZY.new hD _,Z4⟩ (fun j H3 _ z=>Zz.of (z.1 _ _ er)) ?_ ?_
     ·rintro j x H3 H4 hx ⟨s4,d4⟩ s5;obtain⟨hj,rfl⟩:=int_at hx;have d4:=s5 _ _ d4;have lj:(((List.range j).map fun u=>if u=s then 0 else(rows.getD i []).getD u 0).map V.int).length<sizeLine:=by
       rw[Z3,Z3,Zd];rw[ln]at hj;exact Zo hj (ZE Bw (by decide))
      refine⟨Y,_,Y,_,Y,Y,_,Y,Ws (fun c3=>?_) (fun c3=>⟨_,Y,?_⟩)⟩
      ·have z:j=s:=by
        have:=ZG c3;injection this with z
        omega
       refine⟨_,d4,lj,(s4.trans s5).Zx hD _,?_⟩;show upd _ _ _ _=_;rw[Z4,UY _ _ _ (Z7 z)]
      ·have z:j≠s:=fun z=>c3 (by rw[z];exact ZR Y);refine⟨_,d4,lj,(s4.trans s5).Zx hD _,?_⟩;show upd _ _ _ _=_;rw[Z4,UY _ _ _ (Z8 z)]
     ·rintro H3 ⟨s4,d4⟩;rw[Z3,ln]at d4;exact⟨c,_,_,Y,Y,s4 _ _ g1,lb,fin H3 D hD s4 (by rw[v9 q];exact d4) _ _ _ _⟩
  ·rintro σ H1 ⟨⟨c3,c4,c5,c6,rfl⟩,s1,bs,g1,g2,g3,g4⟩;rw[Z3,nl]at g2;refine⟨_,Y,k H1 c s1 ⟨bs,g1,by rw[g2,Z3,Zd],fun j b O=>?_⟩⟩;have hj:j<n:=by rw[<-g2];exact(ZC.mp O).1
   have e:(((List.range n).map fun v=>grow s v (rows.getD v [])).getD j [])=grow s j (rows.getD j []):=by
    rw[ZX,Zf,XG hj];rfl
   rw[e];exact g4 j b O
end
end Rw
namespace Rw
open PySem PySem.Spec PyProof.Rows L2 RR
structure Nc(H:Hp)(D:Addr)(ra:List Addr)(n:Nat)(M:Nat->Nat->Int):Prop where
 lst:H D=some (.lst (ra.map V.ref))
 len:ra.length=n
 nd:ra.Nodup
 row:∀(v:Nat) r,ra[v]?=some r->IL H r ((List.range (n+1)).map (M v))
theorem Nc.at_{H:Hp}{D:Addr}{ra:List Addr}{n:Nat}{M:Nat->Nat->Int}(h:Nc H D ra n M){v:Nat}(hv:v<n):∃r,ra[v]?=some r/\IL H r ((List.range (n+1)).map (M v)):=by
 have hl:v<ra.length:=by rw[h.len];exact hv
 exact⟨ra[v],ZU hl,h.row v _ (ZU hl)⟩
theorem T6(xs:List Int)(j:Nat)(z:Int):(xs.map V.int).set j (.int z)=(xs.set j z).map V.int:=by rw[List.map_set]
theorem set_range{n j:Nat}{f:Nat->Int}{z:Int}(hj:j<n):((List.range n).map f).set j z=(List.range n).map fun b=>if b=j then z else f b:=by
 refine List.ext_getElem (by simp) fun i J h2=>?_;rw[List.getElem_set];simp only[List.getElem_map,List.getElem_range];by_cases q:j=i;·rw[Z7 q,Z7 q.symm]
 ·rw[Z8 q,Z8 (fun z=>q z.symm)]
theorem Nc.set{H:Hp}{D:Addr}{ra:List Addr}{n:Nat}{M:Nat->Nat->Int}(h:Nc H D ra n M){v j:Nat}{r:Addr}(hr:ra[v]?=some r)(hD:D∉ra)(hj:j<n+1)(z:Int):Nc (upd H r (.lst ((((List.range (n+1)).map (M v)).map V.int).set j (.int z)))) D ra n (setM M v j z):=by
 have kL:r∈ra:=Y9 hr;refine⟨by rw[ZW (fun q=>hD (by rw[q];exact kL))];exact h.lst,h.len,h.nd,fun u c hc=>?_⟩;by_cases q:u=v
 ·subst q;rw[hr]at hc;cases hc;show upd _ _ _ _=_;rw[Z4,T6,set_range hj];congr 4;funext b;unfold setM;by_cases zz:b=j;·rw[Z7 zz,Z7 ⟨Y,zz⟩]
  ·rw[Z8 zz,Z8 (fun w=>zz w.2)]
 ·have R7:c≠r:=fun z=>q (As h.nd hc (by rw[z];exact hr));show upd _ _ _ _=_;rw[ZW R7];have:=h.row u c hc;have e:setM M v j z u=M u:=by
   funext b;unfold setM;rw[Z8 (fun w=>q w.1)]
  rw[e];exact this
theorem OS{n j:Nat}(h:j<n):Cg n (j:Int)=some j:=by
 unfold Cg;rw[Z7 (by omega),Z7 (by omega)];simp
theorem F0{n j:Nat}{f:Nat->Int}(h:j<n):Q6 (((List.range n).map f).map V.int) (j:Int)=some (.int (f j)):=by
 have:=Wy (ns:=(List.range n).map f) (k:=j) (by simp[h]);rw[YT h]at this;exact this
theorem P6{K:W.Frag}{H:Hp}{D:Addr}{ra:List Addr}{n:Nat}{M:Nat->Nat->Int}(h:Nc H D ra n M){v j:Nat}{r:Addr}(hr:ra[v]?=some r)(hj:j<n+1):Zz K H r (((List.range (n+1)).map (M v)).map V.int)/\(0:Int)<=(j:Int)/\Q6 (((List.range (n+1)).map (M v)).map V.int) (j:Int)=some (.int (M v j))/\H r=some (.lst (((List.range (n+1)).map (M v)).map V.int))/\Cg (((List.range (n+1)).map (M v)).map V.int).length (j:Int)=some j:=
 ⟨Zz.of (h.row v r hr),by omega,F0 hj,h.row v r hr,by rw[Z3,Z3,Zd];exact OS hj⟩
section
variable{P:Program}{w:World}{K:W.Frag}{mg:Str->Option Value}{base:Heap}{t:Yt}
structure OR(P:Y8)(U:List Nat)(S:Int)(rows:List (List Int)):Prop where
 IP:RE P.n (P.n+1) rows
 ent:∀v,v<P.n->∀u,u<P.n+1->RR.ent rows v u=if v=P.s\/P.raw U S v v=0 then(if u=v then 1 else 0)else if u=P.s then 0 else P.raw U S v u
def sP(t:Yt):Sp:=fun vs H Q _=>∃a b P U S,vs=[.ref a,.ref b,.int S]/\S_ t H a P/\NL H b U/\P.Ok/\P.Sz/\(∀e,e∈U->e<P.links.length)/\U.length<=9/\Bd 100 S/\∀H' c rows,ZY H H'->Uw H' c rows->OR P U S rows->Q (.ref c) H'
theorem MV:ZN ["net","used","spread","last","rows","place","number","link","weight"] ["net","used","spread"] (Z0 (top 28)):=⟨Y,Y,Y,by decide+kernel,Y,by decide+kernel,by decide+kernel⟩
theorem MU(T:Txt K mg t):Y' P w K mg base XO 34 t.Rz t.Ry ["net","used","spread"] (sP t):=by
 have sc:=MV;refine T.O0.F.ok sc (fun vs H Q E h=>?_) (fun Yx A outer s H vs Q E hr h=>?_)
 ·obtain⟨a,b,P,U,S,rfl,_⟩:=h;rfl
 ·have hd:=hr.div (by decide);obtain⟨a,b,P,U,S,rfl,⟨la,ks,hN⟩,hU,ok,Z',lt,l9,bS,k⟩:=h;obtain⟨TU,ea⟩:=hN.obj;have n6:=Z'.n6;refine⟨_,(Z5 (ZT (i:=3) sc.nd Y (Or.inr Y) (ZZ (Z 0) rfl))
   (Z5 (Vq (i:=4) rfl sc.nd Y rfl (Uq Y rfl rfl rfl) (Wi Y T.T7 (Z6 (Z 3) Z2)) (YB (own:=[("place",5)]) (show Us ["net","used","spread","last","rows","place","number","link","weight"] (Z0 (top 28)) _ _=true by decide+kernel)) (fun _ _ _ _ _=>by exact(ZD (i:=5) sc.nd Y (Or.inl Y))) (fun _ _ _ _ _=>by exact XS) (fun _ _ _ _ _=>by exact(Zg EX (Zy (Z6 ZS Z2)) (Zg S4 (Z 3) ZS))))
   (Z5 (YC Zl Y (Yy (Z 1)) (ZD (i:=6) sc.nd Y (Or.inl Y)) (Z5 (ZT (i:=7) sc.nd Y (Or.inl Y) (ZL ZO (ZZ (Z 0) rfl) (Z 6) (fun _ _=>rfl)))
   (Z5 (ZT (i:=8) sc.nd Y (Or.inl Y) (Zg (V5 hd) (Z 2) (ZZ (Z 7) rfl)))
   (Z5 (S5 (ZL ZO (Z 4) (ZZ (Z 7) rfl) (fun _ _=>rfl)) (ZZ (Z 7) rfl) Uy (Z 8) Mv set_list)
   (Z5 (S5 (ZL ZO (Z 4) (ZZ (Z 7) rfl) (fun _ _=>rfl)) (ZZ (Z 7) rfl) Uy (Z 8) Mv set_list)
   (Z5 (S5 (ZL ZO (Z 4) (ZZ (Z 7) rfl) (fun _ _=>rfl)) (ZZ (Z 7) rfl) Uy (Z 8) Ff set_list)
   (Z5 (S5 (ZL ZO (Z 4) (ZZ (Z 7) rfl) (fun _ _=>rfl)) (ZZ (Z 7) rfl) Uy (Z 8) Ff set_list)
   (Z5 (S5 (ZL ZO (Z 4) (ZZ (Z 7) rfl) (fun _ _=>rfl)) (Z 3) Uy (Zg YX (Z 8) (ZZ (Z 7) rfl)) Ff set_list)
   (Z1 (S5 (ZL ZO (Z 4) (ZZ (Z 7) rfl) (fun _ _=>rfl)) (Z 3) Uy (Zg YX (Z 8) (ZZ (Z 7) rfl)) Mv set_list))))))))))
   (Z5 (S5 (ZL ZO (Z 4) (ZZ (Z 0) rfl) (fun _ _=>rfl)) (Z 3) Uy (Zg YX (Z 2) (ZZ (Z 0) rfl)) Mv set_list)
   (Z1 (ZP (cl T.Gg (F1 T) hr (by decide) rfl (Z6 (Z 4) (Z6 (ZZ (Z 0) rfl) Z2))))))))),?_⟩
  refine⟨_,Y,_,_,_,_,_,Y,ea,T.Net.cl,T.WE,Y,_,Y,(P.n:Int),Y,by omega,by omega,fun D hD=>?_⟩;refine QS (n:=P.n) (fun i H'=>ZY H H'/\∃bs:List Addr,H' D=some (.lst (bs.map V.ref))/\bs.length=i/\bs.Nodup/\(∀r,r∈bs->H r=none/\r≠D)/\∀(j:Nat) r,bs[j]?=some r->IL H' r ((List.range (P.n+1)).map fun _=>(0:Int)))
   ⟨ZY.new hD _,[],Z4,Y,TM,fun r hr=>(by cases hr),fun j r hr=>(by simp at hr)⟩ ?_ ?_
  ·rintro i H1 hi ⟨s1,bs,g1,g2,g3,g4,g5⟩;refine⟨Y,(by show 1<=sizeLine;decide),fun p hp=>?_⟩;refine⟨_,Y,_,_,Y,Y,p,(P.n+1:Int),_,Y,Y,Z4,by omega,by omega,?_,fun r hr=>?_⟩
   ·show 1*_<=_;exact ZE (show 1*((P.n+1:Int)).toNat<=7 by omega) (by decide)
   ·have rF:H1 r=none:=by
     by_cases q:r=p;·rw[q];exact hp
     ·rw[ZW q]at hr;exact hr
    have sA:ZY H1 (upd (upd H1 p (.lst [.int 0])) r (.lst (List.replicate ((P.n+1:Int)).toNat [V.int 0]).flatten)):=(ZY.new hp _).trans (ZY.new hr _);have iD:r≠D:=fun q=>by rw[q,g1]at rF;cases rF
    have er:(List.replicate ((P.n+1:Int)).toNat [V.int 0]).flatten=((List.range (P.n+1)).map fun _=>(0:Int)).map V.int:=by
     rw[show((P.n+1:Int)).toNat=P.n+1 by omega,Yv];refine UQ fun j=>?_;rw[List.flatten_replicate_singleton,PQ,Zf];by_cases hj:j<P.n+1;·rw[Z7 hj,XG hj];rfl
     ·rw[Z8 hj,YQ (by simp;omega)];rfl
    refine⟨_,sA _ _ g1,by rw[Z3,g2];exact Zo (show i<7 by omega) (by decide),(s1.trans sA).Zx hD _,bs++[r],by rw[Z4,U2],by rw[ZI,g2];rfl,Pr g3 ?_,fun c hc=>?_,fun j c hc=>?_⟩
    ·intro q;obtain⟨j,hj⟩:=List.getElem?_of_mem q;have:=g5 j r hj;have this:H1 r=_:=this;rw[rF]at this;cases this
    ·rcases Zm.mp hc with z|z;·exact g4 c z
     ·rw[Zp]at z;subst z;exact⟨s1.free rF,iD⟩
    ·rcases U1 hc with⟨z1,z2⟩|⟨z1,rfl⟩
     ·show upd _ _ _ _=_;rw[ZW (g4 c (Y9 z2)).2];exact sA _ _ (g5 j c z2)
     ·show upd _ _ _ _=_;rw[ZW iD,Z4,er]
  ·rintro H1 ⟨s1,ra,g1,g2,g3,g4,g5⟩;have sO:D∉ra:=fun q=>(g4 D q).2 rfl;have M0:Nc H1 D ra P.n (P.UD [] S):=⟨g1,g2,g3,fun v r e=>g5 v r e⟩;refine⟨_,Y,b,Y,⟨_,Zz.of (s1 _ _ hU)⟩,?_⟩;refine XA (K:=K) (a:=b) (xs:=U.map fun(k:Nat)=>V.int (k:Int)) (fun i σ H'=>(∃c6 c7 c8,σ=[some (.ref a),some (.ref b),some (.int S),some (.int P.n),some (.ref D),none,c6,c7,c8])/\ZY H H'/\Nc H' D ra P.n (P.UD (U.take i) S)) ⟨⟨none,none,none,Y⟩,s1,M0⟩ (fun i σ H' _ q=>Zz.of (q.2.1 _ _ hU)) ?_ ?_
   ·rintro i x σ H2 hx ⟨⟨c6,c7,c8,rfl⟩,s2,M⟩;obtain⟨e,he,rfl⟩:=Uv hx;have kK:e∈U:=Y9 he;have Xd:=lt e kK;obtain⟨kk,dk,hk,ek⟩:=hN.link Xd;have nk:H kk≠none:=by rw[ek];simp
    have bp:=ok.b e Xd;obtain⟨rt,yb,-⟩:=M.at_ (ok.lt e Xd);obtain⟨rh,ya,-⟩:=M.at_ (ok.lh e Xd);have fresh:∀r,r∈ra->H r=none:=fun r hr=>(g4 r hr).1;have kJ:=fresh rt (Y9 yb);have kI:=fresh rh (Y9 ya);have tl:(P.lk e).tail<P.n+1:=X6 (ok.lt e Xd);have hl:(P.lk e).head<P.n+1:=X6 (ok.lh e Xd);have nn:P.n<P.n+1:=V8 _;refine⟨_,Y,_,_,_,_,_,Y,(s2 _ _ ea),T.Net.cl,T.XZ,Y,_,Y,_,_,_,_,Y,Y,Zz.of (s2 _ _ hN.lst),YI hk,_,Y,_,Y,_,_,_,_,_,Y,(s2 _ _ ek),T.X2.cl,T.VY,Y,_,_,Y,Y,bp,?_⟩;obtain⟨p1,p2,p3,p4,p5⟩:=P6 (K:=K) M yb tl;refine⟨_,Y,_,Y,_,_,_,_,_,Y,(s2 _ _ ek),T.X2.cl,T.YS,Y,_,_,_,_,Y,Y,Zz.of M.lst,YI yb,_,Y,_,_,_,_,_,Y,(s2 _ _ ek),T.X2.cl,T.YS,Y,_,_,_,_,Y,Y,p1,p2,p3,_,Y,_,_,Y,Y,_,_,_,_,Y,Y,p4,p5,?_⟩;have M1:=M.set yb sO tl (P.UD (U.take i) S (P.lk e).tail (P.lk e).tail+S/(P.lk e).slope);have t1:=s2.Zx kJ (.lst ((((List.range (P.n+1)).map (P.UD (U.take i) S (P.lk e).tail)).map V.int).set (P.lk e).tail (.int (P.UD (U.take i) S (P.lk e).tail (P.lk e).tail+S/(P.lk e).slope))));obtain⟨p1,p2,p3,p4,p5⟩:=P6 (K:=K) M1 ya hl;refine⟨_,Y,_,Y,_,_,_,_,_,Y,(t1 _ _ ek),T.X2.cl,T.Y4,Y,_,_,_,_,Y,Y,Zz.of M1.lst,YI ya,_,Y,_,_,_,_,_,Y,(t1 _ _ ek),T.X2.cl,T.Y4,Y,_,_,_,_,Y,Y,p1,p2,p3,_,Y,_,_,Y,Y,_,_,_,_,Y,Y,p4,p5,?_⟩;have M2:=M1.set ya sO hl (setM (P.UD (U.take i) S) (P.lk e).tail (P.lk e).tail (P.UD (U.take i) S (P.lk e).tail (P.lk e).tail+S/(P.lk e).slope) (P.lk e).head (P.lk e).head+S/(P.lk e).slope);have t2:=fun o=>t1.Zx kI o;generalize J:setM (P.UD (U.take i) S) (P.lk e).tail (P.lk e).tail (P.UD (U.take i) S (P.lk e).tail (P.lk e).tail+S/(P.lk e).slope)=Ma at*;generalize h2:setM Ma (P.lk e).head (P.lk e).head (Ma (P.lk e).head (P.lk e).head+S/(P.lk e).slope)=Mb at*;obtain⟨p1,p2,p3,p4,p5⟩:=P6 (K:=K) M2 yb hl;refine⟨_,Y,_,Y,_,_,_,_,_,Y,(t2 _ _ _ ek),T.X2.cl,T.YS,Y,_,_,_,_,Y,Y,Zz.of M2.lst,YI yb,_,Y,_,_,_,_,_,Y,(t2 _ _ _ ek),T.X2.cl,T.Y4,Y,_,_,_,_,Y,Y,p1,p2,p3,_,Y,_,_,Y,Y,_,_,_,_,Y,Y,p4,p5,?_⟩;have M3:=M2.set yb sO hl (Mb (P.lk e).tail (P.lk e).head-S/(P.lk e).slope);have t3:=fun o o'=>(t2 o).Zx kJ o';generalize h3:setM Mb (P.lk e).tail (P.lk e).head (Mb (P.lk e).tail (P.lk e).head-S/(P.lk e).slope)=Mc at*;obtain⟨p1,p2,p3,p4,p5⟩:=P6 (K:=K) M3 ya tl;refine⟨_,Y,_,Y,_,_,_,_,_,Y,(t3 _ _ _ _ ek),T.X2.cl,T.Y4,Y,_,_,_,_,Y,Y,Zz.of M3.lst,YI ya,_,Y,_,_,_,_,_,Y,(t3 _ _ _ _ ek),T.X2.cl,T.YS,Y,_,_,_,_,Y,Y,p1,p2,p3,_,Y,_,_,Y,Y,_,_,_,_,Y,Y,p4,p5,?_⟩;have M4:=M3.set ya sO tl (Mc (P.lk e).head (P.lk e).tail-S/(P.lk e).slope);have t4:=fun o o' d8=>(t3 o o').Zx kI d8;generalize h4:setM Mc (P.lk e).head (P.lk e).tail (Mc (P.lk e).head (P.lk e).tail-S/(P.lk e).slope)=Md at*;obtain⟨p1,p2,p3,p4,p5⟩:=P6 (K:=K) M4 yb nn;have mo:IntMulOk (S/(P.lk e).slope) (P.lk e).cost:=XT (bS.div.mono (by decide)) ((Z'.c e Xd).mono (by decide));refine⟨_,Y,_,Y,_,_,_,_,_,Y,(t4 _ _ _ _ _ ek),T.X2.cl,T.YS,Y,_,_,_,_,Y,Y,Zz.of M4.lst,YI yb,_,Y,_,_,_,_,Y,Y,p1,p2,p3,_,Y,_,Y,_,_,_,_,_,Y,(t4 _ _ _ _ _ ek),T.X2.cl,T.WL,Y,_,_,Y,Y,mo,_,_,Y,Y,_,_,_,_,Y,Y,p4,p5,?_⟩;have M5:=M4.set yb sO nn (Md (P.lk e).tail P.n-S/(P.lk e).slope*(P.lk e).cost);have t5:=fun o1 o2 o3 o4=>(t4 o1 o2 o3).Zx kJ o4;generalize h5:setM Md (P.lk e).tail P.n (Md (P.lk e).tail P.n-S/(P.lk e).slope*(P.lk e).cost)=Me at*;obtain⟨p1,p2,p3,p4,p5⟩:=P6 (K:=K) M5 ya nn;refine⟨_,Y,_,Y,_,_,_,_,_,Y,(t5 _ _ _ _ _ _ ek),T.X2.cl,T.Y4,Y,_,_,_,_,Y,Y,Zz.of M5.lst,YI ya,_,Y,_,_,_,_,Y,Y,p1,p2,p3,_,Y,_,Y,_,_,_,_,_,Y,(t5 _ _ _ _ _ _ ek),T.X2.cl,T.WL,Y,_,_,Y,Y,mo,_,_,Y,Y,_,_,_,_,Y,Y,p4,p5,?_⟩;have M6:=M5.set ya sO nn (Me (P.lk e).head P.n+S/(P.lk e).slope*(P.lk e).cost);generalize h6:setM Me (P.lk e).head P.n (Me (P.lk e).head P.n+S/(P.lk e).slope*(P.lk e).cost)=Mf at*;refine⟨⟨_,_,_,Y⟩,(t5 _ _ _ _).Zx kI _,?_⟩;have key:=k7 ok Xd S (P.UD (U.take i) S) Ma Mb Mc Md Me Mf J.symm h2.symm h3.symm h4.symm h5.symm h6.symm;have e2:P.UD (U.take (i+1)) S=Mf:=by
     funext v u;rw[key v u,<-BU];congr 1;rw[Xp,he];rfl
    rw[e2];exact M6
   ·rintro σ H2 ⟨⟨c6,c7,c8,rfl⟩,s2,M⟩;rw[Z3,X7]at M;obtain⟨rg,nR,-⟩:=M.at_ ok.t;have dZ:=(g4 rg (Y9 nR)).1;obtain⟨p1,p2,p3,p4,p5⟩:=P6 (K:=K) M nR (V8 P.n);refine⟨_,Y,_,Y,_,_,_,_,_,Y,(s2 _ _ ea),T.Net.cl,T.P9,Y,_,_,_,_,Y,Y,Zz.of M.lst,YI nR,_,Y,_,_,_,_,Y,Y,p1,p2,p3,_,Y,_,Y,_,_,_,_,_,Y,(s2 _ _ ea),T.Net.cl,T.Ng,Y,_,_,Y,Y,XT (bS.mono (by decide)) (Z'.u.mono (by decide)),_,_,Y,Y,_,_,_,_,Y,Y,p4,p5,?_⟩;have M7:=M.set nR sO (V8 P.n) (P.UD U S P.t P.n+S*P.units);have t7:=s2.Zx dZ (.lst ((((List.range (P.n+1)).map (P.UD U S P.t)).map V.int).set P.n (.int (P.UD U S P.t P.n+S*P.units))));have e7:∀v u,setM (P.UD U S) P.t P.n (P.UD U S P.t P.n+S*P.units) v u=P.raw U S v u:=fun v u=>by
     rw[zO];unfold setM;by_cases q:v=P.t/\u=P.n
     ·rw[Z7 q,Z7 ⟨q.2,q.1⟩,q.1,q.2];omega
     ·rw[Z8 q,Z8 (fun z=>q ⟨z.2,z.1⟩)];omega
    refine⟨_,Y,_,Y,_,_,_,_,_,Y,(t7 _ _ ea),T.Net.cl,T.U3,Y,D,P.s,(List.range P.n).map fun v=>(List.range (P.n+1)).map (P.raw U S v),P.n,P.n+1,Y,⟨ra,M7.lst,by rw[g2,Z3,Zd],fun v r hr=>?_⟩,?_,by omega,by omega,fun H3 c s3 hR=>?_⟩
    ·have hv:v<P.n:=by rw[<-g2];exact(ZC.mp hr).1
     have:=M7.row v r hr;rw[ZX,Zf,XG hv];have e:setM (P.UD U S) P.t P.n (P.UD U S P.t P.n+S*P.units) v=P.raw U S v:=funext fun u=>e7 v u;rw[e]at this;exact this
    ·refine⟨by simp,fun r hr=>?_⟩;obtain⟨v,_,rfl⟩:=Zc.mp hr;simp
    ·refine k H3 c _ (t7.trans s3) hR ⟨⟨by simp,fun r hr=>?_⟩,fun v hv u hu=>?_⟩
     ·obtain⟨v,hv,rfl⟩:=Zc.mp hr;have hv:=YW.mp hv;unfold grow;rw[Z3,Zd,ZX,Zf,XG hv];simp
     ·have er:((List.range P.n).map fun v=>(List.range (P.n+1)).map (P.raw U S v)).getD v []=(List.range (P.n+1)).map (P.raw U S v):=by
       rw[ZX,Zf,XG hv];rfl
      unfold RR.ent;rw[ZX (l:=(List.range P.n).map _),Zf,XG hv];show(grow P.s v (((List.range P.n).map fun v=>(List.range (P.n+1)).map (P.raw U S v)).getD v [])).getD u 0=_;rw[er];unfold grow;rw[Z3,Zd,YT hu,YT (show v<P.n+1 by omega),YT hu]
end
end Rw
namespace Rw
open PySem PySem.Spec PyProof.Rows L2 RR
theorem OR.pd{P:Y8}{U:List Nat}{S:Int}{rows:List (List Int)}(B:OR P U S rows)(ok:P.Ok)(hU:∀e,e∈U->e<P.links.length)(T:P.X3.Pq U)(hS:0<S)(hd:∀e,e∈U->(P.lk e).slope∣S):SX P.n (fun i j=>(RR.ent rows i j:Rat)):=by
 intro x hx;have q:=Net.Dj ok.X3 hU T (intCast_pos hS) x hx;have e:sm P.n (fun i=>x i*sm P.n (fun j=>(RR.ent rows i j:Rat)*x j))=sm P.X3.n (fun i=>x i*sm P.X3.n (fun j=>P.X3.rowsOf U (S:Rat) i j*x j)):=by
  refine ZQ fun i hi=>?_;congr 1;refine ZQ fun j hj=>?_;rw[B.ent i hi j (by omega),Y8.Dg ok hU hS hd hi (by omega)]
 rw[e];exact q
theorem OR.bd{P:Y8}{U:List Nat}{S:Int}{rows:List (List Int)}(B:OR P U S rows)(Z':P.Sz)(hU:∀e,e∈U->e<P.links.length)(h9:U.length<=9)(bS:Bd 100 S):∀i,i<P.n->∀j,j<P.n+1->Bd 410 (RR.ent rows i j):=fun i hi j hj=>by
 rw[B.ent i hi j hj];split
 ·split;·exact Bd.one (by omega)
  ·exact Bd.zero _
 ·split;·exact Bd.zero _
  ·exact tu Z' hU h9 bS i j
theorem Uw.row{H:Hp}{a:Addr}{rows:List (List Int)}(h:Uw H a rows){i:Nat}(hi:i<rows.length):∃(rs:List Addr) (r:Addr),H a=some (.lst (rs.map V.ref))/\rs[i]?=some r/\IL H r (rows.getD i []):=by
 obtain⟨rs,J,h2,h3⟩:=h;have hl:i<rs.length:=by rw[h2];exact hi
 exact⟨rs,rs[i],J,ZU hl,h3 i _ (ZU hl)⟩
section
variable{P:Program}{w:World}{K:W.Frag}{mg:Str->Option Value}{base:Heap}{t:Yt}
structure CK(P:Y8)(U:List Nat)(ys:List Int)(w:Int)(h:Nat->Rat):Prop where
 len:ys.length=P.links.length
 pos:0<w
 RI:P.X3.Vo U (ld ys w) h
 Fj:∀e,Bd 30000 (ys.getD e 0)
 bw:Bd 30000 w
def pz(t:Yt):Sp:=fun vs H Q _=>∃a b P U,vs=[.ref a,.ref b]/\S_ t H a P/\NL H b U/\P.Ok/\P.Sz/\(∀e,e∈U->e<P.links.length)/\U.Nodup/\P.X3.Pq U/\P.X3.Ys U P.t/\∀H' c ys w h,ZY H H'->W7 t H' c ys w->CK P U ys w h->Q (.ref c) H'
theorem FZ:ZN ["net","used","spread","number","rows","lower","amounts","link","climb"] ["net","used"] (Z0 (top 29)):=⟨Y,Y,Y,by decide+kernel,Y,by decide+kernel,by decide+kernel⟩
theorem Rh(T:Txt K mg t):Y' P w K mg base XO 36 t.LI t.LH ["net","used"] (pz t):=by
 have sc:=FZ;refine T.balanced.F.ok sc (fun vs H Q E h=>?_) (fun Yx A outer s H vs Q E hr h=>?_)
 ·obtain⟨a,b,P,U,rfl,_⟩:=h;rfl
 ·have hd:=hr.div (by decide);obtain⟨a,b,P,U,rfl,⟨la,ks,hN⟩,hU,ok,Z',lt,nd,KG,RG,k⟩:=h;obtain⟨TU,ea⟩:=hN.obj;have n6:=Z'.n6;have m9:=Z'.m9;have l9:U.length<=9:=ZE (Xf _ U nd lt) m9;refine⟨_,(Z5 (ZT (i:=2) sc.nd Y (Or.inl Y) ZS)
   (Z5 (YC Zl Y (Yy (Z 1)) (ZD (i:=3) sc.nd Y (Or.inl Y)) (Z1 (ZT (i:=2) sc.nd Y (Or.inl Y) (cl T.Ve (Ux T) hr (by decide) rfl (Z6 (Z 2) (Z6 (ZZ (ZL ZO (ZZ (Z 0) rfl) (Z 3) (fun _ _=>rfl)) rfl) Z2))))))
   (Z5 (ZT (i:=4) sc.nd Y (Or.inl Y) (cl T.cleared (Ec T) hr (by decide) rfl (Z6 (cl T.O0 (MU T) hr (by decide) rfl (Z6 (Z 0) (Z6 (Z 1) (Z6 (Z 2) Z2)))) Z2)))
   (Z5 (ZT (i:=5) sc.nd Y (Or.inl Y) (ZL ZO (ZL ZO (Z 4) ZS (fun _ _=>rfl)) ZS (fun _ _=>rfl)))
   (Z5 (ZT (i:=6) sc.nd Y (Or.inl Y) (Zg EX (Zy (Z6 ZS Z2)) (YV Zi (by rfl) T.WB YU (Z6 (ZZ (Z 0) rfl) Z2))))
   (Z5 (YC Zl Y (Yy (Z 1)) (ZD (i:=3) sc.nd Y (Or.inl Y)) (Z5 (ZT (i:=7) sc.nd Y (Or.inl Y) (ZL ZO (ZZ (Z 0) rfl) (Z 3) (fun _ _=>rfl)))
   (Z5 (ZT (i:=8) sc.nd Y (Or.inl Y) (Zg Qn (Zg Qn (ZL ZO (ZL ZO (Z 4) (ZZ (Z 7) rfl) (fun _ _=>rfl)) (ZZ (Z 0) rfl) (fun _ _=>rfl)) (ZL ZO (ZL ZO (Z 4) (ZZ (Z 7) rfl) (fun _ _=>rfl)) (ZZ (Z 0) rfl) (fun _ _=>rfl))) (Zg YX (ZZ (Z 7) rfl) (Z 5))))
   (Z1 (Qp (Zg YX (Z 8) (Zg (V5 hd) (Z 2) (ZZ (Z 7) rfl))) (Qq (Z 6) (Z 3) set_list))))))
   (Z1 (ZP (mk T.Load (OT T) hr (by decide) rfl (Z6 (Z 6) (Z6 (Zg YX (Z 2) (Z 5)) Z2))))))))))),?_⟩
  refine⟨_,Y,b,Y,⟨_,Zz.of hU⟩,?_⟩;refine XA (K:=K) (a:=b) (xs:=U.map fun(k:Nat)=>V.int (k:Int)) (fun i σ H'=>H'=H/\∃c3,σ=[some (.ref a),some (.ref b),some (.int (IH P (U.take i))),c3,none,none,none,none,none]) ⟨Y,none,Y⟩ (fun i σ H' _ q=>by rw[q.1];exact Zz.of hU) ?_ ?_
  ·rintro i x σ H1 hx ⟨rfl,c3,rfl⟩;obtain⟨e,he,rfl⟩:=Uv hx;have Xd:=lt e (Y9 he);obtain⟨kk,dk,hk,ek⟩:=hN.link Xd;have ti:∀e,e∈U.take i->e<P.links.length:=fun e he=>lt e (List.mem_of_mem_take he);obtain⟨z1,z2,z3⟩:=De ok Z' (U.take i) ti;have hl:(U.take i).length<=9:=by rw[XE];omega
   refine⟨_,Y,_,Y,_,_,_,_,_,Y,ea,T.Net.cl,T.XZ,Y,_,Y,_,_,_,_,Y,Y,Zz.of hN.lst,YI hk,_,_,_,_,_,Y,ek,T.X2.cl,T.VY,Y,_,_,Y,z1,ok.b e Xd,z3.mono (by show 1+11*(U.take i).length<=33554432;omega),(Z'.b e Xd).mono (by decide),Y,some (.int e),?_⟩;have:U.take (i+1)=U.take i++[e]:=by rw[Xp,he];rfl
   rw[this,JL];rfl
  ·rintro σ H1 ⟨rfl,c3,rfl⟩;rw[Z3,X7];obtain⟨S0,Sd,Sb⟩:=De ok Z' U lt;have Sb:Bd 100 (IH P U):=Sb.mono (by omega);generalize IH P U=S at*;refine⟨_,Y,_,Y,_,Y,a,b,P,U,S,Y,⟨la,ks,hN⟩,hU,ok,Z',lt,l9,Sb,fun H2 c1 rows s1 hR B=>?_⟩;have PD:=B.pd ok lt KG S0 Sd;have bd:=B.bd Z' lt l9 Sb;have n0:0<P.n:=by have:=ok.s;omega
   refine⟨c1,rows,P.n,410,Y,hR,n0,n6,B.IP,PD,bd,by decide,fun H3 c2 s2 kH=>?_⟩;have QR:=s1.trans s2;obtain⟨R1,bp,uS⟩:=SU B.IP PD n6 bd P.n (ZM _);have rl:∀v,v<P.n->v<(Yl P.n rows).1.length:=fun v hv=>by rw[R1.len];exact hv
   obtain⟨aD,r0,q1,q2,q3⟩:=kH.row (rl 0 n0);refine⟨_,Y,_,_,_,_,Y,Y,Zz.of q1,YI (k:=0) q2,_,_,_,_,Y,Y,Zz.of q3,Wy (k:=0) (by rw[R1.at n0];omega),?_⟩;have low:((Yl P.n rows).1.getD 0 []).getD 0 0=RR.ent (Yl P.n rows).1 0 0:=rfl;rw[low];generalize v8:RR.ent (Yl P.n rows).1 0 0=lower at*;have y3:Bd 26304 lower:=by rw[<-v8];exact(uS 0 n0 0 (by omega)).mono (by omega)
   refine⟨(by show 1<=sizeLine;decide),fun p hp=>?_⟩;have s3:=QR.trans (ZY.new hp (.lst [.int 0]));refine⟨_,Y,_,_,_,_,_,Y,(s3 _ _ ea),T.Net.cl,T.XZ,Y,_,_,Y,.inl (Zz.of (s3 _ _ hN.lst)),p,_,_,Y,Y,Z4,by rw[Z3,hN.len];omega,by rw[Z3,hN.len];omega,?_,fun am nQ=>?_⟩
   ·rw[Z3,hN.len];show 1*_<=_;exact ZE (show 1*((P.links.length:Int)).toNat<=9 by omega) (by decide)
   have er:(List.replicate (((ks.map V.ref).length:Int)).toNat [V.int 0]).flatten=((List.range P.links.length).map fun _=>(0:Int)).map V.int:=by
    rw[Z3,hN.len,show((P.links.length:Int)).toNat=P.links.length by omega,Yv];refine UQ fun j=>?_;rw[List.flatten_replicate_singleton,PQ,Zf];by_cases hj:j<P.links.length;·rw[Z7 hj,XG hj];rfl
    ·rw[Z8 hj,YQ (by simp;omega)];rfl
   have dY:H1 am=none:=s3.free nQ;have s4:=s3.trans (ZY.new nQ (.lst (List.replicate (((ks.map V.ref).length:Int)).toNat [V.int 0]).flatten));let Av:Nat->Int:=fun e=>(RR.ent (Yl P.n rows).1 (P.lk e).head P.n-RR.ent (Yl P.n rows).1 (P.lk e).tail P.n-(P.lk e).cost*lower)*(S/(P.lk e).slope)
   have pq:ZY H3 (upd (upd H3 p (.lst [.int 0])) am (.lst (List.replicate (((ks.map V.ref).length:Int)).toNat [V.int 0]).flatten)):=(ZY.new hp _).trans (ZY.new nQ _);have dX:H3 am=none:=(ZY.new hp (.lst [.int 0])).free nQ;refine⟨_,Y,b,Y,⟨_,Zz.of (s4 _ _ hU)⟩,?_⟩;refine XA (K:=K) (a:=b) (xs:=U.map fun(k:Nat)=>V.int (k:Int)) (fun i σ H'=>(∃c3 c7 c8,σ=[some (.ref a),some (.ref b),some (.int S),c3,some (.ref c2),some (.int lower),some (.ref am),c7,c8])/\ZY H3 H'/\IL H' am ((List.range P.links.length).map fun e=>if e∈U.take i then Av e else 0))
    ⟨⟨_,none,none,Y⟩,pq,?_⟩ (fun i σ H' _ q=>Zz.of (q.2.1 _ _ (QR _ _ hU))) ?_ ?_
   ·show upd _ _ _ _=_;rw[Z4,er];simp
   ·rintro i x σ H4 hx ⟨⟨c3,c7,c8,rfl⟩,s5,hI⟩;obtain⟨e,he,rfl⟩:=Uv hx;have Xd:=lt e (Y9 he);obtain⟨kk,dk,hk,ek⟩:=hN.link Xd;have s6:=QR.trans s5;have rE:=s6 _ _ ek;have kF:=s6 _ _ ea;obtain⟨aB,r1,a1,a2,a3⟩:=(kH.up s5).row (rl _ (ok.lh e Xd));obtain⟨az,r2,b1,b2,b3⟩:=(kH.up s5).row (rl _ (ok.lt e Xd));have bo:=ok.b e Xd;have bh:Bd 26304 (RR.ent (Yl P.n rows).1 (P.lk e).head P.n):=(uS _ (ok.lh e Xd) P.n (by omega)).mono (by omega);have bt:Bd 26304 (RR.ent (Yl P.n rows).1 (P.lk e).tail P.n):=(uS _ (ok.lt e Xd) P.n (by omega)).mono (by omega);have bc:Bd 26604 ((P.lk e).cost*lower):=(Z'.c e Xd).mul y3;have kE:Bd 26606 (RR.ent (Yl P.n rows).1 (P.lk e).head P.n-RR.ent (Yl P.n rows).1 (P.lk e).tail P.n-(P.lk e).cost*lower):=(((bh.sub bt).mono (by omega:26304+1<=26605)).sub (bc.mono (by omega))).mono (by omega);refine⟨_,Y,_,_,_,_,_,Y,kF,T.Net.cl,T.XZ,Y,_,Y,_,_,_,_,Y,Y,Zz.of (s6 _ _ hN.lst),YI hk,?_⟩;refine⟨_,Y,_,Y,_,_,_,_,_,Y,rE,T.X2.cl,T.Y4,Y,_,_,_,_,Y,Y,Zz.of a1,YI a2,_,Y,_,_,_,_,_,Y,kF,T.Net.cl,T.WE,Y,_,_,_,_,Y,Y,Zz.of a3,Wy (by rw[R1.at (ok.lh e Xd)];omega),
     _,Y,_,Y,_,_,_,_,_,Y,rE,T.X2.cl,T.YS,Y,_,_,_,_,Y,Y,Zz.of b1,YI b2,_,Y,_,_,_,_,_,Y,kF,T.Net.cl,T.WE,Y,_,_,_,_,Y,Y,Zz.of b3,Wy (by rw[R1.at (ok.lt e Xd)];omega),_,_,Y,Y,
     _,Y,_,_,_,_,_,Y,rE,T.X2.cl,T.WL,Y,_,Y,_,_,Y,Y,XT ((Z'.c e Xd).mono (by decide)) (y3.mono (by decide)),_,_,Y,Y,?_⟩
    refine⟨_,Y,_,Y,_,Y,_,_,_,_,_,Y,rE,T.X2.cl,T.VY,Y,_,_,Y,Y,bo,_,_,Y,Y,XT (kE.mono (by decide)) (Sb.div.mono (by decide)),_,Y,_,Y,am,_,_,e,Y,Y,hI,by rw[Z3,Z3,Zd];exact OS Xd,⟨_,_,_,Y⟩,s5.Zx dX _,?_⟩;show upd _ _ _ _=_;rw[Z4,T6,set_range Xd];congr 4;funext c;have tk:U.take (i+1)=U.take i++[e]:=by rw[Xp,he];rfl
    rw[tk];by_cases q:c=e
    ·subst q;rw[Z7 Y,Z7 (by simp)];rfl
    ·rw[Z8 q];by_cases z:c∈U.take i;·rw[Z7 z,Z7 (Yu _ z)]
     ·rw[Z8 z,Z8 (by simp[z,q])]
   ·rintro σ H4 ⟨⟨c3,c7,c8,rfl⟩,s5,hI⟩;rw[Z3,X7]at hI;have lp:0<lower:=by
     obtain⟨_,_,lp,_⟩:=LY n0 B.IP PD;rw[v8]at lp;exact lp
    have sN:((List.range P.links.length).map fun e=>if e∈U then Av e else 0).length=P.links.length:=by simp
    refine⟨_,Y,_,Y,_,Y,_,_,Y,Y,XT (Sb.mono (by decide)) (y3.mono (by decide)),?_⟩;intro x dx nx v7 ne;have s6:ZY H4 (upd (upd H4 dx (.own x)) x (.ins t.Rp dx [])):=(ZY.new v7 _).trans (ZY.new (by rw[ZW (fun q=>ne q.symm)];exact nx) _);refine⟨x,dx,am,_,S*lower,Y,Z4,s6 _ _ hI,by rw[sN];omega,U8 S0 lp,fun H5 hL kp=>⟨Y,?_⟩⟩;have s7:ZY H4 H5:=ZY.made nx v7 kp;generalize dW:((List.range P.links.length).map fun e=>if e∈U then Av e else 0)=ys at*;have yv:∀e,e<P.links.length->ys.getD e 0=if e∈U then Av e else 0:=fun e he=>by rw[<-dW,YT he]
    obtain⟨g0,g1,g2⟩:=ME ys (S*lower) (U8 S0 lp);obtain⟨_,h,RI⟩:=Y8.balanced ok lt nd KG RG S0 Sd B.IP B.ent sN (fun e he=>by rw[yv e (lt e he),Z7 he,v8]) (fun e he hn=>by rw[yv e he,Z8 hn]);rw[v8]at RI;have same:ld (ys.map fun y=>y/Ph (S*lower) ys) (S*lower/Ph (S*lower) ys)=ld ys (S*lower):=funext fun e=>zS g0 (U8 S0 lp) g1 g2 e;have dU:∀e,Bd 30000 (ys.getD e 0):=fun e=>by
     by_cases he:e<P.links.length
     ·rw[yv e he];by_cases hm:e∈U
      ·rw[Z7 hm];have bh:Bd 26304 (RR.ent (Yl P.n rows).1 (P.lk e).head P.n):=(uS _ (ok.lh e he) P.n (by omega)).mono (by omega);have bt:Bd 26304 (RR.ent (Yl P.n rows).1 (P.lk e).tail P.n):=(uS _ (ok.lt e he) P.n (by omega)).mono (by omega);have bc:Bd 26604 ((P.lk e).cost*lower):=(Z'.c e he).mul y3;have kE:=(((bh.sub bt).mono (by omega:26304+1<=26605)).sub (bc.mono (by omega:26604<=26605)));exact(kE.mul Sb.div).mono (by omega)
      ·rw[Z8 hm];exact Bd.zero _
     ·rw[ZX,YQ (by omega)];exact Bd.zero _
    refine k H5 x _ _ h (QR.trans (s5.trans s7)) hL ⟨by rw[Z3,sN],NU (U8 S0 lp) g0 g1,by rw[same];exact RI,fun e=>?_,?_⟩
    ·rw[Ot (fun y=>y/Ph (S*lower) ys) (by simp)];exact(dU e).div
    ·exact((Sb.mul y3).mono (by omega)).div
end
end Rw
namespace Rw
open PySem PySem.Spec PyProof.Rows L2 RR
theorem uO{xs ys:List Int}{wx wy:Int}(hx:0<wx)(hy:0<wy){k e:Nat}(q:xs.getD k 0*(-ys.getD e 0)<=xs.getD e 0*(-ys.getD k 0)):ld xs wx k*(-ld ys wy e)<=ld xs wx e*(-ld ys wy k):=by
 have q:((xs.getD k 0*(-ys.getD e 0):Int):Rat)<=((xs.getD e 0*(-ys.getD k 0):Int):Rat):=Q9.mpr q;rw[Zq,Zq,Rat.intCast_neg,Rat.intCast_neg,<-UE (ys:=xs) hx k,<-UE (ys:=xs) hx e,<-UE (ys:=ys) hy e,<-UE (ys:=ys) hy k]at q;have p3:=V4 (intCast_pos hx) (intCast_pos hy);generalize ld xs wx k=q1 at*;generalize ld ys wy e=q2 at*;generalize ld xs wx e=q3 at*;generalize ld ys wy k=q4 at*;generalize(wx:Rat)=a at*;generalize(wy:Rat)=b at*;clear hx hy;by_cases g:q1*(-q2)<=q3*(-q4);·exact g
 ·have:0<(q1*(-q2)-q3*(-q4))*(a*b):=V4 (by grind) p3;grind
section
variable{P:Program}{w:World}{K:W.Frag}{mg:Str->Option Value}{base:Heap}{t:Yt}
structure iC(t:Yt)(H:Hp)(a b:Addr)(xs ys:List Int)(wx wy:Int)(m:Nat):Prop where
 la:W7 t H a xs wx
 lb:W7 t H b ys wy
 xl:xs.length=m
 yl:ys.length=m
 m9:m<=9
 neg:∃e,e<m/\ys.getD e 0<0
 bx:∀e,Bd 1000000 (xs.getD e 0)
 Fj:∀e,Bd 30000 (ys.getD e 0)
def sM(t:Yt):Sp:=fun vs H Q _=>∃a b xs ys wx wy m,vs=[.ref a,.ref b]/\iC t H a b xs ys wx wy m/\∀H',∀k:Nat,ZY H H'->Ex xs ys k m->Q (.int k) H'
theorem Oa:ZN ["load","target","chosen","number","wanted"] ["load","target"] (Z0 (top 30)):=⟨Y,Y,Y,by decide+kernel,Y,by decide+kernel,by decide+kernel⟩
theorem N'(T:Txt K mg t):Y' P w K mg base XO 33 t.Sm t.Sl ["load","target"] (sM t):=by
 have sc:=Oa;refine T.Qu.F.ok sc (fun vs H Q E h=>?_) (fun Yx A outer s H vs Q E hr h=>?_)
 ·obtain⟨a,b,xs,ys,wx,wy,m,rfl,_⟩:=h;rfl
 ·obtain⟨a,b,xs,ys,wx,wy,m,rfl,W,k⟩:=h;obtain⟨la,⟨TU,ea⟩,ia⟩:=W.la;obtain⟨lb,⟨wj,eb⟩,ib⟩:=W.lb;refine⟨_,(Z5 (ZT (i:=2) sc.nd Y (Or.inl Y) (Ho Mt ZS))
   (Z5 (YC Zl Y (Wn Y T.Vd (Z6 (ZZ (Z 1) rfl) Z2)) (V7 Y (Y0 (ZD (i:=3) sc.nd Y (Or.inl Y)) (Y0 (ZD (i:=4) sc.nd Y (Or.inl Y)) WX))) (Z5 (YZ (ZJ Ss (Z 4) ZS (Zu _)) (Z1 Wj) Zv)
   (Z1 (YZ (PW.pt (Vc (ZJ Kb (Z 2) ZS (Zu _)) (VJ (ZJ N3 (Zg YX (ZL ZO (ZZ (Z 0) rfl) (Z 3) (fun _ _=>rfl)) (ZL ZO (ZZ (Z 1) rfl) (Z 2) (fun _ _=>rfl))) (Zg YX (ZL ZO (ZZ (Z 0) rfl) (Z 2) (fun _ _=>rfl)) (Z 4)) (Zu _))))) (Z1 (ZT (i:=2) sc.nd Y (Or.inl Y) (Z 3))) Zv))))
   (Z1 (ZP (Z 2))))),?_⟩
  refine⟨_,Y,_,Y,_,_,_,_,_,Y,eb,T.Load.cl,T.Y3,Y,_,_,Y,Zz.of ib,?_⟩;refine Vk (K:=K) (xs:=ys.map V.int) (fun i σ H'=>ZY H H'/\∃c3 c4 z,σ=[some (.ref a),some (.ref b),some (.int z),c3,c4]/\((z=-1/\∀e,e<i->¬ys.getD e 0<0)\/∃j:Nat,z=j/\Ex xs ys j i)) ⟨ZY.refl H,none,none,-1,Y,.inl ⟨Y,fun e he=>by omega⟩⟩ (fun i σ H' _ q=>Zz.of (q.1 _ _ ib)) ?_ ?_
  ·rintro i x σ H1 H2 hx ⟨s1,c3,c4,z,rfl,hz⟩ s2;obtain⟨hi,rfl⟩:=int_at hx;have s3:=s1.trans s2;refine⟨_,Y,_,_,Y,Y,_,Y,Ws (fun c=>?_) (fun c=>?_)⟩
   ·have c:0<=ys.getD i 0:=ZG c;refine⟨s3,_,_,z,Y,?_⟩;rcases hz with⟨rfl,hz⟩|⟨j,rfl,hz⟩
    ·refine .inl ⟨Y,fun e he=>?_⟩;by_cases q:e<i;·exact hz e q
     ·have:e=i:=by omega
      subst this;omega
    ·exact .inr ⟨j,Y,hz.skip (by omega)⟩
   ·have c:ys.getD i 0<0:=by
     have:¬0<=ys.getD i 0:=fun q=>c (ZR q);omega
    refine⟨_,Y,_,_,Y,Y,_,Y,?_⟩;rcases hz with⟨rfl,hz⟩|⟨j,rfl,hz⟩;·refine rH (by decide) (Y2 ⟨_,Y,s3,_,_,(i:Int),Y,.inr ⟨i,Y,Ex.first hz c⟩⟩)
    ·refine pG (ZF (by omega)) ?_;have jl:=hz.lt;have dS:i<xs.length:=by rw[W.xl,<-W.yl];exact hi
     refine⟨_,Y,_,_,_,_,_,Y,(s3 _ _ ea),T.Load.cl,T.Y3,Y,_,Y,_,_,_,_,Y,Y,Zz.of (s3 _ _ ia),Wy dS,_,Y,_,_,_,_,_,Y,(s3 _ _ eb),T.Load.cl,T.Y3,Y,_,Y,_,_,_,_,Y,Y,Zz.of (s3 _ _ ib),Wy (by omega),_,_,Y,Y,XT ((W.bx i).mono (by decide)) ((W.Fj j).mono (by decide)),
      _,Y,_,_,_,_,_,Y,(s3 _ _ ea),T.Load.cl,T.Y3,Y,_,Y,_,_,_,_,Y,Y,Zz.of (s3 _ _ ia),Wy (by omega),_,Y,_,_,Y,Y,XT ((W.bx j).mono (by decide)) ((W.Fj i).mono (by decide)),_,_,Y,Y,_,Y,Ws (fun d=>?_) (fun d=>?_)⟩
     ·exact⟨_,Y,s3,_,_,(i:Int),Y,.inr ⟨i,Y,hz.take c (ZG d)⟩⟩
     ·exact⟨s3,_,_,(j:Int),Y,.inr ⟨j,Y,hz.keep fun q=>d (ZR q)⟩⟩
  ·rintro σ H1 ⟨s1,c3,c4,z,rfl,hz⟩;rw[Z3,W.yl]at hz;refine⟨_,Y,?_⟩;rcases hz with⟨rfl,hz⟩|⟨j,rfl,hz⟩
   ·obtain⟨e,he,hn⟩:=W.neg;exact absurd hn (hz e he)
   ·exact k H1 j s1 hz
structure sL(xs ys zs:List Int)(wx wy w:Int)(k m b:Nat):Prop where
 emp:Ex xs ys k m
 len:zs.length=m
 pos:0<w
 ld:∀e,e<m->RR.ld zs w e=(RR.ld xs wx e*(-RR.ld ys wy k)+RR.ld xs wx k*RR.ld ys wy e)/(RR.ld xs wx k-RR.ld ys wy k)
 bz:∀e,Bd b (zs.getD e 0)
 bw:Bd b w
def v5(t:Yt):Sp:=fun vs H Q _=>∃a b xs ys wx wy m bx,vs=[.ref a,.ref b]/\iC t H a b xs ys wx wy m/\0<wx/\0<wy/\(∀e,0<=xs.getD e 0)/\(∀e,Bd bx (xs.getD e 0))/\Bd bx wx/\Bd 30000 wy/\bx<=1000000/\
 ∀H' c zs w k,ZY H H'->W7 t H' c zs w->sL xs ys zs wx wy w k m (bx+30002)->Q (.ref c) H'
theorem y2:ZN ["load","target","number","held","wanted","amounts","here","there"] ["load","target"] (Z0 (top 31)):=⟨Y,Y,Y,by decide+kernel,Y,by decide+kernel,by decide+kernel⟩
theorem yZ(T:Txt K mg t):Y' P w K mg base XO 36 t.CW t.CV ["load","target"] (v5 t):=by
 have sc:=y2;refine T.moved.F.ok sc (fun vs H Q E h=>?_) (fun Yx A outer s H vs Q E hr h=>?_)
 ·obtain⟨a,b,xs,ys,wx,wy,m,bx,rfl,_⟩:=h;rfl
 ·obtain⟨a,b,xs,ys,wx,wy,m,bx,rfl,W,sJ,iB,xn,vZ,nP,iA,bl,k⟩:=h;refine⟨_,(Z5 (ZT (i:=2) sc.nd Y (Or.inl Y) (cl T.Qu (N' T) hr (by decide) rfl (Z6 (Z 0) (Z6 (Z 1) Z2))))
   (Z5 (ZT (i:=3) sc.nd Y (Or.inr Y) (ZL ZO (ZZ (Z 0) rfl) (Z 2) (fun _ _=>rfl)))
   (Z5 (ZT (i:=4) sc.nd Y (Or.inr Y) (ZL ZO (ZZ (Z 1) rfl) (Z 2) (fun _ _=>rfl)))
   (Z5 (Vq (i:=5) rfl sc.nd Y rfl (Uq Y rfl rfl rfl) (Qm Y T.Lf (Z6 (ZZ (Z 0) rfl) (Z6 (ZZ (Z 1) rfl) Z2))) (YB (own:=[("here",6),("there",7)]) (show Us ["load","target","number","held","wanted","amounts","here","there"] (Z0 (top 31)) _ _=true by decide+kernel)) (fun _ _ _ _ _=>by exact(P8 (K:=K) (i:=6) (j:=7) rfl rfl sc.nd Y rfl (Or.inl Y) (Or.inl Y))) (fun _ _ _ _ _=>by exact XS) (fun _ _ _ _ _=>by exact(Zg Qn (Zg YX (Z 7) (Z 3)) (Zg YX (Z 6) (Z 4)))))
   (Z1 (ZP (mk T.Load (OT T) hr (by decide) rfl (Z6 (Z 5) (Z6 (Zg Qn (Zg YX (Z 3) (ZZ (Z 1) rfl)) (Zg YX (Z 4) (ZZ (Z 0) rfl))) Z2))))))))),?_⟩
  refine⟨_,Y,_,Y,a,b,xs,ys,wx,wy,m,Y,W,fun H1 j s1 E1=>?_⟩;obtain⟨la,⟨TU,ea⟩,ia⟩:=W.la;obtain⟨lb,⟨wj,eb⟩,ib⟩:=W.lb;have Hy:=s1 _ _ ea;have rD:=s1 _ _ eb;have kD:=s1 _ _ ia;have kz:=s1 _ _ ib;have jl:=E1.lt;have big:bx<=Hz:=by show bx<=33554432;omega
  refine⟨_,Y,_,_,_,_,_,Y,Hy,T.Load.cl,T.Y3,Y,_,Y,_,_,_,_,Y,Y,Zz.of kD,Wy (by rw[W.xl];exact jl),_,Y,_,_,_,_,_,Y,rD,T.Load.cl,T.Y3,Y,_,Y,_,_,_,_,Y,Y,Zz.of kz,Wy (by rw[W.yl];exact jl),?_⟩;refine⟨_,Y,_,_,_,_,_,Y,Hy,T.Load.cl,T.Y3,Y,_,Y,_,_,_,_,_,Y,rD,T.Load.cl,T.Y3,Y,_,_,_,_,Y,Zz.of kD,Zz.of kz,fun D hD=>?_⟩;refine Eg (K:=K) (xs:=xs.map V.int) (ys:=ys.map V.int) (by rw[Z3,Z3,W.xl,W.yl]) (fun i H2=>ZY H1 H2/\IL H2 D ((List.range i).map fun e=>ys.getD e 0*xs.getD j 0-xs.getD e 0*ys.getD j 0)) ⟨ZY.new hD _,Z4⟩ (fun i H2 _ q=>⟨Zz.of (q.1 _ _ kD),Zz.of (q.1 _ _ kz)⟩) ?_ ?_
  ·rintro i x y H2 H3 hx hy ⟨s2,d2⟩ s3;obtain⟨hi,rfl⟩:=int_at hx;obtain⟨ay,rfl⟩:=int_at hy;have m9:=W.m9;rw[W.xl]at hi;refine⟨Y,_,Y,_,Y,_,_,Y,Y,XT ((W.Fj i).mono (by decide)) ((vZ j).mono big),_,Y,_,Y,_,_,Y,Y,XT ((vZ i).mono big) ((W.Fj j).mono (by decide)),_,_,Y,Y,_,s3 _ _ d2,by rw[Z3,Z3,Zd];exact Zo (show i<9 by omega) (by decide),(s2.trans s3).Zx hD _,?_⟩;show upd _ _ _ _=_;rw[Z4,UY _ _ _ rfl]
  ·rintro H2 ⟨s2,d2⟩;rw[Z3,W.xl]at d2;have nO:=s2 _ _ Hy;have dR:=s2 _ _ rD;have m9:=W.m9;refine⟨_,Y,_,Y,_,Y,_,_,_,_,_,Y,dR,T.Load.cl,T.W8,Y,_,_,Y,Y,XT ((vZ j).mono big) (iA.mono (by decide)),_,Y,_,Y,_,_,_,_,_,Y,nO,T.Load.cl,T.W8,Y,_,_,Y,Y,XT ((W.Fj j).mono (by decide)) (nP.mono big),_,_,Y,Y,?_⟩;intro x dx nx v7 ne;have s6:ZY H2 (upd (upd H2 dx (.own x)) x (.ins t.Rp dx [])):=(ZY.new v7 _).trans (ZY.new (by rw[ZW (fun q=>ne q.symm)];exact nx) _);generalize iw:((List.range m).map fun e=>ys.getD e 0*xs.getD j 0-xs.getD e 0*ys.getD j 0)=zs at*;have zl:zs.length=m:=by rw[<-iw];simp
   have zv:∀e,e<m->zs.getD e 0=ys.getD e 0*xs.getD j 0-xs.getD e 0*ys.getD j 0:=fun e he=>by rw[<-iw,YT he]
   have GB:=(GC (zs:=zs) sJ iB (xn j) E1.neg (e:=j) (zv j jl)).1;refine⟨x,dx,D,zs,_,Y,Z4,s6 _ _ d2,by omega,GB,fun H3 hL kp=>⟨Y,?_⟩⟩;have s7:ZY H2 H3:=ZY.made nx v7 kp;generalize hw:xs.getD j 0*wy-ys.getD j 0*wx=w at*;obtain⟨g0,g1,g2⟩:=ME zs w GB;have dQ:∀e,Bd (bx+30002) (zs.getD e 0):=fun e=>by
    by_cases he:e<m
    ·rw[zv e he];have J:=(W.Fj e).mul (vZ j);have h2:=(vZ e).mul (W.Fj j);exact((J.mono (by omega:30000+bx<=bx+30001)).sub (h2.mono (by omega))).mono (by omega)
    ·rw[ZX,YQ (by omega)];exact Bd.zero _
   have dP:Bd (bx+30002) w:=by
    rw[<-hw];have J:=(vZ j).mul iA;have h2:=(W.Fj j).mul nP;exact((J.mono (by omega:bx+30000<=bx+30001)).sub (h2.mono (by omega))).mono (by omega)
   refine k H3 x _ _ j (s1.trans (s2.trans s7)) hL ⟨E1,by rw[Z3,zl],NU GB g0 g1,fun e he=>?_,fun e=>?_,dP.div⟩
   ·rw[zS g0 GB g1 g2];have:=(GC (zs:=zs) sJ iB (xn j) E1.neg (zv e he)).2;rw[hw]at this;exact this
   ·rw[Ot (fun y=>y/Ph w zs) (by simp)];exact(dQ e).div
structure VW(P:Y8)(ys:List Int)(w:Int)(h:Nat->Rat):Prop where
 len:ys.length=P.links.length
 pos:0<w
 good:P.X3.Good (ld ys w) h
 Fj:∀e,Bd 30000 (ys.getD e 0)
 bw:Bd 30000 w
theorem VW.nn{P:Y8}{ys:List Int}{w:Int}{h:Nat->Rat}(G:VW P ys w h)(e:Nat):0<=ys.getD e 0:=by
 by_cases he:e<P.links.length;·exact(JM G.pos e).mp (G.good.VE.nn e he)
 ·rw[ZX,YQ (by rw[G.len];omega)];exact U9 _
def Bv(t:Yt):Sp:=fun vs H Q _=>∃a b c P xs wx h0 U p,vs=[.ref a,.ref b,.ref c]/\S_ t H a P/\W7 t H b xs wx/\NL H c U/\P.Ok/\P.Sz/\VW P xs wx h0/\(∀e,e∈U->e<P.links.length)/\U.Nodup/\P.X3.Pq U/\P.X3.Ys U P.t/\(∀y h',P.X3.Vo U y h'->KD P.X3 p (ld xs wx) U (ld xs wx) y h')/\
 ∀H' d ys w h,ZY H H'->W7 t H' d ys w->VW P ys w h->P.X3.PV (ld ys w)<P.X3.PV (ld xs wx)->Q (.ref d) H'
theorem D':ZN ["net","load","used","target"] ["net","load","used"] (Z0 (top 32)):=⟨Y,Y,Y,by decide+kernel,Y,by decide+kernel,by decide+kernel⟩
theorem D_(T:Txt K mg t):Y' P w K mg base XO 37 t.JC t.JB ["net","load","used"] (Bv t):=by
 have sc:=D';refine T.settled.F.ok sc (fun vs H Q E h=>?_) (fun Yx A outer s H vs Q E hr h=>?_)
 ·obtain⟨a,b,c,P,xs,wx,h0,U,p,rfl,_⟩:=h;rfl
 ·obtain⟨a,b,c,P,xs,wx,h0,U,p,rfl,hN,hX,hU,ok,Z',GX,lt,nd,KG,RG,st,k⟩:=h;have m9:=Z'.m9;have nk:=ok.X3;refine⟨_,(Z5 (ZT (i:=3) sc.nd Y (Or.inl Y) (cl T.balanced (Rh T) hr (by decide) rfl (Z6 (Z 0) (Z6 (Z 2) Z2))))
   (Z5 (Vr Zl (ZJ Kb (YV (t8 Y) (by rfl) T.pI boot_min (Z6 (ZZ (Z 3) rfl) Z2)) ZS (Zu _)) (Z5 (ZT (i:=1) sc.nd Y (Or.inl Y) (cl T.moved (yZ T) hr (by decide) rfl (Z6 (Z 1) (Z6 (Z 3) Z2))))
   (Z1 (ZT (i:=3) sc.nd Y (Or.inl Y) (cl T.balanced (Rh T) hr (by decide) rfl (Z6 (Z 0) (Z6 (kO T.Load.cl T.OY (Ri T) hr (by decide) (Z 1)) Z2)))))))
   (Z1 (ZP (Z 3))))),?_⟩
  refine⟨_,Y,_,Y,a,c,P,U,Y,hN,hU,ok,Z',lt,nd,KG,RG,fun H1 d ys wy hy s1 hY B=>?_⟩;let Wv:Nat->List (Option V)->Hp->Prop:=fun m σ H'=>ZY H H'/\∃cl ct x_ uN P5 x9 U' h',σ=[some (.ref a),some (.ref cl),some (.ref c),some (.ref ct)]/\W7 t H' cl x_ uN/\W7 t H' ct P5 x9/\CK P U' P5 x9 h'/\KD P.X3 p (ld xs wx) U' (ld x_ uN) (ld P5 x9) h'/\x_.length=P.links.length/\0<uN/\(∀e,Bd (30002*(10-U'.length)) (x_.getD e 0))/\Bd (30002*(10-U'.length)) uN/\P.X3.Ys U' P.t/\m=U'.length
  have l9:U.length<=9:=ZE (Xf _ U nd lt) m9;refine⟨Wv,⟨_,s1,b,d,xs,wx,ys,wy,U,hy,Y,hX.up s1,hY,B,st _ _ B.RI,GX.len,GX.pos,fun e=>(GX.Fj e).mono (by omega),GX.bw.mono (by omega),RG,Y⟩,?_⟩;rintro m σ H2 ⟨s2,cl,ct,x_,uN,P5,x9,U',h',rfl,dO,nN,B',S',xl,sJ,vZ,nP,sI,rfl⟩;obtain⟨lt',⟨iu,et⟩,it⟩:=nN;have yl:=B'.len;have kx:0<P.links.length:=by
   obtain⟨e,he,_⟩:=sI;have:=S'.lt e he;have this:e<P.links.length:=this;omega
  refine⟨_,Y,_,_,_,_,_,Y,et,T.Load.cl,T.Y3,Y,_,_,Y,Zz.of it,by rw[yl];exact kx,fun mn dN hle=>?_⟩;refine⟨_,_,Y,Y,_,Y,Ws (fun cc=>?_) (fun cc=>?_)⟩
  ·have cc:mn<0:=ZG cc;have neg:∃e,e<P.links.length/\P5.getD e 0<0:=by
    obtain⟨e,he,q⟩:=X8.mp dN;refine⟨e,by rw[<-yl];exact he,?_⟩;rw[ZX,ZU he];show P5[e]<0;rw[q];exact cc
   have xn:∀e,0<=x_.getD e 0:=fun e=>by
    by_cases he:e<P.links.length;·exact(JM sJ e).mp (S'.VE.nn e he)
    ·rw[ZX,YQ (by omega)];exact U9 _
   have ir:30002*(10-U'.length)<=1000000:=by omega
   refine⟨fun XQ Iu=>∃m',m'<U'.length/\Wv m' XQ Iu,fun _ _ h=>h,?_⟩;refine⟨_,Y,_,Y,cl,ct,x_,P5,uN,x9,P.links.length,_,Y,⟨dO,⟨lt',⟨iu,et⟩,it⟩,xl,yl,m9,neg,fun e=>(vZ e).mono ir,B'.Fj⟩,sJ,B'.pos,xn,vZ,nP,B'.bw,ir,fun H3 cz zs wz j s3 hZ M=>?_⟩;have kl:=M.emp.lt;have mv:=Net.moved nk S'.VE S'.RI S'.off S'.zz (show j<P.X3.m from kl) ((LR B'.pos j).mpr M.emp.neg) (fun e he hn=>?_) (x':=ld zs wz) (fun e he=>M.ld e he)
   ·obtain⟨J,h2,h3,h4,h5,h6⟩:=mv;have dM:∀e,e∈TR zs↔e<P.X3.m/\ld zs wz e≠0:=fun e=>by
     rw[Uu,M.len];constructor
     ·rintro⟨q1,q2⟩;exact⟨q1,fun q=>by rw[(Uk M.pos e).mp q]at q2;omega⟩
     ·rintro⟨q1,q2⟩;have n1:=(JM M.pos e).mp (h2.nn e q1);have n2:zs.getD e 0≠0:=fun q=>q2 ((Uk M.pos e).mpr q);exact⟨q1,by omega⟩
    have dJ:∀e,e<P.X3.m->ld P5 x9 e<0->ld x_ uN j*(-ld P5 x9 e)<=ld x_ uN e*(-ld P5 x9 j):=fun e he hn=>uO sJ B'.pos (M.emp.mn e he ((LR B'.pos e).mp hn));obtain⟨m1,m2,m3,m4,m5,m6⟩:=S'.move nk (show j<P.X3.m from kl) ((LR B'.pos j).mpr M.emp.neg) dJ (x':=ld zs wz) (fun e he=>M.ld e he) dM (SD zs);obtain⟨lz,⟨iq,ez⟩,iz⟩:=hZ;have nM:=s2.trans s3;refine⟨_,Y,_,Y,cz,_,_,Y,ez,Y,cz,zs,wz,Y,⟨lz,⟨iq,ez⟩,iz⟩,by rw[M.len];omega,fun H4 dI ip s4 hC=>?_⟩;have sF:=nM.trans s4;refine⟨a,dI,P,TR zs,Y,hN.up sF,hC,ok,Z',fun e he=>by have:=(Uu.mp he).1;rw[M.len]at this;exact this,SD zs,m3,m4,fun H5 dt dH dF dE s5 dB B2=>?_⟩;have ig:30002*(10-U'.length)+30002<=30002*(10-(TR zs).length):=by
     have:U'.length<=9:=ZE (Xf _ U' S'.nd S'.lt) m9;have m5:(TR zs).length<U'.length:=m5;omega
    exact⟨(TR zs).length,m5,sF.trans s5,cz,dt,zs,wz,dH,dF,TR zs,dE,Y,W7.up ⟨lz,⟨iq,ez⟩,iz⟩ (s4.trans s5),dB,B2,m6 _ _ B2.RI,M.len,M.pos,fun e=>(M.bz e).mono ig,M.bw.mono ig,m4,Y⟩
   ·exact uO sJ B'.pos (M.emp.mn e he ((LR B'.pos e).mp hn))
  ·have cc:¬mn<0:=fun q=>cc (ZR q);have nn:∀e,e<P.X3.m->0<=ld P5 x9 e:=fun e he=>by
    refine(JM B'.pos e).mpr ?_;have he:e<P5.length:=by rw[yl];exact he
    have:=hle (P5.getD e 0) (by rw[ZX,ZU he];exact W6 he);omega
   obtain⟨G,ph⟩:=S'.done nk nn;exact⟨_,Y,k H2 ct P5 x9 h' s2 ⟨lt',⟨iu,et⟩,it⟩ ⟨B'.len,B'.pos,G,B'.Fj,B'.bw⟩ ph⟩
end
end Rw
namespace Rw
open PySem PySem.Spec PyProof.Rows L2 RR
theorem D9{X:Cx}:N4 X (.type "dict") (fun xs H Q=>∃a Zs,xs=[.ref a]/\H a=some (.dK Zs)/\∀p,H p=none->Q (.ref p) (upd H p (.dK Zs))):=by
 intro pins s σ H xs us Q I r h;obtain⟨a,Zs,rfl,hd,q⟩:=h;rw[Vals.xF r];exact AB I (Rd.of hd) fun p s' hp I'=>⟨.ref p,_,I',Y,q p hp⟩
def Off(d:Addr)(H H':Hp):Prop:=∀b o,H b=some o->b≠d->H' b=some o
theorem Off.refl(d:Addr)(H:Hp):Off d H H:=fun _ _ e _=>e
theorem Off.trans{d:Addr}{H H1 H2:Hp}(a:Off d H H1)(b:Off d H1 H2):Off d H H2:=fun c o e n=>b c o (a c o e n) n
theorem Off.same{d:Addr}{H H1:Hp}(s:ZY H H1):Off d H H1:=fun c o e _=>s c o e
theorem Off.upd{d:Addr}{H H1:Hp}(s:Off d H H1)(o:HO):Off d H (upd H1 d o):=fun c u e n=>by rw[ZW n];exact s c u e n
theorem Off.none{d:Addr}{H H1:Hp}(s:Off d H H1)(h:H d=none):ZY H H1:=fun c o e=>s c o e (ZA e h)
theorem Off.at{d:Addr}{H H1:Hp}(s:Off d H H1){b:Addr}{o:HO}{Zs:List (Key×V)}(hd:H d=some (.dK Zs))(h:H b=some o)(n:∀Zs,o≠.dK Zs):H1 b=some o:=s b o h fun q=>by rw[q,hd]at h;exact n _ (Zb h).symm
theorem DI.lt{H:Hp}{a:Addr}{n:Nat}{f:Nat->Option V}(h:DI H a n f){v:Nat}{x:V}(e:f v=some x):v<n:=by
 obtain⟨Zs,J,h2,h3,h4⟩:=h;rw[<-h4]at e;obtain⟨u,hu,q⟩:=h3 _ (xi e);injection q with q
 omega
theorem DI.mk'{H H':Hp}{a b:Addr}{n:Nat}{f:Nat->Option V}(h:DI H a n f):∃Zs,H a=some (.dK Zs)/\∀H2 b,H2 b=some (.dK Zs)->DI H2 b n f:=by
 obtain⟨Zs,J,h2,h3,h4⟩:=h;exact⟨Zs,J,fun H2 b e=>⟨Zs,e,h2,h3,h4⟩⟩
theorem SA{lab:Nat->Option Int}{v:Nat}{z:Int}(h:lab v=some z):iv lab v=some (.int z):=by unfold iv;rw[h];rfl
section
variable{P:Program}{w:World}{K:W.Frag}{mg:Str->Option Value}{base:Heap}{t:Yt}
def sE(t:Yt):Sp:=fun vs H Q _=>∃a b P ys w h,vs=[.ref a,.ref b]/\S_ t H a P/\W7 t H b ys w/\P.Ok/\P.Sz/\VW P ys w h/\∀H' c hg,ZY H H'->DI H' c P.n (iv hg)->nX P (ld ys w) h w hg->Q (.ref c) H'
theorem P0:ZN ["net","load","heights","step","number","link"] ["net","load"] (Z0 (top 33)):=⟨Y,Y,Y,by decide+kernel,Y,by decide+kernel,by decide+kernel⟩
theorem PY(T:Txt K mg t):Y' P w K mg base XO 34 t.Ug t.Ue ["net","load"] (sE t):=by
 have sc:=P0;refine T.Se.F.ok sc (fun vs H Q E h=>?_) (fun Yx A outer s H vs Q E hr h=>?_)
 ·obtain⟨a,b,P,ys,w,h,rfl,_⟩:=h;rfl
 ·have hu:=QK hr;obtain⟨a,b,P,ys,w,h,rfl,⟨la,ks,hN⟩,⟨ly,⟨wj,eb⟩,iy⟩,ok,Z',G,k⟩:=h;obtain⟨TU,ea⟩:=hN.obj;have n6:=Z'.n6;have m9:=Z'.m9;refine⟨_,(Z5 (ZT (i:=2) sc.nd Y (Or.inl Y) (Dy (G2 (ZZ (Z 0) rfl) ZS Dz) rfl rfl (by simp) (by decide)))
   (Z5 (YC Zl Y (Wi Y T.T7 (Z6 (ZZ (Z 0) rfl) Z2)) (ZD (i:=3) sc.nd Y (Or.inl Y)) (Z1 (YC Zl Y (Yy (kO T.Load.cl T.OY (Ri T) hr (by decide) (Z 1))) (ZD (i:=4) sc.nd Y (Or.inl Y)) (Z5 (ZT (i:=5) sc.nd Y (Or.inl Y) (ZL ZO (ZZ (Z 0) rfl) (Z 4) (fun _ _=>rfl)))
   (Z1 (YZ (PW.pt (Qr (Vi (EU hu (ZZ (Z 5) rfl) (Z 2))) (Q7 (Vi (Wh hu (ZZ (Z 5) rfl) (Z 2)))))) (Z1 (Pw hu (Z 2) (ZZ (Z 5) rfl) (Zg S4 (Zg S4 (WH hu (Z 2) (ZZ (Z 5) rfl) (fun _ _=>rfl)) (Zg YX (ZZ (Z 5) rfl) (ZZ (Z 1) rfl))) (Zg YX (ZZ (Z 5) rfl) (ZL ZO (ZZ (Z 1) rfl) (Z 4) (fun _ _=>rfl)))) rfl)) Zv))))))
   (Z1 (ZP (Z 2))))),?_⟩
  refine fun d hd=>⟨_,Y,_,_,_,_,_,Y,(Le ea hd),T.Net.cl,T.U3,Y,Z4,[(Sum.inl (P.s:Int),.int 0)],Y,(by decide:1<=15),?_⟩;have s0:ZY H (upd (upd H d (.dK [])) d (.dK (RL [] [(Sum.inl (P.s:Int),.int 0)]))):=(ZY.new hd _).Zx hd _;have D0:DI (upd (upd H d (.dK [])) d (.dK (RL [] [(Sum.inl (P.s:Int),.int 0)]))) d P.n (iv fun v=>if v=P.s then some 0 else none):=by
   refine⟨[(Sum.inl (P.s:Int),.int 0)],by rw[Z4];rfl,by simp,fun kk hk=>?_,fun v=>?_⟩
   ·have hk:kk∈[(Sum.inl (P.s:Int):Key)]:=hk;rw[Zp]at hk;exact⟨P.s,ok.s,hk⟩
   ·show _=Option.map _ (if v=P.s then some 0 else none);by_cases q:v=P.s;·rw[Z7 q,Xj (by rw[q])];rfl
    ·rw[Z8 q,Xi (fun z=>q (by injection z with z;omega))];rfl
  refine⟨_,Y,_,_,_,_,_,Y,(s0 _ _ ea),T.Net.cl,T.WE,Y,(P.n:Int),Y,by omega,by omega,?_⟩;refine Uz (n:=P.n) (fun r σ H'=>(∃c3 c4 c5,σ=[some (.ref a),some (.ref b),some (.ref d),c3,c4,c5])/\ZY H H'/\∃hg,DI H' d P.n (iv hg)/\Carry P (ld ys w) h w hg r []) ⟨⟨none,none,none,Y⟩,s0,_,D0,Carry.start G.good⟩ ?_ ?_
  ·rintro r σ H1 rF ⟨⟨c3,c4,c5,rfl⟩,s1,hg,kr,C1⟩;have rD:=s1 _ _ eb;refine⟨_,Y,b,_,_,Y,rD,Y,b,ys,w,Y,⟨ly,⟨wj,rD⟩,s1 _ _ iy⟩,by rw[G.len];omega,fun H2 cc ip s2 hC=>?_⟩;have ie:=kr.up s2;obtain⟨kq,du⟩:=ie.nS;refine⟨cc,Y,⟨_,Zz.of hC⟩,?_⟩;refine XA (K:=K) (a:=cc) (xs:=(TR ys).map fun(k:Nat)=>V.int (k:Int)) (fun i σ H'=>(∃c3 c4 c5,σ=[some (.ref a),some (.ref b),some (.ref d),c3,c4,c5])/\Off d H2 H'/\∃hg,DI H' d P.n (iv hg)/\Carry P (ld ys w) h w hg r ((TR ys).take i)) ⟨⟨_,_,_,Y⟩,Off.refl _ _,hg,ie,C1⟩ (fun i σ H' _ q=>Zz.of (q.2.1.at du hC fun kv z=>by cases z)) ?_ ?_
   ·rintro i x σ H3 hx ⟨⟨c3,c4,c5,rfl⟩,o3,sy,uM,C3⟩;obtain⟨e,he,rfl⟩:=Uv hx;obtain⟨hl,hp⟩:=Uu.mp (Y9 he);have Xd:e<P.links.length:=by rw[<-G.len];exact hl
    have s3:ZY H H3:=(Off.trans (Off.same (s1.trans s2)) o3).none hd;obtain⟨kk,dk,hk,ek⟩:=(hN.up s3).link Xd;have uL:=s3 _ _ ea;have h_:=s3 _ _ eb;have tk:(TR ys).take (i+1)=(TR ys).take i++[e]:=by rw[Xp,he];rfl
    refine⟨_,Y,_,_,_,_,_,Y,uL,T.Net.cl,T.XZ,Y,_,Y,_,_,_,_,Y,Y,Zz.of (hN.up s3).lst,YI hk,?_⟩;refine⟨_,Y,_,_,_,_,_,Y,ek,T.X2.cl,T.YS,Y,_,Y,d,_,Y,uM.get _,_,Y,?_⟩;rw[VB];cases q1:sy (P.lk e).tail with
    |none=>
     refine YJ (YJ ⟨⟨_,_,_,Y⟩,o3,sy,uM,?_⟩);rw[tk];exact C3.keep (.inl q1)
    |some z=>
     refine Y2 ⟨_,Y,_,_,_,_,_,Y,ek,T.X2.cl,T.Y4,Y,_,Y,d,_,Y,uM.get _,_,Y,?_⟩;rw[VB];cases q2:sy (P.lk e).head with
     |some y=>
      refine YJ ⟨⟨_,_,_,Y⟩,o3,sy,uM,?_⟩;rw[tk];exact C3.keep (.inr ⟨y,q2⟩)
     |none=>
      obtain⟨o,y4,⟨kv,rfl⟩,pA⟩:=uM.put (by omega) (ok.lh e Xd) (.int (z+(P.lk e).cost*w+(P.lk e).slope*ys.getD e 0));refine Y2 ⟨_,Y,_,Y,_,_,_,_,_,Y,ek,T.X2.cl,T.YS,Y,d,_,Y,uM.F5 (SA q1),_,Y,_,_,_,_,_,Y,ek,T.X2.cl,T.WL,Y,_,Y,_,_,_,_,_,Y,h_,T.Load.cl,T.W8,Y,_,_,Y,Y,XT ((Z'.c e Xd).mono (by decide)) (G.bw.mono (by decide)),_,_,Y,Y,
       _,Y,_,_,_,_,_,Y,ek,T.X2.cl,T.VY,Y,_,Y,_,_,_,_,_,Y,h_,T.Load.cl,T.Y3,Y,_,Y,_,_,_,_,Y,Y,Zz.of (s3 _ _ iy),Wy hl,_,_,Y,Y,XT ((Z'.b e Xd).mono (by decide)) ((G.Fj e).mono (by decide)),_,_,Y,Y,_,Y,_,Y,_,_,_,_,_,Y,ek,T.X2.cl,T.Y4,Y,d,_,Y,y4,⟨_,_,_,Y⟩,o3.upd _,QN sy (P.lk e).head (z+(P.lk e).cost*w+(P.lk e).slope*ys.getD e 0),?_,?_⟩
      ·rw[<-y8];exact pA _ Z4
      ·rw[tk];exact C3.put ok G.pos G.good Xd (by omega) q1 q2
   ·rintro σ H3 ⟨⟨c3,c4,c5,rfl⟩,o3,sy,uM,C3⟩;rw[Z3,X7]at C3;refine⟨⟨_,_,_,Y⟩,(Off.trans (Off.same (s1.trans s2)) o3).none hd,sy,uM,C3.next fun e he hx=>?_⟩;have n1:=G.nn e;have n2:ys.getD e 0≠0:=fun q=>hx ((Uk G.pos e).mpr q);exact Uu.mpr ⟨by rw[G.len];exact he,by omega⟩
  ·rintro σ H1 ⟨⟨c3,c4,c5,rfl⟩,s1,hg,kr,C1⟩;exact⟨_,Y,k H1 d hg s1 kr (C1.done ok G.good)⟩
def yY(t:Yt):Sp:=fun vs H Q _=>∃a c d P w hg,vs=[.ref a,.int w,.ref c,.ref d]/\S_ t H a P/\DI H c P.n (iv hg)/\H d=some (.dK [])/\c≠d/\P.Ok/\P.Sz/\0<w/\Bd 30000 w/\
 ∀H' l lab arr Ye T,Off d H H'->DI H' l P.n (iv lab)->DI H' d P.n (nv arr)->GD P w hg lab arr Ye T->Ey P w hg lab P.links.length->T<=1000->Q (.ref l) H'
theorem OQ:ZN ["net","whole","heights","arrivals","labels","changed","number","link","reach"] ["net","whole","heights","arrivals"] (Z0 (top 34)):=⟨Y,Y,Y,by decide+kernel,Y,by decide+kernel,by decide+kernel⟩
theorem OP(T:Txt K mg t):Y' P w K mg base XO 33 t.Tj t.Ti ["net","whole","heights","arrivals"] (yY t):=by
 have sc:=OQ;refine T.Rn.F.ok sc (fun vs H Q E h=>?_) (fun Yx A outer s H vs Q E hr h=>?_)
 ·obtain⟨a,c,d,P,w,hg,rfl,_⟩:=h;rfl
 ·have hu:=QK hr;obtain⟨a,c,d,P,w,hg,rfl,⟨la,ks,hN⟩,hD,ed,nL,ok,Z',w0,bw,k⟩:=h;obtain⟨TU,ea⟩:=hN.obj;have n6:=Z'.n6;have m9:=Z'.m9;obtain⟨C,_,hC⟩:=Et P.n hg;have Z9:RR.Tw P w C hg:=⟨w0,fun v z hz=>hD.lt (SA hz),fun v z hz=>hC v (hD.lt (SA hz)) z hz⟩;obtain⟨kv,ec,pK⟩:=hD.mk' (H':=H) (b:=c);refine⟨_,(Z5 (ZT (i:=4) sc.nd Y (Or.inl Y) (VI D9 (by rfl) T.nodict boot_dict (Z6 (Z 2) Z2)))
   (Z5 (ZT (i:=5) sc.nd Y (Or.inl Y) Kd)
   (Z5 (Vr Zl (T4 (Z 5)) (Z5 (ZT (i:=5) sc.nd Y (Or.inl Y) Kd)
   (Z1 (YC Zl Y (Wn Y T.Vd (Z6 (ZZ (Z 0) rfl) Z2)) (V7 Y (Y0 (ZD (i:=6) sc.nd Y (Or.inl Y)) (Y0 (ZD (i:=7) sc.nd Y (Or.inl Y)) WX))) (Z5 (YZ (PW.pt (Vc (Vi (Wh hu (ZZ (Z 7) rfl) (Z 4))) (VJ (Vi (EU hu (ZZ (Z 7) rfl) (Z 2)))))) (Z1 Wj) Zv)
   (Z5 (ZT (i:=8) sc.nd Y (Or.inl Y) (Zg S4 (WH hu (Z 4) (ZZ (Z 7) rfl) (fun _ _=>rfl)) (Zg YX (ZZ (Z 7) rfl) (Z 1))))
   (Z1 (YZ (PW.pt (Vc (Vi (Wh hu (ZZ (Z 7) rfl) (Z 4))) (VJ (ZJ Kb (Z 8) (WH hu (Z 4) (ZZ (Z 7) rfl) (fun _ _=>rfl)) (Zu _))))) (Z5 (Pw hu (Z 4) (ZZ (Z 7) rfl) (Z 8) rfl)
   (Z5 (Pw hu (Z 3) (ZZ (Z 7) rfl) (Z 6) rfl)
   (Z1 (ZT (i:=5) sc.nd Y (Or.inl Y) Kd)))) Zv))))))))
   (Z1 (ZP (Z 4)))))),?_⟩
  refine⟨_,Y,c,kv,Y,ec,fun l hl=>?_⟩;have ax:c≠l:=ZA ec hl;have ko:d≠l:=ZA ed hl;let Z_:Nat->Nat->Bool->Hp->Prop:=fun r i chg H'=>Off d H H'/\∃lab arr Ye T,DI H' l P.n (iv lab)/\DI H' d P.n (nv arr)/\GD P w hg lab arr Ye T/\BF (P.YL w C hg) (P.YL w C hg).c (V2 P.n C lab) r i/\T<=9*r+i/\(chg=false->Ey P w hg lab i)/\(chg=true->r<=P.n)
  have kj:∀{H'},Off d H H'->DI H' c P.n (iv hg):=fun{H'} o=>pK H' c (o c _ ec nL);have vY:∀{H'},Off d H H'->Eb t H' a la ks P:=fun{H'} o=>⟨⟨TU,o.at ed ea fun kv z=>by cases z⟩,o.at ed hN.lst fun kv z=>(by cases z),hN.len,fun i kk hk=>by
   obtain⟨dk,ek⟩:=hN.at_ i kk hk;exact⟨dk,o.at ed ek fun kv z=>by cases z⟩⟩
  have o0:Off d H (upd H l (.dK kv)):=Off.same (ZY.new hl _);refine⟨fun m σ H'=>(∃chg c6 c7 c8 r,σ=[some (.ref a),some (.int w),some (.ref c),some (.ref d),some (.ref l),some (.bl chg),c6,c7,c8]/\m=(if chg=true then P.n+2-r else 0)/\(chg=true->r<=P.n+1)/\r<=8/\Off d H H'/\∃lab arr Ye T,DI H' l P.n (iv lab)/\DI H' d P.n (nv arr)/\GD P w hg lab arr Ye T/\BF (P.YL w C hg) (P.YL w C hg).c (V2 P.n C lab) r 0/\T<=9*r/\(chg=false->Ey P w hg lab P.links.length)),
   ⟨_,true,none,none,none,0,Y,Y,fun _=>Zw _,Zw _,o0,hg,fun _=>none,fun _=>0,0,pK _ _ Z4,DI.new _ (by rw[ZW ko];exact ed),GD.start,tq Z9,Zw _,fun z=>by cases z⟩,?_⟩
  rintro m σ H1 ⟨chg,c6,c7,c8,r,rfl,rfl,K9,r8,o1,lab,arr,Ye,TT,DL,DA,S,B,hT,hc⟩;cases chg with
  |false=>
   exact⟨_,Y,false,Y,YJ ⟨_,Y,k H1 l lab arr Ye TT o1 DL DA S (hc Y) (by omega)⟩⟩
  |true=>
   refine⟨_,Y,true,Y,Y2 ?_⟩;refine⟨fun XQ Iu=>∃m',m'<(if true=true then P.n+2-r else 0)/\(∃chg c6 c7 c8 r,XQ=[some (.ref a),some (.int w),some (.ref c),some (.ref d),some (.ref l),some (.bl chg),c6,c7,c8]/\m'=(if chg=true then P.n+2-r else 0)/\(chg=true->r<=P.n+1)/\r<=8/\Off d H Iu/\∃lab arr Ye T,DI Iu l P.n (iv lab)/\DI Iu d P.n (nv arr)/\GD P w hg lab arr Ye T/\BF (P.YL w C hg) (P.YL w C hg).c (V2 P.n C lab) r 0/\T<=9*r/\(chg=false->Ey P w hg lab P.links.length)),fun _ _ h=>h,?_⟩;have dq:=K9 rfl;have N1:=vY o1;obtain⟨iF,Hy⟩:=N1.obj;refine⟨_,Y,_,_,_,_,_,Y,Hy,T.Net.cl,T.XZ,Y,_,_,Y,Zz.of N1.lst,?_⟩;refine Vk (K:=K) (xs:=ks.map V.ref) (fun i σ H'=>(∃chg c6 c7 c8,σ=[some (.ref a),some (.int w),some (.ref c),some (.ref d),some (.ref l),some (.bl chg),c6,c7,c8]/\Z_ r i chg H')) ⟨false,_,_,_,Y,o1,lab,arr,Ye,TT,DL,DA,S,B,by omega,fun _=>fun e he=>by omega,fun z=>by cases z⟩ (fun i σ H' _ q=>by
    obtain⟨_,_,_,_,_,o,_⟩:=q;exact Zz.of (vY o).lst) ?_ ?_
   ·rintro i x σ H2 H3 hx ⟨chg,c6,c7,c8,rfl,o2,lab,arr,Ye,TT,DL,DA,S,B,hT,hc,hn⟩ s3;obtain⟨kk,v_,rfl⟩:=Yk hx;have hi:i<P.links.length:=by rw[<-hN.len];exact(ZC.mp v_).1
    have o3:Off d H H3:=o2.trans (Off.same s3);have DL:=DL.up s3;have DA:=DA.up s3;obtain⟨dk,ek⟩:=(vY o3).at_ i kk v_;have DH:=kj o3;refine⟨_,Y,_,_,_,_,_,Y,ek,T.X2.cl,T.YS,Y,_,Y,l,_,Y,DL.get _,_,Y,?_⟩;rw[VB];cases q1:lab (P.lk i).tail with
    |none=>
     refine Y2 (Y2 ⟨chg,_,_,_,Y,o3,lab,arr,Ye,TT,DL,DA,S,uV ok hi B (.inl q1),by omega,fun z e he hl hh a ha=>?_,hn⟩);by_cases q:e<i;·exact hc z e q hl hh a ha
     ·have:e=i:=by omega
      subst this;rw[q1]at ha;cases ha
    |some za=>
     refine YJ ⟨_,Y,_,_,_,_,_,Y,ek,T.X2.cl,T.Y4,Y,_,Y,c,_,Y,DH.get _,_,Y,?_⟩;rw[VB];cases q2:hg (P.lk i).head with
     |some zh=>
      refine Y2 ⟨chg,_,_,_,Y,o3,lab,arr,Ye,TT,DL,DA,S,uV ok hi B (.inr ⟨zh,q2⟩),by omega,fun z e he hl hh a ha=>?_,hn⟩;by_cases q:e<i;·exact hc z e q hl hh a ha
      ·have:e=i:=by omega
       subst this;rw[q2]at hh;cases hh
     |none=>
      refine YJ ⟨_,Y,_,Y,_,_,_,_,_,Y,ek,T.X2.cl,T.YS,Y,l,_,Y,DL.F5 (SA q1),_,Y,_,_,_,_,_,Y,ek,T.X2.cl,T.WL,Y,_,Y,_,_,Y,Y,XT ((Z'.c i hi).mono (by decide)) (bw.mono (by decide)),_,_,Y,Y,?_⟩;refine⟨_,Y,_,_,_,_,_,Y,ek,T.X2.cl,T.Y4,Y,_,Y,l,_,Y,DL.get _,_,Y,?_⟩;rw[VB];have yX:(∀b,lab (P.lk i).head=some b->za+(P.lk i).cost*w<b)->∀pk:Bool,AE (Hs 4) (xR K (Hs 7) "head") (Hs 8) {nx:=fun dn H4=>AE (Hs 3) (xR K (Hs 7) "head") (Hs 6) {nx:=fun dj H5=>∃chg c6 c7 c8,dj.set 5 (some (V.bl true))=[some (.ref a),some (.int w),some (.ref c),some (.ref d),some (.ref l),some (.bl chg),c6,c7,c8]/\Z_ r (i+1) chg H5,rt:=fun _ _=>True} dn H4,rt:=fun _ _=>True} [some (.ref a),some (.int w),some (.ref c),some (.ref d),some (.ref l),some (.bl pk),some (.int (i:Int)),some (.ref kk),some (.int (za+(P.lk i).cost*w))] H3:=by
       intro hm pk;obtain⟨o,y4,⟨nJ,rfl⟩,pA⟩:=DL.put (by omega) (ok.lh i hi) (.int (za+(P.lk i).cost*w));have o4:Off d H (upd H3 l (.dK nJ)):=fun b u e n=>by
        rw[ZW (ZA e hl)];exact o3 b u e n
       obtain⟨aw,rE⟩:=(vY o4).at_ i kk v_;obtain⟨au,di,dh⟩:=DA.mk' (H':=H) (b:=c);have dg:DI (upd H3 l (.dK nJ)) d P.n (nv arr):=dh _ _ (by rw[ZW ko];exact di);obtain⟨o',pj,⟨kq,rfl⟩,kh⟩:=dg.put (by omega) (ok.lh i hi) (.int (i:Int));have rn:r<=P.n:=by
        by_cases q:r<=P.n;·exact q
        ·obtain⟨b,O,hle⟩:=pQ ok Z9 hi B (by omega) q1 q2;have:=hm b O;omega
       have de:DI (upd (upd H3 l (.dK nJ)) d (.dK kq)) l P.n (iv (QN lab (P.lk i).head (za+(P.lk i).cost*w))):=by
        rw[<-y8];exact pA _ (by rw[ZW (fun q=>ko q.symm),Z4])
       have c_:DI (upd (upd H3 l (.dK nJ)) d (.dK kq)) d P.n (nv (putN arr (P.lk i).head i)):=by
        rw[<-y9];exact kh _ Z4
       exact⟨_,Y,_,Y,_,Y,_,_,_,_,_,Y,ek,T.X2.cl,T.Y4,Y,l,_,Y,y4,_,Y,_,Y,_,Y,_,_,_,_,_,Y,rE,T.X2.cl,T.Y4,Y,d,_,Y,pj,true,_,_,_,Y,o4.upd _,_,_,_,TT+1,de,c_,S.put ok hi q1 q2 hm,kZ ok hi B q1 q2 hm,by omega,fun z=>(by cases z),fun _=>rn⟩
      cases q3:lab (P.lk i).head with
      |none=>
       refine Y2 (Y2 ?_);obtain⟨v1,e1,kg,BB,v2,e2,aa,C1,sx,kf,ke,f1,f2,f3,f4,f5,a3,H4,g1,g2,g3⟩:=yX (fun b O=>by rw[q3]at O;cases O) chg;exact⟨v1,e1,kg,BB,v2,e2,aa,C1,sx,kf,ke,f1,f2,f3,f4,f5,a3,H4,g1,g2,g3⟩
      |some zb=>
       refine YJ ⟨_,Y,_,Y,_,Y,_,_,_,_,_,Y,ek,T.X2.cl,T.Y4,Y,l,_,Y,DL.F5 (SA q3),_,_,Y,Y,_,Y,Ws (fun cc=>?_) (fun cc=>?_)⟩
       ·have cc:za+(P.lk i).cost*w<zb:=ZG cc;obtain⟨v1,e1,kg,BB,v2,e2,aa,C1,sx,kf,ke,f1,f2,f3,f4,f5,a3,H4,g1,g2,g3⟩:=yX (fun b O=>by rw[q3]at O;cases O;exact cc) chg;exact⟨v1,e1,kg,BB,v2,e2,aa,C1,sx,kf,ke,f1,f2,f3,f4,f5,a3,H4,g1,g2,g3⟩
       ·have cc:¬za+(P.lk i).cost*w<zb:=fun q=>cc (ZR q);refine⟨chg,_,_,_,Y,o3,lab,arr,Ye,TT,DL,DA,S,pR ok hi B q1 q3 (by omega),by omega,fun z e he mT hh a ha=>?_,hn⟩;by_cases q:e<i;·exact hc z e q mT hh a ha
        ·have:e=i:=by omega
         subst this;rw[q1]at ha;cases ha;exact⟨zb,q3,by omega⟩
   ·rintro σ H2 ⟨chg,c6,c7,c8,rfl,o2,lab,arr,Ye,TT,DL,DA,S,B,hT,hc,hn⟩;rw[Z3,hN.len]at B hT hc;refine⟨_,?_,chg,_,_,_,r+1,Y,Y,fun z=>by have:=hn z;omega,?_,o2,lab,arr,Ye,TT,DL,DA,S,tm (fun v z hz=>(S.fix v z hz).1) Z9 B,by omega,hc⟩
    ·rw[Z7 rfl];cases chg with
     |true=>rw [Z7 rfl];have:=hn rfl;omega
     |false=>rw [Z8 (by simp)];omega
    ·omega
end
end Rw
namespace Rw
open PySem PySem.Spec PyProof.Rows L2 RR
theorem CJ{K:W.Frag}{H:Hp}:∀us:List Nat,NZ K H (us.map fun(k:Nat)=>V.int (k:Int)) (us.map fun(k:Nat)=>PyData.int (k:Int))
 |[]=>.nil
 |_::us=>.cons (.int _) (CJ us)
theorem K5:∀us:List Nat,PyData.canLayAll0 (us.map fun(k:Nat)=>PyData.int (k:Int))=true
 |[]=>rfl
 |_::us=>by
  show(true&&PyData.canLayAll0 (us.map fun(k:Nat)=>PyData.int (k:Int)))=true;rw[K5 us];rfl
theorem K4:∀us:List Nat,PyData.depthAll (us.map fun(k:Nat)=>PyData.int (k:Int))=0
 |[]=>by simp[PyData.depthAll]
 |_::us=>by
  rw[Y7];simp only[PyData.depthAll,PyData.depth,K4 us];rfl
theorem Nb(us:List Nat):SeqAt.shaped (.list (us.map fun(k:Nat)=>PyData.int (k:Int)))=true:=by
 unfold SeqAt.shaped;have J:PyData.canLay0 (.list (us.map fun(k:Nat)=>PyData.int (k:Int)))=true:=by
  simp only[PyData.canLay0];exact K5 us
 have h2:PyData.depth (.list (us.map fun(k:Nat)=>PyData.int (k:Int)))=1:=by simp only[PyData.depth,K4 us]
 rw[J,h2];rfl
theorem CI(us:List Nat):PyData.eqv (.list (us.map fun(k:Nat)=>PyData.int (k:Int))) (.list [])=us.isEmpty:=by
 cases us with
 |nil=>simp [PyData.eqv,PyData.eqvAll]
 |cons u us=>simp [PyData.eqv,PyData.eqvAll]
theorem yW{K:W.Frag}{H:Hp}{a:Addr}{us:List Nat}(h:NL H a us):Dp K H (.ref a) (.list (us.map fun(k:Nat)=>PyData.int (k:Int))):=.lst (Zz.of h) (CJ us)
theorem D8{K:W.Frag}{H:Hp}{a:Addr}(h:H a=some (.lst [])):Dp K H (.ref a) (.list []):=.lst (Zz.of h) .nil
section
variable{P:Program}{w:World}{K:W.Frag}{mg:Str->Option Value}{base:Heap}{t:Yt}
def uK(P:Y8)(ys:List Int)(w:Int)(h:Nat->Rat)(ks:List Nat):Prop:=(ks=[]/\P.X3.WC (ld ys w))\/(ks≠[]/\∃lb Ye T,P.X3.Wm (ld ys w) h (P.X3.GF (ld ys w)) lb Ye T (fun i=>ks.getD i 0) (ks.length-1))
def pf(t:Yt):Sp:=fun vs H Q _=>∃a b P ys w h,vs=[.ref a,.ref b]/\S_ t H a P/\W7 t H b ys w/\P.Ok/\P.Sz/\VW P ys w h/\∀H' c ks,H c=none->ZY H H'->NL H' c ks->ks.length<=1001->uK P ys w h ks->Q (.ref c) H'
theorem Ju{P:Y8}{arr:Nat->Option Nat}{Ye:Nat->Nat}(hA:∀u e,arr u=some e->Ye (P.lk e).tail<Ye u):∀(ks:List Nat)(v:Nat),Chain P arr v ks->ks.length<=Ye v
 |[],v,_=>Zw _
 |e::ks,v,h=>by
  obtain⟨J,h2⟩:arr v=some e/\Chain P arr (P.lk e).tail ks:=h;have:=Ju hA ks _ h2;have:=hA v e J;rw[Zj];omega
theorem GD.arr{P:Y8}{w:Int}{hg lab:Nat->Option Int}{arr:Nat->Option Nat}{Ye:Nat->Nat}{T:Nat}(S:GD P w hg lab arr Ye T)(C:Ey P w hg lab P.links.length):∀u e,arr u=some e->e<P.links.length/\Ye (P.lk e).tail<Ye u:=fun u e he=>by
 cases hl:lab u with
 |none=>rw [S.Xs u hl]at he;cases he
 |some b=>
  cases hh:hg u with
  |some z=>rw [(S.fix u z hh).2.1]at he;cases he
  |none=>
   obtain⟨f,a,J,h2,h3,h4,h5,h6⟩:=S.rL u b hh hl;rw[he]at J;cases J;obtain⟨b',g1,g2⟩:=C e h2 h2 (by rw[h3];exact hh) a h4;rw[h3,hl]at g1;cases g1;exact⟨h2,h6 (by omega)⟩
theorem OO:ZN ["net","load","heights","arrivals","labels","number","link"] ["net","load"] (Z0 (top 35)):=⟨Y,Y,Y,by decide+kernel,Y,by decide+kernel,by decide+kernel⟩
theorem T5(T:Txt K mg t):Y' P w K mg base XO 35 t.Th t.Tg ["net","load"] (pf t):=by
 have sc:=OO;refine T.UC.F.ok sc (fun vs H Q E h=>?_) (fun Yx A outer s H vs Q E hr h=>?_)
 ·obtain⟨a,b,P,ys,w,h,rfl,_⟩:=h;rfl
 ·have hu:=QK hr;obtain⟨a,b,P,ys,w,h,rfl,⟨la,ks,hN⟩,⟨ly,⟨wj,eb⟩,iy⟩,ok,Z',G,k⟩:=h;obtain⟨TU,ea⟩:=hN.obj;have n6:=Z'.n6;have m9:=Z'.m9;refine⟨_,(Z5 (ZT (i:=2) sc.nd Y (Or.inl Y) (cl T.Se (PY T) hr (by decide) rfl (Z6 (Z 0) (Z6 (Z 1) Z2))))
   (Z5 (ZT (i:=3) sc.nd Y (Or.inl Y) G3)
   (Z5 (ZT (i:=4) sc.nd Y (Or.inl Y) (cl T.Rn (OP T) hr (by decide) rfl (Z6 (Z 0) (Z6 (ZZ (Z 1) rfl) (Z6 (Z 2) (Z6 (Z 3) Z2))))))
   (Z5 (YC Zl Y (Wn Y T.Vd (Z6 (ZZ (Z 0) rfl) Z2)) (V7 Y (Y0 (ZD (i:=5) sc.nd Y (Or.inl Y)) (Y0 (ZD (i:=6) sc.nd Y (Or.inl Y)) WX))) (Z5 (YZ (PW.pt (Vc (ZJ N3 (ZL ZO (ZZ (Z 1) rfl) (Z 5) (fun _ _=>rfl)) ZS (Zu _)) (Vc (Vi (Wh hu (ZZ (Z 6) rfl) (Z 4))) (VJ (Vi (Wh hu (ZZ (Z 6) rfl) (Z 2))))))) (Z1 Wj) Zv)
   (Z1 (YZ (ZJ Kb (Zg S4 (WH hu (Z 4) (ZZ (Z 6) rfl) (fun _ _=>rfl)) (Zg YX (ZZ (Z 6) rfl) (ZZ (Z 1) rfl))) (WH hu (Z 2) (ZZ (Z 6) rfl) (fun _ _=>rfl)) (Zu _)) (Z1 (ZP (Zg UJ (Zy (Z6 (Z 5) Z2)) (cl T.Em (Jv T) hr (by decide) rfl (Z6 (Z 0) (Z6 (Z 3) (Z6 (ZZ (Z 6) rfl) Z2))))))) Zv))))
   (Z1 (ZP (Zy Z2))))))),?_⟩
  refine⟨_,Y,_,Y,a,b,P,ys,w,h,Y,⟨la,ks,hN⟩,⟨ly,⟨wj,eb⟩,iy⟩,ok,Z',G,fun H1 ch hg s1 DH Hg=>?_⟩;refine fun d hd=>?_;have vX:H d=none:=s1.free hd;have sd:=ZY.new hd (.dK []);have nL:ch≠d:=by
   obtain⟨kv,e⟩:=DH.nS;exact ZA e hd
  refine⟨_,Y,_,Y,_,_,_,_,_,Y,(sd _ _ (s1 _ _ eb)),T.Load.cl,T.W8,Y,_,Y,_,Y,a,ch,d,P,w,hg,Y,⟨la,ks,(hN.up s1).up sd⟩,DH.up sd,Z4,nL,ok,Z',G.pos,G.bw,fun H2 l lab arr Ye TT off DL DA S C hT=>?_⟩;have s2:ZY H H2:=fun c o e=>off c o (sd _ _ (s1 _ _ e)) (ZA e vX);obtain⟨aq,c9,cZ⟩:=(DH.up sd).mk' (H':=H) (b:=ch);have cY:DI H2 ch P.n (iv hg):=cZ H2 ch (off ch _ c9 nL);refine⟨_,Y,_,_,_,_,_,Y,(s2 _ _ ea),T.Net.cl,T.XZ,Y,_,_,Y,Zz.of (s2 _ _ hN.lst),?_⟩;refine Vk (K:=K) (xs:=ks.map V.ref) (fun i σ H'=>(∃c5 c6,σ=[some (.ref a),some (.ref b),some (.ref ch),some (.ref d),some (.ref l),c5,c6])/\ZY H2 H'/\∀e,e<i->¬0<ys.getD e 0->∀a z,lab (P.lk e).tail=some a->hg (P.lk e).head=some z->z<=a+(P.lk e).cost*w) ⟨⟨none,none,Y⟩,ZY.refl _,fun e he=>by omega⟩ (fun i σ H' _ q=>Zz.of (q.2.1 _ _ (s2 _ _ hN.lst))) ?_ ?_
  ·rintro i x σ H3 H4 hx ⟨⟨c5,c6,rfl⟩,s3,nI⟩ s4;obtain⟨kk,v_,rfl⟩:=Yk hx;have hi:i<P.links.length:=by rw[<-hN.len];exact(ZC.mp v_).1
   have vW:=s3.trans s4;have sH:=s2.trans vW;obtain⟨dk,ek⟩:=(hN.at_ i kk v_).up sH;have h8:=sH _ _ eb;have h7:=DL.up vW;have hJ:=cY.up vW;have go:∀c5 c6,(0<ys.getD i 0\/lab (P.lk i).tail=none\/hg (P.lk i).head=none\/∀a z,lab (P.lk i).tail=some a->hg (P.lk i).head=some z->z<=a+(P.lk i).cost*w)->(∃d5 d6,[some (V.ref a),some (.ref b),some (.ref ch),some (.ref d),some (.ref l),c5,c6]=[some (V.ref a),some (.ref b),some (.ref ch),some (.ref d),some (.ref l),d5,d6])/\ZY H2 H4/\∀e,e<i+1->¬0<ys.getD e 0->∀a z,lab (P.lk e).tail=some a->hg (P.lk e).head=some z->z<=a+(P.lk e).cost*w:=fun c5 c6 hz=>⟨⟨_,_,Y⟩,vW,fun e he hp a' z' J h2=>by
    by_cases q:e<i;·exact nI e q hp a' z' J h2
    ·have:e=i:=by omega
     subst this;rcases hz with hz|hz|hz|hz;·exact absurd hz hp
     ·rw[hz]at J;cases J
     ·rw[hz]at h2;cases h2
     ·exact hz a' z' J h2⟩
   refine⟨_,Y,_,_,_,_,_,Y,h8,T.Load.cl,T.Y3,Y,_,Y,_,_,_,_,Y,Y,Zz.of (sH _ _ iy),Wy (by rw[G.len];exact hi),_,_,Y,Y,_,Y,Ws (fun cc=>?_) (fun cc=>?_)⟩;·exact Y2 (go _ _ (.inl (ZG cc)))
   ·have cc:¬0<ys.getD i 0:=fun q=>cc (ZR q);refine⟨_,Y,_,_,_,_,_,Y,ek,T.X2.cl,T.YS,Y,_,Y,l,_,Y,h7.get _,_,Y,?_⟩;rw[VB];cases q1:lab (P.lk i).tail with
    |none=>exact Y2 (Y2 (go _ _ (.inr (.inl q1))))
    |some za=>
     refine YJ ⟨_,Y,_,_,_,_,_,Y,ek,T.X2.cl,T.Y4,Y,_,Y,ch,_,Y,hJ.get _,_,Y,?_⟩;rw[VB];cases q2:hg (P.lk i).head with
     |none=>exact Y2 (go _ _ (.inr (.inr (.inl q2))))
     |some zh=>
      refine YJ ⟨_,Y,_,Y,_,_,_,_,_,Y,ek,T.X2.cl,T.YS,Y,l,_,Y,h7.F5 (SA q1),_,Y,_,_,_,_,_,Y,ek,T.X2.cl,T.WL,Y,_,Y,_,_,_,_,_,Y,h8,T.Load.cl,T.W8,Y,_,_,Y,Y,XT ((Z'.c i hi).mono (by decide)) (G.bw.mono (by decide)),_,_,Y,Y,_,Y,_,Y,_,_,_,_,_,Y,ek,T.X2.cl,T.Y4,Y,ch,_,Y,hJ.F5 (SA q2),_,_,Y,Y,_,Y,Ws (fun c2=>?_) (fun c2=>?_)⟩
      ·have c2:za+(P.lk i).cost*w<zh:=ZG c2;refine⟨_,Y,(by show 1<=sizeLine;decide),fun p hp=>?_⟩;have s5:=ZY.new hp (.lst [.int (i:Int)]);have vV:=sH.trans s5;have o_:=Rw.GD.arr S C;refine⟨_,Y,_,Y,_,Y,_,_,_,_,_,Y,(s5 _ _ ek),T.X2.cl,T.YS,Y,a,d,(P.lk i).tail,P,arr,Ye,Y,⟨la,ks,hN.up vV⟩,DA.up (vW.trans s5),o_,ZE (S.tT _) hT,fun H6 c' yd nc s6 hL HA=>?_⟩;have kl:=Ju (fun u e he=>(o_ u e he).2) yd _ HA;have ao:=S.tT (P.lk i).tail;refine⟨p,c',_,_,Y,Y,s6 _ _ Z4,hL,?_,fun r GR=>?_⟩
       ·rw[Z3];show 1+yd.length<=sizeLine;exact ZE (show 1+yd.length<=1001 by omega) (by decide)
       ·refine k _ r (i::yd) ((vV.trans s6).free GR) ((vV.trans s6).trans (ZY.new GR _)) (by show upd _ _ _ _=_;rw[Z4];rfl) (by rw[Zj];omega) (.inr ⟨by simp,?_⟩);obtain⟨lb,Dt⟩:=S.tE C ok G.pos G.good Hg hi cc q1 q2 c2 HA;exact⟨lb,Ye,TT,Dt⟩
      ·have c2:¬za+(P.lk i).cost*w<zh:=fun q=>c2 (ZR q);refine go _ _ (.inr (.inr (.inr fun a z J h2=>?_)));rw[q1]at J;rw[q2]at h2;cases J;cases h2;omega
  ·rintro σ H3 ⟨⟨c5,c6,rfl⟩,s3,nI⟩;rw[Z3,hN.len]at nI;refine⟨Zw _,fun c hc=>?_⟩;exact k _ c [] ((s2.trans s3).free hc) ((s2.trans s3).trans (ZY.new hc _)) Z4 (by simp) (.inl ⟨Y,S.rests C ok G.pos G.good Hg nI⟩)
def sv(t:Yt):Sp:=fun vs H Q _=>∃a P,vs=[.ref a]/\S_ t H a P/\P.Ok/\P.Sz/\(∀H',ZY H H'->¬P.X3.Reach P.t->Q .Xs H')/\∀H' c ys w h,ZY H H'->W7 t H' c ys w->VW P ys w h->P.X3.WC (ld ys w)->Q (.ref c) H'
theorem vU:ZN ["net","way","load","detour"] ["net"] (Z0 (top 36)):=⟨Y,Y,Y,by decide+kernel,Y,by decide+kernel,by decide+kernel⟩
theorem vT(T:Txt K mg t):Y' P w K mg base XO 38 t.zy t.zx ["net"] (sv t):=by
 have sc:=vU;refine T.rest.F.ok sc (fun vs H Q E h=>?_) (fun Yx A outer s H vs Q E hr h=>?_)
 ·obtain⟨a,P,rfl,_⟩:=h;rfl
 ·have Ih:=hr.units;obtain⟨a,P,rfl,hN,ok,Z',kn,k⟩:=h;have n6:=Z'.n6;have m9:=Z'.m9;have nk:=ok.X3;refine⟨_,(Z5 (ZT (i:=1) sc.nd Y (Or.inl Y) (cl T.Gh (F3 T) hr (by decide) rfl (Z6 (Z 0) Z2)))
   (Z5 (YZ (ZJ (t6 Ih) (Z 1) (Zy Z2) (Zu _)) (Z1 (ZP XW)) Zv)
   (Z5 (ZT (i:=2) sc.nd Y (Or.inl Y) (cl T.balanced (Rh T) hr (by decide) rfl (Z6 (Z 0) (Z6 (Z 1) Z2))))
   (Z5 (ZT (i:=3) sc.nd Y (Or.inl Y) (cl T.UC (T5 T) hr (by decide) rfl (Z6 (Z 0) (Z6 (Z 2) Z2))))
   (Z5 (Vr Zl (ZJ (Jc Ih) (Z 3) (Zy Z2) (Zu _)) (Z5 (ZT (i:=2) sc.nd Y (Or.inl Y) (cl T.settled (D_ T) hr (by decide) rfl (Z6 (Z 0) (Z6 (Z 2) (Z6 (Zg UJ (kO T.Load.cl T.OY (Ri T) hr (by decide) (Z 2)) (Z 3)) Z2)))))
   (Z1 (ZT (i:=3) sc.nd Y (Or.inl Y) (cl T.UC (T5 T) hr (by decide) rfl (Z6 (Z 0) (Z6 (Z 2) Z2)))))))
   (Z1 (ZP (Z 2)))))))),?_⟩
  refine⟨_,Y,a,P,Y,hN,ok,n6,m9,fun H1 c1 ks s1 hL hW=>?_⟩;refine⟨_,Y,Zw _,fun p hp=>?_⟩;have s2:=s1.trans (ZY.new hp (.lst []));have uJ:=ZY.new hp (.lst []) _ _ hL;refine⟨_,_,yW uJ,D8 Z4,Nb ks,(by decide+kernel),_,Y,?_⟩;rw[CI];rcases hW with⟨rfl,nH⟩|⟨R7,Ye,W⟩;·exact Y2 (kn _ s2 nH)
  ·have hf:ks.isEmpty=false:=by cases ks with|nil=>exact absurd rfl R7|cons _ _=>rfl
   refine pG hf ?_;have nT:0<ks.length:=List.length_pos_iff.mpr R7;have hU:∀e,e∈ks↔∃i,i<=ks.length-1/\e=ks.getD i 0:=fun e=>by
    constructor
    ·intro he;obtain⟨i,hi,q⟩:=X8.mp he;exact⟨i,by omega,by rw[ZX,ZU hi,<-q];rfl⟩
    ·rintro⟨i,hi,rfl⟩;have hi:i<ks.length:=by omega
     rw[ZX,ZU hi];exact W6 hi
   have lt:∀e,e∈ks->e<P.links.length:=fun e he=>by
    obtain⟨i,hi,rfl⟩:=(hU e).mp he;exact W.lt i hi
   have nd:ks.Nodup:=by
    rw[List.nodup_iff_pairwise_ne,PN];intro i j hi hj JX q;have:=W.inj (i:=i) (j:=j) (by omega) (by omega) (by
     show ks.getD i 0=ks.getD j 0;rw[ZX,ZX,ZU hi,ZU hj,q])
    omega
   have RG:P.X3.Ys ks P.t:=⟨ks.getD 0 0,(hU _).mpr ⟨0,Zw _,Y⟩,.inr W.goal⟩;refine⟨_,Y,_,Y,a,c1,P,ks,Y,hN.up s2,uJ,ok,Z',lt,nd,W.KG hU,RG,fun H2 cl ys w h s3 hY B=>?_⟩;have nM:=s2.trans s3;have G:VW P ys w h:=⟨B.len,B.pos,W.good nk hU B.RI,B.Fj,B.bw⟩;refine⟨_,Y,_,Y,a,cl,P,ys,w,h,Y,hN.up nM,hY,ok,Z',G,fun H3 cd ds _ s4 hD dl hI=>?_⟩;let Wv:Nat->List (Option V)->Hp->Prop:=fun m σ H'=>ZY H H'/\∃c1 cl cd ys w h ds,σ=[some (.ref a),c1,some (.ref cl),some (.ref cd)]/\W7 t H' cl ys w/\VW P ys w h/\NL H' cd ds/\ds.length<=1001/\uK P ys w h ds/\m=P.X3.cnt (P.X3.PV (ld ys w))
   refine⟨Wv,⟨_,nM.trans s4,_,cl,cd,ys,w,h,ds,Y,hY.up s4,G,hD,dl,hI,Y⟩,?_⟩;rintro m σ H4 ⟨s5,ak,FY,cX,P5,w',h',FX,rfl,nN,G',hE,aj,cW,rfl⟩;refine⟨_,Y,Zw _,fun q hq=>?_⟩;have sq:=ZY.new hq (.lst []);refine⟨_,_,yW (sq _ _ hE),D8 Z4,Nb FX,(by decide+kernel),_,Y,?_⟩;rw[CI];have s6:=s5.trans sq;rcases cW with⟨rfl,hR⟩|⟨g_,lb,cV,T',Dt⟩;·exact YJ ⟨_,Y,k _ FY P5 w' h' s6 (nN.up sq) G' hR⟩
   ·have df:FX.isEmpty=false:=by cases FX with|nil=>exact absurd rfl g_|cons _ _=>rfl
    refine rH (by rw[df];rfl) ⟨fun XQ Iu=>∃m',m'<P.X3.cnt (P.X3.PV (ld P5 w'))/\Wv m' XQ Iu,fun _ _ h=>h,?_⟩;have ai:0<FX.length:=List.length_pos_iff.mpr g_;obtain⟨ly,⟨ka,el⟩,iy⟩:=nN.up sq;refine⟨_,Y,_,Y,_,Y,FY,_,_,Y,el,Y,FY,P5,w',Y,⟨ly,⟨ka,el⟩,iy⟩,by rw[G'.len];omega,fun H5 cc ip s7 hC=>?_⟩;have cU:=s7 _ _ (sq _ _ hE);have ah:(TR P5).length<=9:=by
     have:=Xf P.links.length (TR P5) (SD P5) fun e he=>by rw[<-G'.len];exact(Uu.mp he).1
     omega
    refine⟨_,Y,cc,cX,_,_,Y,Y,hC,cU,by rw[Z3,Z3];exact ZE (show(TR P5).length+FX.length<=1010 by omega) (by decide),fun r GR=>?_⟩;have s8:=ZY.new GR (.lst (((TR P5).map fun(k:Nat)=>V.int (k:Int))++FX.map fun(k:Nat)=>V.int (k:Int)));have j_:=s6.trans (s7.trans s8);have dv:∀i,i<FX.length->FX.getD i 0<P.links.length/\ld P5 w' (FX.getD i 0)=0:=fun i hi=>Dt.emp i (by omega);have hU:∀e,e∈TR P5++FX↔e<P.X3.m/\(ld P5 w' e≠0\/∃i,i<=FX.length-1/\e=FX.getD i 0):=fun e=>by
     rw[Zm,Uu,G'.len];constructor
     ·rintro(⟨q1,q2⟩|q);·exact⟨q1,.inl fun z=>by rw[(Uk G'.pos e).mp z]at q2;omega⟩
      ·obtain⟨i,hi,z⟩:=X8.mp q;have e1:e=FX.getD i 0:=by rw[ZX,ZU hi,<-z];rfl
       exact⟨by rw[e1];exact(dv i hi).1,.inr ⟨i,by omega,e1⟩⟩
     ·rintro⟨q1,q2|⟨i,hi,rfl⟩⟩
      ·have n1:=G'.nn e;have n2:P5.getD e 0≠0:=fun z=>q2 ((Uk G'.pos e).mpr z);exact .inl ⟨q1,by omega⟩
      ·have hi:i<FX.length:=by omega
       rw[ZX,ZU hi];exact .inr (W6 hi)
    have nZ:(TR P5++FX).Nodup:=by
     refine List.nodup_append.mpr ⟨SD P5,Dt.nodup (by omega) fun i hi=>rfl,fun u hu v hv q=>?_⟩;subst q;obtain⟨i,hi,z⟩:=X8.mp hv;have e1:u=FX.getD i 0:=by rw[ZX,ZU hi,<-z];rfl
     have J:=(dv i hi).2;rw[<-e1]at J;have h2:=(Uu.mp hu).2;rw[(Uk G'.pos u).mp J]at h2;omega
    obtain⟨KG,RG,p,st⟩:=KD.start nk G'.good Dt hU nZ;refine⟨a,FY,r,P,P5,w',h',TR P5++FX,p,Y,hN.up j_,W7.up ⟨ly,⟨ka,el⟩,iy⟩ (s7.trans s8),by show upd _ _ _ _=_;rw[Z4,Y1],ok,Z',G',fun e he=>((hU e).mp he).1,nZ,KG,RG,st,fun H6 c6 g9 w6 h6 s9 g8 G6 ph=>?_⟩;refine⟨_,Y,_,Y,a,c6,P,g9,w6,h6,Y,hN.up (j_.trans s9),g8,ok,Z',G6,fun H7 c7 d7 _ tX cT cS cR=>?_⟩;exact⟨_,Net.tI nk G6.good ph,(j_.trans s9).trans tX,_,c6,c7,g9,w6,h6,d7,Y,g8.up tX,G6,cT,cS,cR,Y⟩
end
end Rw
namespace Rw
open PySem PySem.Spec PyProof.Rows L2 RR
open RhRoads (Road Land Flow settled on)
def S7(H:Hp)(D:Addr)(f:Nat->Rat)(i:Nat):Prop:=∃bs:List Addr,H D=some (.lst (bs.map V.ref))/\bs.length=i/\∀(j:Nat) b,bs[j]?=some b->Fr H b (f j)
def Bu(H:Hp)(D:Addr)(qs:List Rat):Prop:=S7 H D (fun j=>qs.getD j 0) qs.length
theorem S7.up{H H':Hp}{D:Addr}{f:Nat->Rat}{i:Nat}(h:S7 H D f i)(s:ZY H H'):S7 H' D f i:=let⟨bs,J,h2,h3⟩:=h;⟨bs,s _ _ J,h2,fun j b e=>(h3 j b e).up s⟩
theorem Bu.up{H H':Hp}{D:Addr}{qs:List Rat}(h:Bu H D qs)(s:ZY H H'):Bu H' D qs:=S7.up h s
theorem S7.nil{H:Hp}{D:Addr}(f:Nat->Rat)(h:H D=some (.lst [])):S7 H D f 0:=⟨[],h,Y,fun j b e=>(by simp at e)⟩
theorem S7.snoc{H:Hp}{D c:Addr}{f:Nat->Rat}{i:Nat}(h:S7 H D f i)(hc:Fr H c (f i))(hi:i<=1000):∃acc,H D=some (.lst acc)/\acc.length<sizeLine/\S7 (upd H D (.lst (acc++[.ref c]))) D f (i+1):=by
 obtain⟨bs,J,h2,h3⟩:=h;refine⟨_,J,by rw[Z3,h2];exact YG hi (by decide),bs++[c],by rw[Z4,U2],by rw[ZI,h2];rfl,fun j b O=>?_⟩;rcases U1 O with⟨z1,z2⟩|⟨z1,rfl⟩;·exact Xu (h3 j b z2) J fun ys q=>by cases q
 ·rw[z1,h2];exact Xu hc J fun ys q=>by cases q
theorem S7.at_{H:Hp}{D:Addr}{f:Nat->Rat}{i:Nat}(h:S7 H D f i){j:Nat}(hj:j<i):∃(bs:List Addr) (b:Addr),H D=some (.lst (bs.map V.ref))/\bs.length=i/\bs[j]?=some b/\Fr H b (f j):=by
 obtain⟨bs,J,h2,h3⟩:=h;have hl:j<bs.length:=by omega
 exact⟨bs,bs[j],J,h2,ZU hl,h3 j _ (ZU hl)⟩
theorem S7.congr{H:Hp}{D:Addr}{f g:Nat->Rat}{i:Nat}(h:S7 H D f i)(e:∀j,j<i->f j=g j):S7 H D g i:=by
 obtain⟨bs,J,h2,h3⟩:=h;refine⟨bs,J,h2,fun j b O=>?_⟩;have hj:j<i:=by rw[<-h2];exact(ZC.mp O).1
 rw[<-e j hj];exact h3 j b O
theorem Xa{n j:Nat}{f:Nat->Rat}(h:j<n):((List.range n).map f).getD j 0=f j:=by
 rw[ZX,Zf,XG h];rfl
theorem S7.list{H:Hp}{D:Addr}{f:Nat->Rat}{n:Nat}(h:S7 H D f n):Bu H D ((List.range n).map f):=by
 have:((List.range n).map f).length=n:=by simp
 unfold Bu;rw[this];exact h.congr fun j hj=>(Xa hj).symm
theorem S7.set{H:Hp}{D c:Addr}{f:Nat->Rat}{n e:Nat}{q:Rat}(h:S7 H D f n)(hc:Fr H c q)(he:e<n):∃xs,H D=some (.lst xs)/\Cg xs.length (e:Int)=some e/\S7 (upd H D (.lst (xs.set e (.ref c)))) D (fun j=>if j=e then q else f j) n:=by
 obtain⟨bs,J,h2,h3⟩:=h;refine⟨_,J,by rw[Z3,h2];exact OS he,bs.set e c,by rw[Z4,List.map_set],by rw[List.length_set,h2],fun j b O=>?_⟩;rw[List.getElem?_set]at O;by_cases z:e=j
 ·rw[Z7 z,Z7 (by omega)]at O;cases O;show Fr _ _ (if j=e then q else f j);rw[Z7 z.symm];exact Xu hc J fun ys q=>by cases q
 ·rw[Z8 z]at O;show Fr _ _ (if j=e then q else f j);rw[Z8 (fun w=>z w.symm)];exact Xu (h3 j b O) J fun ys q=>by cases q
theorem FW(r:Road):decide (V.int (r.shut.toNat:Int)=V.int 0)=!r.shut:=by cases r.shut<;>rfl
theorem Jt(r:Road):decide (V.int (r.shut.toNat:Int)=V.int 1)=r.shut:=by cases r.shut<;>rfl
section
variable{P:Program}{w:World}{K:W.Frag}{mg:Str->Option Value}{base:Heap}{t:Yt}
def Rg(H:Hp)(l:Land)(all:Bool)(Q:VK):Prop:=(∀H',ZY H H'->settled l all=none->¬(Ze l all).Reach l.goal->Q .Xs H')/\∀H' c f,ZY H H'->Bu H' c f->settled l all=some f->(∀e,Rb 31000 (on f e))->Q (.ref c) H'
def yV(t:Yt):Sp:=fun vs H Q _=>∃a b c l all qs bs,vs=[.ref a,.ref b,.ref c]/\WY t H a l/\Zk l/\Bu H b qs/\IL H c bs/\SR l all qs bs/\Rg H l all Q
theorem D7:ZN ["land","costs","slopes","scale","cost","numbers","number","road","links","load","flow","amount"] ["land","costs","slopes"] (Z0 (top 38)):=⟨Y,Y,Y,by decide+kernel,Y,by decide+kernel,by decide+kernel⟩
theorem K3(T:Txt K mg t):Y' P w K mg base XO 39 t.JA t.Jz ["land","costs","slopes"] (yV t):=by
 have sc:=D7;refine T.Iz.F.ok sc (fun vs H Q E h=>?_) (fun Yx A outer s H vs Q E hr h=>?_)
 ·obtain⟨a,b,c,l,all,qs,bs,rfl,_⟩:=h;rfl
 ·have hd:=hr.div (by decide);obtain⟨a,b,c,l,all,qs,bs,rfl,⟨la,rs,hL⟩,ok,⟨cs,j9,j8,o8⟩,hc,A1,kn,k⟩:=h;obtain⟨TU,ea⟩:=hL.obj;have r9:=ok.r9;have rl:rs.length=l.roads.length:=hL.len;have o7:∀q,q∈qs->Bd 20 q.den:=fun q hq=>by
   obtain⟨e,he,z⟩:=X8.mp hq;have:=A1.bd e (by rw[<-A1.ql];exact he);rw[ZX,ZU he]at this;rw[<-z];exact this
  refine⟨_,(Z5 (ZT (i:=3) sc.nd Y (Or.inl Y) ZS)
   (Z5 (YC Zl Y (Yy (Z 1)) (ZD (i:=4) sc.nd Y (Or.inl Y)) (Z1 (ZT (i:=3) sc.nd Y (Or.inl Y) (cl T.Ve (Ux T) hr (by decide) rfl (Z6 (Z 3) (Z6 (ZL Yr (Z 4) ZS (fun _ _=>rfl)) Z2))))))
   (Z5 (Vq (i:=5) rfl sc.nd Y rfl (Uq Y rfl rfl rfl) (Wn Y T.Vd (Z6 (ZZ (Z 0) rfl) Z2)) (YB (own:=[("number",6),("road",7)]) (show Us ["land","costs","slopes","scale","cost","numbers","number","road","links","load","flow","amount"] (Z0 (top 38)) _ _=true by decide+kernel)) (fun _ _ _ _ _=>by exact(P8 (K:=K) (i:=6) (j:=7) rfl rfl sc.nd Y rfl (Or.inl Y) (Or.inl Y))) (fun _ _ _ _ _=>by exact(DD (ZJ Vb (U0 (K:=K) rfl (Z 7) rfl) ZS (Zu _)))) (fun _ _ _ _ _=>by exact(Z 6)))
   (Z5 (ZT (i:=8) sc.nd Y (Or.inl Y) (Zy Z2))
   (Z5 (YC Zl Y (Yy (Z 5)) (ZD (i:=6) sc.nd Y (Or.inl Y)) (Z5 (ZT (i:=7) sc.nd Y (Or.inl Y) (ZL ZO (ZZ (Z 0) rfl) (Z 6) (fun _ _=>rfl)))
   (Z5 (ZT (i:=4) sc.nd Y (Or.inl Y) (ZL ZO (Z 1) (Z 6) (fun _ _=>rfl)))
   (Z1 (Xr (Va Yf W5 WT Xk (Z 8) (Z6 (mk T.X2 (Ik T) hr (by decide) rfl (Z6 (ZZ (Z 7) rfl) (Z6 (ZZ (Z 7) rfl) (Z6 (Zg YX (ZL Yr (Z 4) ZS (fun _ _=>rfl)) (Zg (V5 hd) (Z 3) (ZL Yr (Z 4) ZS (fun _ _=>rfl)))) (Z6 (ZL ZO (Z 2) (Z 6) (fun _ _=>rfl)) Z2))))) Z2)))))))
   (Z5 (ZT (i:=9) sc.nd Y (Or.inl Y) (cl T.rest (vT T) hr (by decide) rfl (Z6 (mk T.Net (F7 T) hr (by decide) rfl (Z6 (ZZ (Z 0) rfl) (Z6 (ZZ (Z 0) rfl) (Z6 (ZZ (Z 0) rfl) (Z6 (Zg YX (ZZ (Z 0) rfl) (Z 3)) (Z6 (Z 8) Z2)))))) Z2)))
   (Z5 (YZ (ZJ Vh (Z 9) XW (Zu _)) (Z1 (ZP XW)) Zv)
   (Z5 (Vq (i:=10) rfl sc.nd Y rfl (Uq Y rfl rfl rfl) (Yy (ZZ (Z 0) rfl)) (YB (own:=[("road",7)]) (show Us ["land","costs","slopes","scale","cost","numbers","number","road","links","load","flow","amount"] (Z0 (top 38)) _ _=true by decide+kernel)) (fun _ _ _ _ _=>by exact(ZD (i:=7) sc.nd Y (Or.inl Y))) (fun _ _ _ _ _=>by exact XS) (fun _ _ _ _ _=>by exact(cl T.ratio (Yo T) hr (by decide) rfl (Z6 ZS (Z6 ZS Z2)))))
   (Z5 (YC Zl Y (Qm Y T.Lf (Z6 (Z 5) (Z6 (ZZ (Z 9) rfl) Z2))) (V7 Y (Y0 (ZD (i:=6) sc.nd Y (Or.inl Y)) (Y0 (ZD (i:=11) sc.nd Y (Or.inl Y)) WX))) (Z1 (Qp (cl T.ratio (Yo T) hr (by decide) rfl (Z6 (Z 11) (Z6 (Zg YX (ZZ (Z 9) rfl) (Z 3)) Z2))) (Qq (Z 10) (Z 6) set_list))))
   (Z1 (ZP (Z 10)))))))))))),?_⟩
  refine⟨_,Y,b,Y,⟨_,Zz.of j9⟩,?_⟩;refine XA (K:=K) (a:=b) (xs:=cs.map V.ref) (fun i σ H'=>H'=H/\∃c4,σ=[some (.ref a),some (.ref b),some (.ref c),some (.int (IF (qs.take i))),c4,none,none,none,none,none,none,none]) ⟨Y,none,Y⟩ (fun i σ H' _ q=>by rw[q.1];exact Zz.of j9) ?_ ?_
  ·rintro i x σ H1 hx ⟨rfl,c4,rfl⟩;obtain⟨q,hq,rfl⟩:=Yk hx;have hi:i<qs.length:=by rw[<-j8];exact(ZC.mp hq).1
   have fq:=o8 i q hq;obtain⟨d1,d2,d3⟩:=Dd _ (qs.take i) rfl fun q hq=>o7 q (List.mem_of_mem_take hq);have ag:(qs.take i).length<=9:=by rw[XE,A1.ql];omega
   refine⟨_,Y,_,Y,_,_,_,_,Y,Y,Vj.of fq,Y,_,_,Y,d1,V3 _,d3.mono (by show 1+20*(qs.take i).length<=33554432;omega),(A1.bd i (by rw[<-A1.ql];exact hi)).mono (by decide),Y,some (.ref q),?_⟩;have:qs.take (i+1)=qs.take i++[qs.getD i 0]:=by
    rw[Xp,ZX,ZU hi];rfl
   rw[this,JK];rfl
  ·rintro σ H1 ⟨rfl,c4,rfl⟩;rw[Z3,j8,X7];obtain⟨g0,gd,gb⟩:=Dd _ qs Y o7;have gb:Bd 181 (IF qs):=gb.mono (by rw[A1.ql];omega);generalize IF qs=g at*;have PO:=BR ok A1 g0;have PZ:=BQ ok A1 gb;refine⟨_,Y,_,_,_,_,_,Y,ea,T.Land.cl,T.ZK,Y,_,_,Y,Zz.of hL.lst,fun D hD=>?_⟩;refine MC (K:=K) (xs:=rs.map V.ref) (fun i H'=>ZY H1 H'/\NL H' D ((List.range i).filter fun e=>!(rd l e).shut)) ⟨ZY.new hD _,Z4⟩ (fun i H' _ q=>Zz.of (q.1 _ _ hL.lst)) ?_ ?_
   ·rintro i x H2 H3 hx ⟨s2,d2⟩ s3;obtain⟨ra,Xt,rfl⟩:=Yk hx;have hi:i<rs.length:=(ZC.mp Xt).1;obtain⟨ta,⟨dr,er⟩,_⟩:=(hL.at_ i ra Xt).up (s2.trans s3);refine⟨Y,_,Y,_,_,_,_,_,Y,er,T.Road.cl,T.X0,Y,Y,_,Y,?_⟩;rw[FW];cases hs:(rd l i).shut with
    |true=>
     refine YJ ⟨s2.trans s3,?_⟩;show H3 D=_;rw[WU,Vt,YN,Z8 (by rw[hs];simp)];simp only[List.filter_nil,XH];exact s3 _ _ d2
    |false=>
     refine Y2 ⟨_,Y,_,s3 _ _ d2,?_,(s2.trans s3).Zx hD _,?_⟩
     ·rw[Z3];have:=Wx (fun e=>!(rd l e).shut) (List.range i);rw[Zd]at this;exact YG this (Zo (show i<10 by omega) (by decide))
     ·show upd _ _ _ _=_;rw[Z4,SE,WU,Vt,YN,Z7 (by rw[hs];rfl)];rfl
   ·rintro H2 ⟨s2,d2⟩;rw[Z3,rl]at d2;have d2:NL H2 D (opens l):=d2;have o9:=JJ ok;refine⟨Zw _,fun D2 Ba=>?_⟩;have s3:=s2.trans (ZY.new Ba (.lst []));have af:D2≠D:=fun q=>by rw[q]at Ba;have z:H2 D=some _:=d2;rw[Ba]at z;cases z
    refine⟨_,Y,D,Y,⟨_,Zz.of (ZY.new Ba _ _ _ d2)⟩,?_⟩;refine XA (K:=K) (a:=D) (xs:=(opens l).map fun(k:Nat)=>V.int (k:Int)) (fun i σ H'=>(∃c4 c6 c7,σ=[some (.ref a),some (.ref b),some (.ref c),some (.int g),c4,some (.ref D),c6,c7,some (.ref D2),none,none,none])/\ZY H2 H'/\∃kb:List Addr,H' D2=some (.lst (kb.map V.ref))/\kb.length=i/\∀(j:Nat) kk,kb[j]?=some kk->Oc t H' kk (IE l qs bs g ((opens l).getD j 0)))
     ⟨⟨_,none,none,Y⟩,ZY.new Ba _,[],Z4,Y,fun j kk h=>(by simp at h)⟩ (fun i σ H' _ q=>Zz.of (q.2.1 _ _ d2)) ?_ ?_
    ·rintro i x σ H3 hx ⟨⟨c4,c6,c7,rfl⟩,s4,kb,k1,k2,k3⟩;obtain⟨e,he,rfl⟩:=Uv hx;have hi:i<(opens l).length:=(ZC.mp he).1;have eg:(opens l).getD i 0=e:=by rw[ZX,he];rfl
     have Xd:e<l.roads.length:=(US.mp (Y9 he)).1;have sH:=s2.trans s4;have uL:=sH _ _ ea;obtain⟨ra,Xt⟩:∃ra,rs[e]?=some ra:=⟨_,ZU (by omega)⟩;obtain⟨ta,⟨dr,er⟩,_⟩:=(hL.at_ e ra Xt).up sH;obtain⟨qa,g7⟩:∃qa,cs[e]?=some qa:=⟨_,ZU (by rw[j8,A1.ql];exact Xd)⟩;have fq:=(o8 e qa g7).up sH;refine⟨_,Y,_,_,_,_,_,Y,uL,T.Land.cl,T.ZK,Y,_,Y,_,_,_,_,Y,Y,Zz.of (sH _ _ hL.lst),YI Xt,_,Y,_,Y,_,_,_,_,Y,Y,Zz.of (sH _ _ j9),YI g7,?_⟩;refine⟨_,Y,.inl ⟨Y,_,Zz.of k1⟩,_,Y,_,_,_,_,_,Y,er,T.Road.cl,T.Yc,Y,_,Y,_,_,_,_,_,Y,er,T.Road.cl,T.YA,Y,_,Y,_,_,_,_,Y,Y,Vj.of fq,Y,_,Y,_,Y,_,_,_,_,Y,Y,Vj.of fq,Y,_,_,Y,Y,V3 _,_,_,Y,Y,XT ((A1.bn e Xd).mono (by decide)) (gb.div.mono (by decide)),_,Y,_,Y,_,_,_,_,Y,Y,Zz.of (sH _ _ hc),Wy (by rw[A1.bl];exact Xd),?_⟩;intro x dx nx v7 ne;refine⟨x,dx,_,_,_,_,Y,Z4,fun H4 hK kp=>⟨Y,?_⟩⟩;have s5:ZY H3 H4:=ZY.made nx v7 kp;have j7:=s5 _ _ k1;refine⟨D2,_,_,Y,Y,j7,by rw[Z3,k2];exact Zo (show i<10 by omega) (by decide),⟨_,_,_,Y⟩,fun u o eu=>?_,kb++[x],by rw[Z4,U2],by rw[ZI,k2];rfl,fun j kk hk=>?_⟩
     ·rw[ZW (ZA eu Ba)];exact s5 _ _ (s4 _ _ eu)
     ·rcases U1 hk with⟨z1,z2⟩|⟨z1,rfl⟩
      ·obtain⟨dk,ek⟩:=(k3 j kk z2).up s5;exact⟨dk,Xu ek j7 fun ys q=>by cases q⟩
      ·rw[z1,k2,eg];obtain⟨dk,ek⟩:=hK;exact⟨dk,Xu ek j7 fun ys q=>by cases q⟩
    ·rintro σ H3 ⟨⟨c4,c6,c7,rfl⟩,s4,kb,k1,k2,k3⟩;rw[Z3]at k2;have sH:=s2.trans s4;have uL:=sH _ _ ea;refine⟨_,Y,_,_,_,_,_,Y,uL,T.Land.cl,T.Yw,Y,_,Y,_,_,_,_,_,Y,uL,T.Land.cl,T.Xv,Y,_,Y,_,_,_,_,_,Y,uL,T.Land.cl,T.Xb,Y,_,Y,_,_,_,_,_,Y,uL,T.Land.cl,T.Xw,Y,_,Y,_,_,Y,Y,XT (show Bd Hz (l.units:Int)from ?_) (gb.mono (by decide)),_,Y,?_⟩
     ·unfold Bd;have:=ok.u2;refine YG (show(l.units:Int).natAbs<=1000 by omega) ?_;exact Zo (show 1000<2^10 by decide) (TK (by decide) (by decide))
     intro x dx nx v7 ne;refine⟨x,dx,_,_,_,_,_,Y,Z4,fun H4 eN kp=>⟨Y,?_⟩⟩;have s5:ZY H3 H4:=ZY.made nx v7 kp;have gZ:=sH.trans s5;have j6:S_ t H4 x (XU l qs bs g):=⟨D2,kb,⟨dx,eN⟩,s5 _ _ k1,by rw[k2,Yp],fun j kk hk=>by
      have hj:j<(opens l).length:=by rw[<-k2];exact(ZC.mp hk).1
      rw[XI hj];exact(k3 j kk hk).up s5⟩
     refine⟨x,XU l qs bs g,Y,j6,PO,PZ,fun H5 s6 nH=>?_,fun H5 cl ys w h s6 hY G R=>?_⟩;·exact⟨_,Y,Y,_,Y,Y2 (kn H5 (gZ.trans s6) (IC ok A1 g0 gd nH) fun q=>nH ((Qe ok A1 g0 gd).reach.mpr q))⟩
     ·refine⟨_,Y,Y,_,Y,YJ ?_⟩;have vV:=gZ.trans s6;have nG:=vV _ _ ea;obtain⟨ly,⟨ka,el⟩,iy⟩:=hY;have yl:ys.length=(opens l).length:=by rw[G.len,Yp]
      refine⟨_,Y,_,_,_,_,_,Y,nG,T.Land.cl,T.ZK,Y,la,Y,⟨_,Zz.of (vV _ _ hL.lst)⟩,fun D3 jZ=>?_⟩;refine Vy (K:=K) (a:=la) (xs:=rs.map V.ref) (fun i H'=>ZY H5 H'/\S7 H' D3 (fun _=>0) i) ⟨ZY.new jZ _,S7.nil _ Z4⟩ (fun i H' _ q=>Zz.of (q.1 _ _ (vV _ _ hL.lst))) ?_ ?_
      ·rintro i x H6 hx ⟨s7,f7⟩;obtain⟨ra,Xt,rfl⟩:=Yk hx;have hi:i<rs.length:=(ZC.mp Xt).1;refine⟨Y,0,1,Y,by decide,fun p hp=>?_⟩;rw[BC];have s8:=ZY.new hp (.tup [.int (0:Rat).num,.int (0:Rat).den]);obtain⟨acc,a1,a2,a3⟩:=(f7.up s8).snoc (c:=p) (by show upd _ _ _ _=_;rw[Z4]) (by omega);exact⟨acc,a1,a2,(s7.trans s8).Zx jZ _,a3⟩
      ·rintro H6 ⟨s7,f7⟩;rw[Z3,rl]at f7;have jY:=vV.trans s7;have cQ:=s7 _ _ el;have wg:0<w*g:=U8 G.pos g0;have cP:Bd 30181 (w*g):=G.bw.mul gb;have cO:NL H6 D (opens l):=s7 _ _ (s6 _ _ (s5 _ _ (s4 _ _ d2)));refine⟨_,Y,_,Y,_,_,_,_,_,Y,cQ,T.Load.cl,T.Y3,Y,_,_,_,_,Y,Zz.of cO,Zz.of (s7 _ _ iy),?_⟩;refine MD (K:=K) (xs:=(opens l).map fun(k:Nat)=>V.int (k:Int)) (ys:=ys.map V.int) (by rw[Z3,Z3,yl]) (fun i σ H'=>(∃c4 c6 c7 jX,σ=[some (.ref a),some (.ref b),some (.ref c),some (.int g),c4,some (.ref D),c6,c7,some (.ref D2),some (.ref cl),some (.ref D3),jX])/\(∀u o,H5 u=some o->H' u=some o)/\S7 H' D3 (RC l ys w g i) l.roads.length)
        ⟨⟨_,_,_,none,Y⟩,s7,f7.congr fun j hj=>(by unfold RC;simp)⟩ (fun i σ H' _ q=>⟨Zz.of (q.2.1 _ _ (s6 _ _ (s5 _ _ (s4 _ _ d2)))),Zz.of (q.2.1 _ _ iy)⟩) ?_ ?_
       ·rintro i x y σ H7 H8 hx hy ⟨⟨c4,c6,c7,jX,rfl⟩,s9,f9⟩ tX;obtain⟨e,he,rfl⟩:=Uv hx;obtain⟨hi,rfl⟩:=int_at hy;have Xd:e<l.roads.length:=(US.mp (Y9 he)).1;have cN:=tX _ _ (s9 _ _ el);refine⟨_,Y,_,Y,_,_,_,_,_,Y,cN,T.Load.cl,T.W8,Y,_,Y,_,_,Y,Y,XT (G.bw.mono (by decide)) (gb.mono (by decide)),_,_,Y,wg,fun p hp=>?_⟩;have lS:=ZY.new hp (.tup [.int (qr (ys.getD i 0) (w*g)).num,.int (qr (ys.getD i 0) (w*g)).den]);obtain⟨xs,x1,x2,x3⟩:=((f9.up tX).up lS).set (c:=p) (q:=qr (ys.getD i 0) (w*g)) (by show upd _ _ _ _=_;rw[Z4]) Xd;refine⟨_,Y,_,Y,D3,xs,_,e,Y,Y,x1,x2,⟨_,_,_,_,Y⟩,fun u o eu=>?_,x3.congr fun j hj=>?_⟩
        ·rw[ZW (ZA eu jZ)];exact lS _ _ (tX _ _ (s9 _ _ eu))
        ·have tk:(opens l).take (i+1)=(opens l).take i++[e]:=by rw[Xp,he];rfl
         have cM:i<(opens l).length:=(ZC.mp he).1;have ix:(opens l).idxOf e=i:=by
          have:(opens l)[i]=e:=(ZC.mp he).2;rw[<-this];exact(Uj l).idxOf_getElem i cM
         unfold RC;rw[tk];by_cases q:j=e
         ·subst q;rw[Z7 Y,Z7 (by simp),ix]
         ·rw[Z8 q];by_cases z:j∈(opens l).take i;·rw[Z7 z,Z7 (Yu _ z)]
          ·rw[Z8 z,Z8 (by simp[z,q])]
       ·rintro σ H7 ⟨⟨c4,c6,c7,jX,rfl⟩,s9,f9⟩;rw[Z3]at f9;refine⟨_,Y,k H7 D3 _ (vV.trans s9) f9.list (ID ok A1 g0 gd G.pos R) fun e=>?_⟩;unfold on;by_cases he:e<l.roads.length
        ·rw[Xa he];unfold RC;split;·exact Rb.qr wg ((G.Fj _).mono (by omega)) (cP.mono (by omega))
         ·exact Rb.ofInt (x:=0) (Bd.zero _) (by omega)
        ·rw[ZX,YQ (by simp;omega)];exact Rb.ofInt (x:=0) (Bd.zero _) (by omega)
end
end Rw
namespace Rw
open PySem PySem.Spec PyProof.Rows L2 RR
open RhRoads (Road Land settled on total)
theorem Ig{n k:Nat}(h:n<2^k):Bd k (n:Int):=by
 unfold Bd;rw[Int.natAbs_natCast];exact h
theorem yU{n k:Nat}(h:n<2^k)(k1:1<=k):Rb k (n:Rat):=by
 rw[<-XJ];exact Rb.ofInt (Ig h) k1
theorem ON{n:Nat}{r:Road}(h:UI n r):Rb 20 r.toll:=by
 have J:=Tx.mpr h.tn;have h2:=h.n4;have h3:=h.td;refine⟨?_,Ig (YG h3 (by decide))⟩;unfold Bd;have:(2:Nat)^20=1048576:=by decide
 omega
theorem OM{n:Nat}{r:Road}(h:UI n r):Rb 10 (r.base:Rat):=yU (YG h.base (by decide)) (by decide)
theorem OL{n:Nat}{r:Road}(h:UI n r):Rb 10 (r.slope:Rat):=yU (YG h.s2 (by decide)) (by decide)
theorem OK(n:Nat):qr (n:Int) 1=(n:Rat):=by rw[ED,XJ]
theorem CH(n:Nat):(((n:Rat)).den:Int)=1:=by rw[<-XJ,Rat.den_intCast];rfl
theorem Ie{l:Land}(ok:Zk l):SR l false ((List.range l.roads.length).map fun e=>(rd l e).first false) ((List.range l.roads.length).map fun e=>((rd l e).slope:Int))where
 ql:=by simp
 bl:=by simp
 q:=fun e he=>Xa he
 b:=fun e he=>by
  rw[YT he,XJ];rfl
 b0:=fun e he=>by
  rw[YT he];have:=(ok.rd he).s1;omega
 bn:=fun e he=>by
  rw[Xa he];show Bd 31 (((rd l e).base:Rat)+(rd l e).toll).num;exact((OM (ok.rd he)).add (ON (ok.rd he))).num
 bd:=fun e he=>by
  rw[Xa he];show Bd 20 ((((rd l e).base:Rat)+(rd l e).toll).den:Int);rw[<-IJ,LX (Vn _ _) rfl,CH,Int.one_mul];exact(ON (ok.rd he)).den.div
 bb:=fun e he=>by
  rw[YT he];exact Ig (YG (ok.rd he).s2 (by decide))
theorem FV{l:Land}(ok:Zk l):SR l true ((List.range l.roads.length).map fun e=>((rd l e).base:Rat)) ((List.range l.roads.length).map fun e=>2*((rd l e).slope:Int))where
 ql:=by simp
 bl:=by simp
 q:=fun e he=>Xa he
 b:=fun e he=>by
  rw[YT he,Zq,XJ];rfl
 b0:=fun e he=>by
  rw[YT he];have:=(ok.rd he).s1;omega
 bn:=fun e he=>by
  rw[Xa he];exact(OM (ok.rd he)).num.mono (by decide)
 bd:=fun e he=>by
  rw[Xa he,CH];exact Bd.one (by decide)
 bb:=fun e he=>by
  rw[YT he];have:=(ok.rd he).s2;unfold Bd;have:(2:Nat)^11=2048:=by decide
  omega
section
variable{P:Program}{w:World}{K:W.Frag}{mg:Str->Option Value}{base:Heap}{t:Yt}
def yT(t:Yt)(all:Bool):Sp:=fun vs H Q _=>∃a l,vs=[.ref a]/\WY t H a l/\Zk l/\Rg H l all Q
theorem Rg.up{H H1:Hp}{l:Land}{all:Bool}{Q:VK}(h:Rg H l all Q)(s:ZY H H1):Rg H1 l all Q:=⟨fun H' s' e r=>h.1 H' (s.trans s') e r,fun H' c f s' hf e O=>h.2 H' c f (s.trans s') hf e O⟩
theorem MT:ZN ["land","costs","road"] ["land"] (Z0 (top 39)):=⟨Y,Y,Y,by decide+kernel,Y,by decide+kernel,by decide+kernel⟩
theorem X9(T:Txt K mg t):Y' P w K mg base XO 40 t.Rx t.Rv ["land"] (yT t false):=by
 have sc:=MT;refine T.Xy.F.ok sc (fun vs H Q E h=>?_) (fun Yx A outer s H vs Q E hr h=>?_)
 ·obtain⟨a,l,rfl,_⟩:=h;rfl
 ·obtain⟨a,l,rfl,⟨la,rs,hL⟩,ok,k⟩:=h;obtain⟨TU,ea⟩:=hL.obj;have r9:=ok.r9;have rl:rs.length=l.roads.length:=hL.len;refine⟨_,(Z5 (Vq (i:=1) rfl sc.nd Y rfl (Uq Y rfl rfl rfl) (Yy (ZZ (Z 0) rfl)) (YB (own:=[("road",2)]) (show Us ["land","costs","road"] (Z0 (top 39)) _ _=true by decide+kernel)) (fun _ _ _ _ _=>by exact(ZD (i:=2) sc.nd Y (Or.inl Y))) (fun _ _ _ _ _=>by exact XS) (fun _ _ _ _ _=>by exact(cl T.plus (UZ T) hr (by decide) rfl (Z6 (cl T.ratio (Yo T) hr (by decide) rfl (Z6 (U0 (K:=K) rfl (Z 2) rfl) (Z6 ZS Z2))) (Z6 (U0 (K:=K) rfl (Z 2) rfl) Z2)))))
   (Z1 (ZP (cl T.Iz (K3 T) hr (by decide) rfl (Z6 (Z 0) (Z6 (Z 1) (Z6 (Sr Y sc.nd (Yy (ZZ (Z 0) rfl)) (YB (own:=[("road",2)]) (show Us ["land","costs","road"] (Z0 (top 39)) _ _=true by decide+kernel)) (fun _ _ _ _ _=>by exact(ZD (i:=2) sc.nd Y (Or.inl Y))) (fun _ _ _ _ _=>by exact XS) (fun _ _ _ _ _=>by exact(U0 (K:=K) rfl (Z 2) rfl))) Z2))))))),?_⟩
  refine⟨_,Y,_,_,_,_,_,Y,ea,T.Land.cl,T.ZK,Y,la,Y,⟨_,Zz.of hL.lst⟩,fun D hD=>?_⟩;refine Vy (K:=K) (a:=la) (xs:=rs.map V.ref) (fun i H'=>ZY H H'/\S7 H' D (fun e=>(rd l e).first false) i) ⟨ZY.new hD _,S7.nil _ Z4⟩ (fun i H' _ q=>Zz.of (q.1 _ _ hL.lst)) ?_ ?_
  ·rintro i x H1 hx ⟨s1,f1⟩;obtain⟨ra,Xt,rfl⟩:=Yk hx;have hi:i<rs.length:=(ZC.mp Xt).1;have ro:=ok.rd (e:=i) (by omega);obtain⟨ta,⟨dr,er⟩,ft⟩:=(hL.at_ i ra Xt).up s1;refine⟨Y,_,Y,_,_,_,_,_,Y,er,T.Road.cl,T.WM,Y,_,_,Y,by decide,fun p hp=>?_⟩;rw[OK];have s2:=ZY.new hp (.tup [.int ((rd l i).base:Rat).num,.int ((rd l i).base:Rat).den]);refine⟨_,Y,_,_,_,_,_,Y,(s2 _ _ er),T.Road.cl,T.Xc,Y,p,ta,_,_,Y,Z4,ft.up s2,(OM ro).mono (by decide),(ON ro).mono (by decide),fun H2 q s3 fq=>?_⟩;obtain⟨acc,a1,a2,a3⟩:=(f1.up (s2.trans s3)).snoc fq (by omega);exact⟨acc,a1,a2,(s1.trans (s2.trans s3)).Zx hD _,a3⟩
  ·rintro H1 ⟨s1,f1⟩;rw[Z3,rl]at f1;have Hy:=s1 _ _ ea;refine⟨_,Y,_,Y,_,Y,_,_,_,_,_,Y,Hy,T.Land.cl,T.ZK,Y,la,Y,⟨_,Zz.of (s1 _ _ hL.lst)⟩,fun D2 Ba=>?_⟩;refine Vy (K:=K) (a:=la) (xs:=rs.map V.ref) (fun i H'=>ZY H1 H'/\IL H' D2 ((List.range i).map fun e=>((rd l e).slope:Int))) ⟨ZY.new Ba _,Z4⟩ (fun i H' _ q=>Zz.of (q.1 _ _ (s1 _ _ hL.lst))) ?_ ?_
   ·rintro i x H2 hx ⟨s2,f2⟩;obtain⟨ra,Xt,rfl⟩:=Yk hx;have hi:i<rs.length:=(ZC.mp Xt).1;obtain⟨ta,⟨dr,er⟩,ft⟩:=(hL.at_ i ra Xt).up (s1.trans s2);refine⟨Y,_,Y,_,_,_,_,_,Y,er,T.Road.cl,T.Xx,Y,_,f2,by rw[Z3,Z3,Zd];exact Zo (show i<10 by omega) (by decide),s2.Zx Ba _,?_⟩;show upd _ _ _ _=_;rw[Z4,UY _ _ _ rfl]
   ·rintro H2 ⟨s2,f2⟩;rw[Z3,rl]at f2;have QR:=s1.trans s2;exact⟨a,D,D2,l,false,_,_,Y,⟨la,rs,hL.up QR⟩,ok,f1.list.up s2,f2,Ie ok,k.up QR⟩
theorem Ic:ZN ["land","costs","road"] ["land"] (Z0 (top 40)):=⟨Y,Y,Y,by decide+kernel,Y,by decide+kernel,by decide+kernel⟩
theorem Sy(T:Txt K mg t):Y' P w K mg base XO 40 t.NP t.NO ["land"] (yT t true):=by
 have sc:=Ic;refine T.QW.F.ok sc (fun vs H Q E h=>?_) (fun Yx A outer s H vs Q E hr h=>?_)
 ·obtain⟨a,l,rfl,_⟩:=h;rfl
 ·obtain⟨a,l,rfl,⟨la,rs,hL⟩,ok,k⟩:=h;obtain⟨TU,ea⟩:=hL.obj;have r9:=ok.r9;have rl:rs.length=l.roads.length:=hL.len;refine⟨_,(Z5 (Vq (i:=1) rfl sc.nd Y rfl (Uq Y rfl rfl rfl) (Yy (ZZ (Z 0) rfl)) (YB (own:=[("road",2)]) (show Us ["land","costs","road"] (Z0 (top 40)) _ _=true by decide+kernel)) (fun _ _ _ _ _=>by exact(ZD (i:=2) sc.nd Y (Or.inl Y))) (fun _ _ _ _ _=>by exact XS) (fun _ _ _ _ _=>by exact(cl T.ratio (Yo T) hr (by decide) rfl (Z6 (U0 (K:=K) rfl (Z 2) rfl) (Z6 ZS Z2)))))
   (Z1 (ZP (cl T.Iz (K3 T) hr (by decide) rfl (Z6 (Z 0) (Z6 (Z 1) (Z6 (Sr Y sc.nd (Yy (ZZ (Z 0) rfl)) (YB (own:=[("road",2)]) (show Us ["land","costs","road"] (Z0 (top 40)) _ _=true by decide+kernel)) (fun _ _ _ _ _=>by exact(ZD (i:=2) sc.nd Y (Or.inl Y))) (fun _ _ _ _ _=>by exact XS) (fun _ _ _ _ _=>by exact(Zg YX ZS (U0 (K:=K) rfl (Z 2) rfl)))) Z2))))))),?_⟩
  refine⟨_,Y,_,_,_,_,_,Y,ea,T.Land.cl,T.ZK,Y,la,Y,⟨_,Zz.of hL.lst⟩,fun D hD=>?_⟩;refine Vy (K:=K) (a:=la) (xs:=rs.map V.ref) (fun i H'=>ZY H H'/\S7 H' D (fun e=>((rd l e).base:Rat)) i) ⟨ZY.new hD _,S7.nil _ Z4⟩ (fun i H' _ q=>Zz.of (q.1 _ _ hL.lst)) ?_ ?_
  ·rintro i x H1 hx ⟨s1,f1⟩;obtain⟨ra,Xt,rfl⟩:=Yk hx;have hi:i<rs.length:=(ZC.mp Xt).1;obtain⟨ta,⟨dr,er⟩,ft⟩:=(hL.at_ i ra Xt).up s1;refine⟨Y,_,Y,_,_,_,_,_,Y,er,T.Road.cl,T.WM,Y,_,_,Y,by decide,fun p hp=>?_⟩;rw[OK];have s2:=ZY.new hp (.tup [.int ((rd l i).base:Rat).num,.int ((rd l i).base:Rat).den]);obtain⟨acc,a1,a2,a3⟩:=(f1.up s2).snoc (c:=p) (by show upd _ _ _ _=_;rw[Z4]) (by omega);exact⟨acc,a1,a2,(s1.trans s2).Zx hD _,a3⟩
  ·rintro H1 ⟨s1,f1⟩;rw[Z3,rl]at f1;have Hy:=s1 _ _ ea;refine⟨_,Y,_,Y,_,Y,_,_,_,_,_,Y,Hy,T.Land.cl,T.ZK,Y,la,Y,⟨_,Zz.of (s1 _ _ hL.lst)⟩,fun D2 Ba=>?_⟩;refine Vy (K:=K) (a:=la) (xs:=rs.map V.ref) (fun i H'=>ZY H1 H'/\IL H' D2 ((List.range i).map fun e=>2*((rd l e).slope:Int))) ⟨ZY.new Ba _,Z4⟩ (fun i H' _ q=>Zz.of (q.1 _ _ (s1 _ _ hL.lst))) ?_ ?_
   ·rintro i x H2 hx ⟨s2,f2⟩;obtain⟨ra,Xt,rfl⟩:=Yk hx;have hi:i<rs.length:=(ZC.mp Xt).1;have ro:=ok.rd (e:=i) (by omega);obtain⟨ta,⟨dr,er⟩,ft⟩:=(hL.at_ i ra Xt).up (s1.trans s2);refine⟨Y,_,Y,_,_,_,_,_,Y,er,T.Road.cl,T.Xx,Y,_,_,Y,Y,XT (by show(2:Nat)<2^Hz;exact Zo (show 2<2^2 by decide) (TK (by decide) (by decide))) ((Ig (YG ro.s2 (show 1000<2^10 by decide))).mono (by decide)),_,f2,by rw[Z3,Z3,Zd];exact Zo (show i<10 by omega) (by decide),s2.Zx Ba _,?_⟩;show upd _ _ _ _=_;rw[Z4,UY _ _ _ rfl]
   ·rintro H2 ⟨s2,f2⟩;rw[Z3,rl]at f2;have QR:=s1.trans s2;exact⟨a,D,D2,l,true,_,_,Y,⟨la,rs,hL.up QR⟩,ok,f1.list.up s2,f2,FV ok,k.up QR⟩
def CG(t:Yt)(g:Road->Rat->Rat):Sp:=fun vs H Q _=>∃a b r x n,vs=[.ref a,.ref b]/\WK t H a r/\UI n r/\Fr H b x/\Rb 40000 x/\∀H' c,ZY H H'->Fr H' c (g r x)->Q (.ref c) H'
def vS(r:Road)(x:Rat):Rat:=(r.base:Rat)+(r.slope:Rat)*x
theorem D6{n B:Nat}{r:Road}{x:Rat}(h:UI n r)(hx:Rb B x):Rb (B+21) (vS r x):=((OM h).add ((OL h).mul hx)).mono (by omega)
theorem K2{n B:Nat}{r:Road}{x:Rat}(h:UI n r)(hx:Rb B x):Rb (B+42) (vS r x+r.toll):=((D6 h hx).add (ON h)).mono (by omega)
theorem QQ(r:Road)(x:Rat):vS r x+r.toll=r.price false x:=by
 unfold vS Road.price Road.first Road.each;simp only[PU,if_false];grind
theorem N_:ZN ["road","amount"] ["road","amount"] (Z0 (top 41)):=⟨Y,Y,Y,by decide+kernel,Y,by decide+kernel,by decide+kernel⟩
theorem S9(T:Txt K mg t):Y' P w K mg base XO 36 t.Sk t.Sj ["road","amount"] (CG t vS):=by
 have sc:=N_;refine T.TV.F.ok sc (fun vs H Q E h=>?_) (fun Yx A outer s H vs Q E hr h=>?_)
 ·obtain⟨a,b,r,x,n,rfl,_⟩:=h;rfl
 ·obtain⟨a,b,r,x,n,rfl,⟨ta,⟨dr,er⟩,ft⟩,ro,fx,bx,k⟩:=h;refine⟨_,(Z1 (ZP (cl T.plus (UZ T) hr (by decide) rfl (Z6 (cl T.ratio (Yo T) hr (by decide) rfl (Z6 (ZZ (Z 0) rfl) (Z6 ZS Z2))) (Z6 (cl T.times (Lc T) hr (by decide) rfl (Z6 (cl T.ratio (Yo T) hr (by decide) rfl (Z6 (ZZ (Z 0) rfl) (Z6 ZS Z2))) (Z6 (Z 1) Z2))) Z2))))),?_⟩;refine⟨_,Y,_,_,_,_,_,Y,er,T.Road.cl,T.WM,Y,_,_,Y,by decide,fun p hp=>?_⟩;rw[OK];have s1:=ZY.new hp (.tup [.int (r.base:Rat).num,.int (r.base:Rat).den]);refine⟨_,Y,_,_,_,_,_,Y,(s1 _ _ er),T.Road.cl,T.Xx,Y,_,_,Y,by decide,fun q hq=>?_⟩;rw[OK];have s2:=ZY.new hq (.tup [.int (r.slope:Rat).num,.int (r.slope:Rat).den]);refine⟨_,Y,q,b,_,_,Y,Z4,(fx.up s1).up s2,(OL ro).mono (by decide),bx.mono (by decide),fun H1 c s3 fc=>?_⟩;exact⟨p,c,_,_,Y,Fr.up (Fr.up (show Fr _ p (r.base:Rat)from Z4) s2) s3,fc,(OM ro).mono (by decide),((OL ro).mul bx).mono (by decide),fun H2 d s4 fd=>k H2 d (s1.trans (s2.trans (s3.trans s4))) fd⟩
theorem Ib:ZN ["road","amount"] ["road","amount"] (Z0 (top 42)):=⟨Y,Y,Y,by decide+kernel,Y,by decide+kernel,by decide+kernel⟩
theorem Sx(T:Txt K mg t):Y' P w K mg base XO 37 t.NN t.NM ["road","amount"] (CG t (fun r x=>r.price false x)):=by
 have sc:=Ib;refine T.QV.F.ok sc (fun vs H Q E h=>?_) (fun Yx A outer s H vs Q E hr h=>?_)
 ·obtain⟨a,b,r,x,n,rfl,_⟩:=h;rfl
 ·obtain⟨a,b,r,x,n,rfl,hR,ro,fx,bx,k⟩:=h;refine⟨_,(Z1 (ZP (cl T.plus (UZ T) hr (by decide) rfl (Z6 (cl T.TV (S9 T) hr (by decide) rfl (Z6 (Z 0) (Z6 (Z 1) Z2))) (Z6 (ZZ (Z 0) rfl) Z2))))),?_⟩;refine⟨_,Y,_,Y,a,b,r,x,n,Y,hR,ro,fx,bx,fun H1 c s1 fc=>?_⟩;obtain⟨ta,⟨dr,er⟩,ft⟩:=hR.up s1;refine⟨_,Y,_,_,_,_,_,Y,er,T.Road.cl,T.Xc,Y,c,ta,_,_,Y,fc,ft,(D6 ro bx).mono (by decide),(ON ro).mono (by decide),fun H2 d s2 fd=>k H2 d (s1.trans s2) ?_⟩;have fd:Fr H2 d (vS r x+r.toll):=fd;rw[QQ]at fd;exact fd
structure VS(t:Yt)(H:Hp)(a c:Addr)(l:Land)(f:RhRoads.Flow):Prop where
 land:WY t H a l
 ok:Zk l
 fr:Bu H c f
 len:f.length=l.roads.length
 bd:∀e,Rb 31000 (on f e)
theorem VS.up{t:Yt}{H H':Hp}{a c:Addr}{l:Land}{f:RhRoads.Flow}(h:VS t H a c l f)(s:ZY H H'):VS t H' a c l f:=⟨h.land.up s,h.ok,h.fr.up s,h.len,h.bd⟩
def vR(t:Yt):Sp:=fun vs H Q _=>∃a c l f,vs=[.ref a,.ref c]/\VS t H a c l f/\∀H' d,ZY H H'->Fr H' d (total l f)->Rb 600000 (total l f)->Q (.ref d) H'
theorem yS:ZN ["land","flow","total","road","amount"] ["land","flow"] (Z0 (top 43)):=⟨Y,Y,Y,by decide+kernel,Y,by decide+kernel,by decide+kernel⟩
theorem OJ(T:Txt K mg t):Y' P w K mg base XO 37 t.CU t.CT ["land","flow"] (vR t):=by
 have sc:=yS;refine T.spent.F.ok sc (fun vs H Q E h=>?_) (fun Yx A outer s H vs Q E hr h=>?_)
 ·obtain⟨a,c,l,f,rfl,_⟩:=h;rfl
 ·obtain⟨a,c,l,f,rfl,FA,k⟩:=h;obtain⟨la,rs,hL⟩:=FA.land;obtain⟨TU,ea⟩:=hL.obj;have ok:=FA.ok;have r9:=ok.r9;have rl:rs.length=l.roads.length:=hL.len;obtain⟨cs,J,h2,h3⟩:=FA.fr;have FY:cs.length=l.roads.length:=by rw[h2];exact FA.len
  refine⟨_,(Z5 (ZT (i:=2) sc.nd Y (Or.inl Y) (cl T.ratio (Yo T) hr (by decide) rfl (Z6 ZS (Z6 ZS Z2))))
   (Z5 (YC Zl Y (Qm Y T.Lf (Z6 (ZZ (Z 0) rfl) (Z6 (Z 1) Z2))) (V7 Y (Y0 (ZD (i:=3) sc.nd Y (Or.inl Y)) (Y0 (ZD (i:=4) sc.nd Y (Or.inl Y)) WX))) (Z1 (ZT (i:=2) sc.nd Y (Or.inl Y) (cl T.plus (UZ T) hr (by decide) rfl (Z6 (Z 2) (Z6 (cl T.times (Lc T) hr (by decide) rfl (Z6 (Z 4) (Z6 (cl T.TV (S9 T) hr (by decide) rfl (Z6 (Z 3) (Z6 (Z 4) Z2))) Z2))) Z2))))))
   (Z1 (ZP (Z 2))))),?_⟩
  refine⟨0,1,Y,by decide,fun p hp=>?_⟩;rw[BC];have s0:=ZY.new hp (.tup [.int (0:Rat).num,.int (0:Rat).den]);refine⟨_,Y,_,_,_,_,_,Y,(s0 _ _ ea),T.Land.cl,T.ZK,Y,_,Y,_,_,_,_,Y,Zz.of (s0 _ _ hL.lst),Zz.of (s0 _ _ J),?_⟩;refine MD (K:=K) (xs:=rs.map V.ref) (ys:=cs.map V.ref) (by rw[Z3,Z3,rl,FY]) (fun i σ H'=>ZY H H'/\∃c3 c4 d,σ=[some (.ref a),some (.ref c),some (.ref d),c3,c4]/\Fr H' d (sm i (fun e=>on f e*vS (rd l e) (on f e)))/\Rb (62022*i+1) (sm i (fun e=>on f e*vS (rd l e) (on f e))))
   ⟨s0,none,none,p,Y,Z4,Rb.ofInt (x:=0) (Bd.zero _) (by omega)⟩ (fun i σ H' _ q=>⟨Zz.of (q.1 _ _ hL.lst),Zz.of (q.1 _ _ J)⟩) ?_ ?_
  ·rintro i x y σ H1 H2 hx hy ⟨s1,c3,c4,d,rfl,fd,bd⟩ s2;obtain⟨ra,Xt,rfl⟩:=Yk hx;obtain⟨xa,Js,rfl⟩:=Yk hy;have hi:i<l.roads.length:=by rw[<-rl];exact(ZC.mp Xt).1
   have s3:=s1.trans s2;have ro:=ok.rd hi;have fx:=(h3 i xa Js).up s3;have bx:Rb 31000 (f.getD i 0):=FA.bd i;refine⟨_,Y,_,Y,_,Y,_,Y,ra,xa,rd l i,_,_,Y,(hL.at_ i ra Xt).up s3,ro,fx,bx.mono (by decide),fun H3 e s4 fe=>?_⟩;have bu:=D6 ro bx;refine⟨xa,e,_,_,Y,fx.up s4,fe,bx.mono (by decide),bu.mono (by decide),fun H4 g s5 fg=>?_⟩;have bm:=bx.mul bu;refine⟨d,g,_,_,Y,(fd.up s2).up (s4.trans s5),fg,bd.mono (by show 62022*i+1<=33554432;omega),bm.mono (by decide),fun H5 z s6 fz=>?_⟩;exact⟨s3.trans (s4.trans (s5.trans s6)),_,_,z,Y,fz,(bd.add bm).mono (by omega)⟩
  ·rintro σ H1 ⟨s1,c3,c4,d,rfl,fd,bd⟩;rw[Z3,rl]at fd bd;have e:total l f=sm l.roads.length (fun e=>on f e*vS (rd l e) (on f e)):=Gw l f;rw[<-e]at fd bd;exact⟨_,Y,k H1 d s1 fd (bd.mono (by omega))⟩
end
end Rw
namespace Rw
open PySem PySem.Spec PyProof.Rows L2 RR
open RhRoads (Road Land settled on total costTo)
open RoadSpec (timeOf)
structure CF(H:Hp)(d:Addr)(n:Nat)(lab:Nat->Option Rat)(B:Nat):Prop where
 ex:∃g,DI H d n g/\(∀v,lab v=none->g v=none)/\∀v q,lab v=some q->∃b,g v=some (.ref b)/\Fr H b q
 bd:∀v q,lab v=some q->Rb B q
theorem CF.up{H H':Hp}{d:Addr}{n:Nat}{lab:Nat->Option Rat}{B:Nat}(h:CF H d n lab B)(s:ZY H H'):CF H' d n lab B:=by
 obtain⟨g,J,h2,h3⟩:=h.ex;exact⟨⟨g,J.up s,h2,fun v q e=>by
  obtain⟨b,b1,b2⟩:=h3 v q e;exact⟨b,b1,b2.up s⟩⟩,h.bd⟩
theorem CF.mono{H:Hp}{d:Addr}{n:Nat}{lab:Nat->Option Rat}{B C:Nat}(h:CF H d n lab B)(k:B<=C):CF H d n lab C:=⟨h.ex,fun v q e=>(h.bd v q e).mono k⟩
theorem CF.has{H:Hp}{d:Addr}{n:Nat}{lab:Nat->Option Rat}{B:Nat}(h:CF H d n lab B)(v:Nat):∃o,R9 H d (.int v) o/\o.isSome=(lab v).isSome:=by
 obtain⟨g,J,h2,h3⟩:=h.ex;refine⟨g v,J.get v,?_⟩;cases q:lab v with
 |none=>
  rw[h2 v q];rfl
 |some c=>
  obtain⟨b,b1,_⟩:=h3 v c q;rw[b1];rfl
theorem CF.get{H:Hp}{d:Addr}{n:Nat}{lab:Nat->Option Rat}{B:Nat}(h:CF H d n lab B){v:Nat}{q:Rat}(e:lab v=some q):∃b,R9 H d (.int v) (some (.ref b))/\Fr H b q:=by
 obtain⟨g,J,h2,h3⟩:=h.ex;obtain⟨b,b1,b2⟩:=h3 v q e;exact⟨b,J.F5 b1,b2⟩
theorem CD{H:Hp}{b D:Addr}{o u:HO}{Zs:List (Key×V)}(h:H b=some o)(hD:H D=some (.dK Zs))(n:∀Zs,o≠.dK Zs):upd H D u b=some o:=by
 rw[ZW (fun q=>by rw[q,hD]at h;exact n _ (Zb h).symm)];exact h
theorem CF.put{H:Hp}{d b:Addr}{n:Nat}{lab:Nat->Option Rat}{B:Nat}{q:Rat}(h:CF H d n lab B)(hn:n<=100){v:Nat}(hv:v<n)(fb:Fr H b q)(bq:Rb B q):∃o,G7 H d (.int v) (.ref b) (upd H d o)/\CF (upd H d o) d n (RR.put lab v q) B:=by
 obtain⟨g,J,h2,h3⟩:=h.ex;obtain⟨Zs,ed⟩:=J.nS;obtain⟨o,p1,p2,p3⟩:=J.put hn hv (.ref b);refine⟨o,p1,⟨_,p3 _ Z4,fun u e=>?_,fun u c e=>?_⟩,fun u c e=>?_⟩
 ·unfold RR.put at e;by_cases z:u=v;·rw[Z7 z]at e;cases e
  ·rw[Z8 z]at e;show(if u=v then _ else g u)=none;rw[Z8 z];exact h2 u e
 ·unfold RR.put at e;show∃b',(if u=v then some (V.ref b)else g u)=some (.ref b')/\_;by_cases z:u=v
  ·rw[Z7 z]at e⊢;cases e;exact⟨b,Y,CD fb ed fun kv w=>by cases w⟩
  ·rw[Z8 z]at e⊢;obtain⟨b',b1,b2⟩:=h3 u c e;exact⟨b',b1,CD b2 ed fun kv w=>by cases w⟩
 ·unfold RR.put at e;by_cases z:u=v
  ·rw[Z7 z]at e;cases e;exact bq
  ·rw[Z8 z]at e;exact h.bd u c e
section
variable{P:Program}{w:World}{K:W.Frag}{mg:Str->Option Value}{base:Heap}{t:Yt}
def vQ(t:Yt):Sp:=fun vs H Q _=>∃a c l f,vs=[.ref a,.ref c]/\VS t H a c l f/\(∀e,e<l.roads.length->0<=on f e)/\∀H' d,ZY H H'->CF H' d l.places (costTo l false f) 3000000->Q (.ref d) H'
theorem OI:ZN ["land","flow","costs","changed","road","amount","reach"] ["land","flow"] (Z0 (top 44)):=⟨Y,Y,Y,by decide+kernel,Y,by decide+kernel,by decide+kernel⟩
theorem WW(T:Txt K mg t):Y' P w K mg base XO 38 t.Tf t.Te ["land","flow"] (vQ t):=by
 have sc:=OI;refine T.WO.F.ok sc (fun vs H Q E h=>?_) (fun Yx A outer s H vs Q E hr h=>?_)
 ·obtain⟨a,c,l,f,rfl,_⟩:=h;rfl
 ·have hu:=QK hr;obtain⟨a,c,l,f,rfl,FA,nn,k⟩:=h;obtain⟨la,rs,hL⟩:=FA.land;obtain⟨TU,ea⟩:=hL.obj;have ok:=FA.ok;have r9:=ok.r9;have p6:=ok.p6;have nk:=Vp ok false;have rl:rs.length=l.roads.length:=hL.len;obtain⟨cs,J,h2,h3⟩:=FA.fr;have FY:cs.length=l.roads.length:=by rw[h2];exact FA.len
  refine⟨_,(Z5 (ZT (i:=2) sc.nd Y (Or.inl Y) (Dy (G2 (ZZ (Z 0) rfl) (cl T.ratio (Yo T) hr (by decide) rfl (Z6 ZS (Z6 ZS Z2))) Dz) rfl rfl (by simp) (by decide)))
   (Z5 (ZT (i:=3) sc.nd Y (Or.inl Y) Kd)
   (Z5 (Vr Zl (T4 (Z 3)) (Z5 (ZT (i:=3) sc.nd Y (Or.inl Y) Kd)
   (Z1 (YC Zl Y (Qm Y T.Lf (Z6 (ZZ (Z 0) rfl) (Z6 (Z 1) Z2))) (V7 Y (Y0 (ZD (i:=4) sc.nd Y (Or.inl Y)) (Y0 (ZD (i:=5) sc.nd Y (Or.inl Y)) WX))) (Z5 (YZ (PW.pt (Vc (ZJ Vb (ZZ (Z 4) rfl) ZS (Zu _)) (VJ (Vi (Wh hu (ZZ (Z 4) rfl) (Z 2)))))) (Z1 Wj) Zv)
   (Z5 (ZT (i:=6) sc.nd Y (Or.inl Y) (cl T.plus (UZ T) hr (by decide) rfl (Z6 (WH hu (Z 2) (ZZ (Z 4) rfl) (fun _ _=>rfl)) (Z6 (cl T.QV (Sx T) hr (by decide) rfl (Z6 (Z 4) (Z6 (Z 5) Z2))) Z2))))
   (Z1 (YZ (PW.pt (Vc (Vi (Wh hu (ZZ (Z 4) rfl) (Z 2))) (VJ (T4 (cl T.less (Ir T) hr (by decide) rfl (Z6 (Z 6) (Z6 (WH hu (Z 2) (ZZ (Z 4) rfl) (fun _ _=>rfl)) Z2))))))) (Z5 (Pw hu (Z 2) (ZZ (Z 4) rfl) (Z 6) rfl)
   (Z1 (ZT (i:=3) sc.nd Y (Or.inl Y) Kd))) Zv))))))))
   (Z1 (ZP (Z 2)))))),?_⟩
  refine fun d hd=>⟨_,Y,_,_,_,_,_,Y,(Le ea hd),T.Land.cl,T.Xv,Y,0,1,Y,by decide,fun p hp=>?_⟩;rw[BC];have gY:p≠d:=fun q=>by rw[q,Z4]at hp;cases hp
  have jW:H p=none:=(ZY.new hd (.dK [])).free hp;refine⟨by rw[ZW (fun q=>gY q.symm),Z4],[(Sum.inl (l.source:Int),.ref p)],Y,(by decide:1<=15),?_⟩;generalize jV:upd (upd (upd H d (.dK [])) p (.tup [.int (0:Rat).num,.int (0:Rat).den])) d (.dK (RL [] [(Sum.inl (l.source:Int),.ref p)]))=H0 at*;have s0:ZY H H0:=by
   rw[<-jV];exact((ZY.new hd _).Zx jW _).Zx hd _
  have C0:CF H0 d l.places (RR.start l.source) 1:=by
   refine⟨⟨fun v=>if v=l.source then some (.ref p)else none,⟨[(Sum.inl (l.source:Int),.ref p)],by rw[<-jV,Z4];rfl,by simp,fun kk hk=>?_,fun v=>?_⟩,fun v e=>?_,fun v q e=>?_⟩,fun v q e=>?_⟩
   ·have hk:kk∈[(Sum.inl (l.source:Int):Key)]:=hk;rw[Zp]at hk;exact⟨l.source,ok.s,hk⟩
   ·show _=if v=l.source then some (V.ref p)else none
    by_cases q:v=l.source;·rw[Z7 q,Xj (by rw[q])]
    ·rw[Z8 q,Xi (fun z=>q (by injection z with z;omega))];rfl
   ·unfold RR.start at e;by_cases q:v=l.source;·rw[Z7 q]at e;cases e
    ·exact Z8 q
   ·unfold RR.start at e;by_cases z:v=l.source
    ·rw[Z7 z]at e;cases e;refine⟨p,Z7 z,?_⟩;show H0 p=_;rw[<-jV,ZW gY,Z4]
    ·rw[Z8 z]at e;cases e
   ·unfold RR.start at e;by_cases z:v=l.source
    ·rw[Z7 z]at e;cases e;exact Rb.ofInt (x:=0) (Bd.zero _) (by omega)
    ·rw[Z8 z]at e;cases e
  have cK:∀e,e<(Ze l false).m->(Ze l false).op e=true->0<=(Ze l false).price (on f) e:=L6 ok false nn;let N:=Ze l false
  let wt:=N.price (on f)
  let Z_:Nat->Nat->Bool->Hp->Prop:=fun r i chg H'=>ZY H H'/\∃lab,CF H' d l.places lab (31043*(9*r+i)+1)/\BF N wt lab r i/\(chg=false->B3 N wt lab i)/\(chg=true->r<l.places)
  refine⟨fun m σ H'=>(∃chg c4 c5 c6 r,σ=[some (.ref a),some (.ref c),some (.ref d),some (.bl chg),c4,c5,c6]/\m=(if chg=true then l.places+1-r else 0)/\(chg=true->r<=l.places)/\r<=7/\ZY H H'/\∃lab,CF H' d l.places lab (31043*(9*r)+1)/\BF N wt lab r 0/\(chg=false->B3 N wt lab N.m)),
   ⟨_,true,none,none,none,0,Y,Y,fun _=>Zw _,Zw _,s0,_,C0,BF.start N wt,fun z=>by cases z⟩,?_⟩
  rintro m σ H1 ⟨chg,c4,c5,c6,r,rfl,rfl,K9,r7,s1,lab,C1,B,hc⟩;cases chg with
  |false=>
   refine⟨_,Y,false,Y,YJ ⟨_,Y,k H1 d s1 ?_⟩⟩;have e:lab=costTo l false f:=by
    funext v;have key:∀c,lab v=some c↔costTo l false f v=some c:=fun c=>(B.dist (hc Y) v c).trans (Um ok false nn).symm;cases q:lab v with
    |some x=>exact ((key x).mp q).symm
    |none=>
     cases q2:costTo l false f v with
     |none=>rfl
     |some x=>rw [(key x).mpr q2]at q;cases q
   rw[<-e];exact C1.mono (by omega)
  |true=>
   refine⟨_,Y,true,Y,Y2 ?_⟩;have dq:=K9 rfl;refine⟨fun XQ Iu=>∃m',m'<(if true=true then l.places+1-r else 0)/\(∃chg c4 c5 c6 r,XQ=[some (.ref a),some (.ref c),some (.ref d),some (.bl chg),c4,c5,c6]/\m'=(if chg=true then l.places+1-r else 0)/\(chg=true->r<=l.places)/\r<=7/\ZY H Iu/\∃lab,CF Iu d l.places lab (31043*(9*r)+1)/\BF N wt lab r 0/\(chg=false->B3 N wt lab N.m)),fun _ _ h=>h,?_⟩;refine⟨_,Y,_,_,_,_,_,Y,(s1 _ _ ea),T.Land.cl,T.ZK,Y,_,Y,_,_,_,_,Y,Zz.of (s1 _ _ hL.lst),Zz.of (s1 _ _ J),?_⟩;refine MD (K:=K) (xs:=rs.map V.ref) (ys:=cs.map V.ref) (by rw[Z3,Z3,rl,FY]) (fun i σ H'=>(∃chg c4 c5 c6,σ=[some (.ref a),some (.ref c),some (.ref d),some (.bl chg),c4,c5,c6]/\Z_ r i chg H')) ⟨false,_,_,_,Y,s1,lab,C1,B,fun _=>B3.zero,fun z=>by cases z⟩ (fun i σ H' _ q=>by
    obtain⟨_,_,_,_,_,o,_⟩:=q;exact⟨Zz.of (o _ _ hL.lst),Zz.of (o _ _ J)⟩) ?_ ?_
   ·rintro i x y σ H2 H3 hx hy ⟨chg,c4,c5,c6,rfl,s2,lab,C2,B,hc,hn⟩ s3;obtain⟨ra,Xt,rfl⟩:=Yk hx;obtain⟨xa,Js,rfl⟩:=Yk hy;have hi:i<l.roads.length:=by rw[<-rl];exact(ZC.mp Xt).1
    have s4:=s2.trans s3;have C3:=C2.up s3;have ro:=ok.rd hi;have hR:=(hL.at_ i ra Xt).up s4;obtain⟨ta,⟨dr,er⟩,ft⟩:=hR;have fx:=(h3 i xa Js).up s4;have bx:Rb 31000 (f.getD i 0):=FA.bd i;have Bi:31043*(9*r+i)+1<=31043*(9*r+(i+1))+1:=by omega
    refine⟨_,Y,_,_,_,_,_,Y,er,T.Road.cl,T.X0,Y,Y,_,Y,?_⟩;rw[Jt];cases hs:(rd l i).shut with
    |true=>
     have ho:N.op i=false:=by show(!(rd l i).shut)=false;rw[hs];rfl
     exact Y2 (Y2 ⟨chg,_,_,_,Y,s4,lab,C3.mono Bi,B.skip (.inl ho),fun z=>(hc z).skip (.inl ho),hn⟩)
    |false=>
     have ho:N.op i=true:=by show(!(rd l i).shut)=true;rw[hs];rfl
     obtain⟨o1,g1,g2⟩:=C3.has (rd l i).from_;refine YJ ⟨_,Y,_,_,_,_,_,Y,er,T.Road.cl,T.Yc,Y,_,Y,d,_,Y,g1,_,Y,?_⟩;rw[g2];cases q1:lab (rd l i).from_ with
     |none=>exact Y2 ⟨chg,_,_,_,Y,s4,lab,C3.mono Bi,B.skip (.inr q1),fun z=>(hc z).skip (.inr q1),hn⟩
     |some ca=>
      obtain⟨ba,jU,jT⟩:=C3.get q1;have nF:=C3.bd _ _ q1;have big:31043*(9*r+i)+1<=Hz:=by show 31043*(9*r+i)+1<=33554432;omega
      refine YJ ⟨_,Y,_,Y,_,_,_,_,_,Y,er,T.Road.cl,T.Yc,Y,d,_,Y,jU,_,Y,_,Y,ra,xa,rd l i,_,_,Y,⟨ta,⟨dr,er⟩,ft⟩,ro,fx,bx.mono (by decide),fun H4 pb s5 fp=>?_⟩;have bp:Rb 31042 ((rd l i).price false (f.getD i 0)):=by
       rw[<-QQ];exact K2 ro bx
      refine⟨ba,pb,_,_,Y,jT.up s5,fp,nF.mono big,bp.mono (by decide),fun H5 rb s6 fr=>?_⟩;have Bt:=s5.trans s6;have fr:Fr H5 rb (ca+wt i):=fr;have br:Rb (31043*(9*r+(i+1))+1) (ca+wt i):=(nF.add bp).mono (by omega);have C5:=(C3.up Bt).mono Bi;have nE:=s4.trans Bt;have nB:=Bt _ _ er;obtain⟨o2,g3,g4⟩:=C5.has (rd l i).to_;refine⟨_,Y,_,_,_,_,_,Y,nB,T.Road.cl,T.YA,Y,_,Y,d,_,Y,g3,_,Y,?_⟩;rw[g4];have hv:(rd l i).to_<l.places:=ro.t;have yX:(∀x,lab (rd l i).to_=some x->ca+wt i<x)->∃o,G7 H5 d (.int (rd l i).to_) (.ref rb) (upd H5 d o)/\Z_ r (i+1) true (upd H5 d o):=by
       intro hm;obtain⟨o,p1,p2⟩:=C5.put (by omega) hv fr br;refine⟨o,p1,nE.Zx hd _,_,p2,B.put (show i<N.m from hi) ho q1 hm,fun z=>(by cases z),fun _=>?_⟩;by_cases q:r<l.places;·exact q
       ·obtain⟨x,x1,x2⟩:=B.done nk cK (show l.places<=r by omega) (show i<N.m from hi) ho q1;have:=hm x x1;have x2:x<=ca+wt i:=x2;exact absurd this (Rat.not_lt.mpr x2)
      cases q2:lab (rd l i).to_ with
      |none=>
       obtain⟨o,p1,p2⟩:=yX fun x hx=>by rw[q2]at hx;cases hx
       exact Y2 (Y2 ⟨_,Y,_,Y,_,Y,_,_,_,_,_,Y,nB,T.Road.cl,T.YA,Y,d,_,Y,p1,true,_,_,_,Y,p2⟩)
      |some cb=>
       obtain⟨bb,jS,jR⟩:=C5.get q2;have cJ:=C5.bd _ _ q2;refine YJ ⟨_,Y,_,Y,_,Y,_,_,_,_,_,Y,nB,T.Road.cl,T.YA,Y,d,_,Y,jS,rb,bb,_,_,Y,fr,jR,br.mono (by show 31043*(9*r+(i+1))+1<=33554432;omega),cJ.mono (by show 31043*(9*r+(i+1))+1<=33554432;omega),_,Y,Ws (fun cc=>?_) (fun cc=>?_)⟩
       ·obtain⟨o,p1,p2⟩:=yX fun x hx=>by rw[q2]at hx;cases hx;exact ZG cc
        exact⟨_,Y,_,Y,_,Y,_,_,_,_,_,Y,nB,T.Road.cl,T.YA,Y,d,_,Y,p1,true,_,_,_,Y,p2⟩
       ·have cc:¬ca+wt i<cb:=fun q=>cc (ZR q);have le:cb<=ca+wt i:=Rat.not_lt.mp cc;exact⟨chg,_,_,_,Y,nE,lab,C5,B.keep q1 q2 le,fun z=>(hc z).keep q1 q2 le,hn⟩
   ·rintro σ H2 ⟨chg,c4,c5,c6,rfl,s2,lab,C2,B,hc,hn⟩;rw[Z3,rl]at C2 B hc;refine⟨_,?_,chg,_,_,_,r+1,Y,Y,fun z=>by have:=hn z;omega,?_,s2,lab,C2.mono (by omega),BF.next (N:=N) B,hc⟩
    ·rw[Z7 rfl];cases chg with
     |true=>rw [Z7 rfl];have:=hn rfl;omega
     |false=>rw [Z8 (by simp)];omega
    ·omega
def yR(H:Hp)(l:Land)(Q:VK):Prop:=(∀H',ZY H H'->timeOf l=none->Q .Xs H')/\∀H' c q,ZY H H'->Fr H' c q->timeOf l=some q->Rb 3000000 q->Q (.ref c) H'
def D5(t:Yt):Sp:=fun vs H Q _=>∃a l,vs=[.ref a]/\WY t H a l/\Zk l/\yR H l Q
theorem OH{l:Land}(ok:Zk l){all:Bool}{f:RhRoads.Flow}(h:settled l all=some f):∀e,e<l.roads.length->0<=on f e:=fun e he=>(YY ok h).2.1.nn e he
theorem QP{l:Land}(ok:Zk l){f:RhRoads.Flow}(h:settled l false=some f):∃q,costTo l false f l.goal=some q/\timeOf l=some q:=by
 obtain⟨q,hq⟩:=WR ok false (OH ok h) ((YY ok h).2.reach (Vp ok false));refine⟨q,hq,?_⟩;unfold timeOf;rw[h];exact hq
theorem Ia:ZN ["land","flow"] ["land"] (Z0 (top 45)):=⟨Y,Y,Y,by decide+kernel,Y,by decide+kernel,by decide+kernel⟩
theorem UX(T:Txt K mg t):Y' P w K mg base XO 41 t.NK t.NJ ["land"] (D5 t):=by
 have sc:=Ia;refine T.Ta.F.ok sc (fun vs H Q E h=>?_) (fun Yx A outer s H vs Q E hr h=>?_)
 ·obtain⟨a,l,rfl,_⟩:=h;rfl
 ·have hu:=QK hr;obtain⟨a,l,rfl,hL,ok,kn,k⟩:=h;refine⟨_,(Z5 (ZT (i:=1) sc.nd Y (Or.inl Y) (cl T.Xy (X9 T) hr (by decide) rfl (Z6 (Z 0) Z2)))
   (Z5 (YZ (ZJ Vh (Z 1) XW (Zu _)) (Z1 (ZP XW)) Zv)
   (Z1 (ZP (WH hu (cl T.WO (WW T) hr (by decide) rfl (Z6 (Z 0) (Z6 (Z 1) Z2))) (ZZ (Z 0) rfl) (fun _ _=>rfl)))))),?_⟩
  refine⟨_,Y,a,l,Y,hL,ok,fun H1 s1 e _=>?_,fun H1 c f s1 hf e bf=>?_⟩
  ·refine⟨_,Y,Y,_,Y,Y2 (kn H1 s1 ?_)⟩;unfold timeOf;rw[e];rfl
  ·refine⟨_,Y,Y,_,Y,YJ ?_⟩;have FA:VS t H1 a c l f:=⟨hL.up s1,ok,hf,(YY ok e).1,bf⟩;refine⟨_,Y,_,Y,a,c,l,f,Y,FA,OH ok e,fun H2 d s2 C=>?_⟩;obtain⟨la,rs,Fi⟩:=hL.up (s1.trans s2);obtain⟨TU,ea⟩:=Fi.obj;obtain⟨q,hq,ht⟩:=QP ok e;obtain⟨b,b1,b2⟩:=C.get hq;exact⟨_,Y,_,_,_,_,_,Y,ea,T.Land.cl,T.Xb,Y,d,_,Y,b1,k H2 b q (s1.trans s2) b2 ht (C.bd _ _ hq)⟩
def FU(t:Yt):Sp:=fun vs H Q _=>∃a c l f,vs=[.ref a,.ref c]/\VS t H a c l f/\∀H' d,ZY H H'->Bu H' d ((List.range l.roads.length).map fun e=>((rd l e).slope:Rat)*on f e)->Q (.ref d) H'
theorem Ky:ZN ["land","best","road","amount"] ["land","best"] (Z0 (top 46)):=⟨Y,Y,Y,by decide+kernel,Y,by decide+kernel,by decide+kernel⟩
theorem Kx(T:Txt K mg t):Y' P w K mg base XO 36 t.Pd t.Pc ["land","best"] (FU t):=by
 have sc:=Ky;refine T.Ln.F.ok sc (fun vs H Q E h=>?_) (fun Yx A outer s H vs Q E hr h=>?_)
 ·obtain⟨a,c,l,f,rfl,_⟩:=h;rfl
 ·obtain⟨a,c,l,f,rfl,FA,k⟩:=h;obtain⟨la,rs,hL⟩:=FA.land;obtain⟨TU,ea⟩:=hL.obj;have ok:=FA.ok;have r9:=ok.r9;have rl:rs.length=l.roads.length:=hL.len;obtain⟨cs,J,h2,h3⟩:=FA.fr;have FY:cs.length=l.roads.length:=by rw[h2];exact FA.len
  refine⟨_,(Z1 (ZP (Sr Y sc.nd (Qm Y T.Lf (Z6 (ZZ (Z 0) rfl) (Z6 (Z 1) Z2))) (YB (own:=[("road",2),("amount",3)]) (show Us ["land","best","road","amount"] (Z0 (top 46)) _ _=true by decide+kernel)) (fun _ _ _ _ _=>by exact(P8 (K:=K) (i:=2) (j:=3) rfl rfl sc.nd Y rfl (Or.inl Y) (Or.inl Y))) (fun _ _ _ _ _=>by exact XS) (fun _ _ _ _ _=>by exact(cl T.times (Lc T) hr (by decide) rfl (Z6 (cl T.ratio (Yo T) hr (by decide) rfl (Z6 (U0 (K:=K) rfl (Z 2) rfl) (Z6 ZS Z2))) (Z6 (Z 3) Z2))))))),?_⟩;refine⟨_,Y,_,_,_,_,_,Y,ea,T.Land.cl,T.ZK,Y,_,Y,_,_,_,_,Y,Zz.of hL.lst,Zz.of J,fun D hD=>?_⟩;refine Eg (K:=K) (xs:=rs.map V.ref) (ys:=cs.map V.ref) (by rw[Z3,Z3,rl,FY]) (fun i H'=>ZY H H'/\S7 H' D (fun e=>((rd l e).slope:Rat)*on f e) i) ⟨ZY.new hD _,S7.nil _ Z4⟩ (fun i H' _ q=>⟨Zz.of (q.1 _ _ hL.lst),Zz.of (q.1 _ _ J)⟩) ?_ ?_
  ·rintro i x y H1 H2 hx hy ⟨s1,f1⟩ s2;obtain⟨ra,Xt,rfl⟩:=Yk hx;obtain⟨xa,Js,rfl⟩:=Yk hy;have hi:i<l.roads.length:=by rw[<-rl];exact(ZC.mp Xt).1
   have s3:=s1.trans s2;have ro:=ok.rd hi;obtain⟨ta,⟨dr,er⟩,ft⟩:=(hL.at_ i ra Xt).up s3;have fx:=(h3 i xa Js).up s3;have bx:Rb 31000 (f.getD i 0):=FA.bd i;refine⟨Y,_,Y,_,_,_,_,_,Y,er,T.Road.cl,T.Xx,Y,_,_,Y,by decide,fun p hp=>?_⟩;rw[OK];have s4:=ZY.new hp (.tup [.int ((rd l i).slope:Rat).num,.int ((rd l i).slope:Rat).den]);refine⟨_,Y,p,xa,_,_,Y,Z4,fx.up s4,(OL ro).mono (by decide),bx.mono (by decide),fun H3 q s5 fq=>?_⟩;obtain⟨acc,a1,a2,a3⟩:=((f1.up s2).up (s4.trans s5)).snoc fq (by omega);exact⟨acc,a1,a2,(s3.trans (s4.trans s5)).Zx hD _,a3⟩
  ·rintro H1 ⟨s1,f1⟩;rw[Z3,rl]at f1;exact k H1 D s1 f1.list
def isBetter(l:Land)(c:Rat)(e:Nat):Bool:=match timeOf (RoadSpec.one l e fun(x:Road)=>{x with shut:=true})with
 |some y=>decide (y<c)
 |none=>false
def yQ(t:Yt):Sp:=fun vs H Q _=>∃a b l c,vs=[.ref a,.ref b]/\WY t H a l/\Zk l/\Fr H b c/\Rb 3000000 c/\∀H' d,ZY H H'->NL H' d ((List.range l.roads.length).filter (isBetter l c))->Q (.ref d) H'
theorem K1:ZN ["land","cost","numbers","number","other"] ["land","cost"] (Z0 (top 47)):=⟨Y,Y,Y,by decide+kernel,Y,by decide+kernel,by decide+kernel⟩
theorem K0(T:Txt K mg t):Y' P w K mg base XO 42 t.QA t.Qz ["land","cost"] (yQ t):=by
 have sc:=K1;refine T.Nh.F.ok sc (fun vs H Q E h=>?_) (fun Yx A outer s H vs Q E hr h=>?_)
 ·obtain⟨a,b,l,c,rfl,_⟩:=h;rfl
 ·obtain⟨a,b,l,c,rfl,⟨la,rs,hL⟩,ok,fc,bc,k⟩:=h;obtain⟨TU,ea⟩:=hL.obj;have r9:=ok.r9;have rl:rs.length=l.roads.length:=hL.len;refine⟨_,(Z5 (ZT (i:=2) sc.nd Y (Or.inl Y) (Zy Z2))
   (Z5 (YC Zl Y (Wi Y T.T7 (Z6 (YV Zi (by rfl) T.WB YU (Z6 (ZZ (Z 0) rfl) Z2)) Z2)) (ZD (i:=3) sc.nd Y (Or.inl Y)) (Z5 (ZT (i:=4) sc.nd Y (Or.inl Y) (cl T.Ta (UX T) hr (by decide) rfl (Z6 (cl T.SJ (Sa T) hr (by decide) rfl (Z6 (Z 0) (Z6 (Z 3) Z2))) Z2)))
   (Z1 (YZ (PW.pt (Qr (ZJ MJ (Z 4) XW (Zu _)) (Q7 (T4 (cl T.less (Ir T) hr (by decide) rfl (Z6 (Z 4) (Z6 (Z 1) Z2))))))) (Z1 (Xr (Va Yf W5 WT Xk (Z 2) (Z6 (Z 3) Z2)))) Zv))))
   (Z1 (ZP (Z 2))))),?_⟩
  refine⟨Zw _,fun D hD=>?_⟩;have s0:=ZY.new hD (.lst []);refine⟨_,Y,_,_,_,_,_,Y,(s0 _ _ ea),T.Land.cl,T.ZK,Y,_,_,Y,.inl (Zz.of (s0 _ _ hL.lst)),(l.roads.length:Int),by rw[Z3,rl],by omega,by omega,?_⟩;refine Uz (n:=l.roads.length) (fun i σ H'=>(∃c3 c4,σ=[some (.ref a),some (.ref b),some (.ref D),c3,c4])/\ZY H H'/\NL H' D ((List.range i).filter (isBetter l c))) ⟨⟨none,none,Y⟩,s0,Z4⟩ ?_ ?_
  ·rintro i σ H1 hi ⟨⟨c3,c4,rfl⟩,s1,d1⟩;refine⟨_,Y,_,Y,a,l,i,Y,⟨la,rs,hL.up s1⟩,r9,hi,fun H2 b2 s2 uJ=>?_⟩;have cI:=Df ok i;have gX:isBetter l c i=false->∀H3,ZY H2 H3->NL H3 D ((List.range (i+1)).filter (isBetter l c)):=fun q H3 s3=>by
    show H3 D=_;rw[WU,Vt,YN,Z8 (by rw[q];simp)];simp only[List.filter_nil,XH];exact s3 _ _ (s2 _ _ d1)
   refine⟨b2,_,Y,uJ,cI,fun H3 s3 e=>?_,fun H3 cH q s3 fq e bq=>?_⟩
   ·refine⟨_,Y,Y,_,Y,YJ (YJ ⟨⟨_,_,Y⟩,s1.trans (s2.trans s3),gX ?_ H3 s3⟩)⟩;unfold isBetter;rw[e]
   ·refine⟨_,Y,Y,_,Y,Y2 ?_⟩;have su:=s1.trans (s2.trans s3);refine⟨_,Y,_,Y,cH,b,q,c,Y,fq,fc.up su,bq.mono (by decide),bc.mono (by decide),_,Y,Ws (fun cc=>?_) (fun cc=>?_)⟩
    ·have yes:isBetter l c i=true:=by
      unfold isBetter;rw[e];exact cc
     have d3:=s3 _ _ (s2 _ _ d1);refine⟨_,Y,.inl ⟨Y,_,Zz.of d3⟩,_,Y,D,_,_,Y,Y,d3,?_,⟨_,_,Y⟩,su.Zx hD _,?_⟩
     ·rw[Z3];have:=Wx (isBetter l c) (List.range i);rw[Zd]at this;exact YG this (Zo (show i<10 by omega) (by decide))
     ·show upd _ _ _ _=_;rw[Z4,SE,WU,Vt,YN,Z7 yes];rfl
    ·refine⟨⟨_,_,Y⟩,su,gX ?_ H3 s3⟩;unfold isBetter;rw[e];exact ZF fun z=>cc (ZR z)
  ·rintro σ H1 ⟨⟨c3,c4,rfl⟩,s1,d1⟩;exact⟨_,Y,k H1 D s1 d1⟩
end
end Rw
namespace Rw
open PySem PySem.Spec PyProof.Rows L2 RR
open RhRoads (Road Land settled on total costTo wrong sumAt due)
def sr:Option Nat->V
 |some i=>.int (i:Nat)
 |none=>.Xs
theorem CC{K:W.Frag}{H:Hp}{a:Addr}{q:Rat}(h:Fr H a q):Dp K H (.ref a) (.tuple [.int q.num,.int q.den]):=.tup (Vj.of h) (.cons (.int _) (.cons (.int _) .nil))
theorem yP(p q:Rat):PyData.eqv (.tuple [.int p.num,.int p.den]) (.tuple [.int q.num,.int q.den])=decide (p=q):=by
 have e:(p=q)↔p.num=q.num/\(p.den:Int)=q.den:=by
  constructor
  ·rintro rfl;exact⟨Y,Y⟩
  ·rintro⟨J,h2⟩;exact Rat.ext J (by omega)
 simp only[PyData.eqv,PyData.eqvAll];by_cases h:p=q
 ·obtain⟨J,h2⟩:=e.mp h;simp[h,J,h2]
 ·rw[ZF h];have:=fun z=>h (e.mpr z);by_cases J:p.num=q.num
  ·have h2:¬(p.den:Int)=q.den:=fun z=>this ⟨J,z⟩;simp[J,h2]
  ·simp[J]
theorem Na{q:Rat}(h:0<=q):0<q.num↔q≠0:=by
 constructor
 ·rintro J rfl;exact absurd J (by decide)
 ·intro J;have h2:=Tx.mpr h;have h3:q.num≠0:=fun z=>J (Rat.num_eq_zero.mp z);omega
section
variable{P:Program}{w:World}{K:W.Frag}{mg:Str->Option Value}{base:Heap}{t:Yt}
structure Rf(t:Yt)(H:Hp)(a c:Addr)(l:Land)(f:RhRoads.Flow):Prop where
 fa:VS t H a c l f
 nn:∀e,e<l.roads.length->0<=on f e
 x8:∀e,Rb 40 (on f e)
theorem Rf.up{t:Yt}{H H':Hp}{a c:Addr}{l:Land}{f:RhRoads.Flow}(h:Rf t H a c l f)(s:ZY H H'):Rf t H' a c l f:=⟨h.fa.up s,h.nn,h.x8⟩
def yO(t:Yt):Sp:=fun vs H Q _=>∃a c l f,vs=[.ref a,.ref c]/\Rf t H a c l f/\∀H',ZY H H'->Q (sr ((List.range l.roads.length).find? (MY l f))) H'
theorem Kw:ZN ["land","amounts","number","road"] ["land","amounts"] (Z0 (top 53)):=⟨Y,Y,Y,by decide+kernel,Y,by decide+kernel,by decide+kernel⟩
theorem Kv(T:Txt K mg t):Y' P w K mg base XO 33 t.Pb t.Pa ["land","amounts"] (yO t):=by
 have sc:=Kw;refine T.Lm.F.ok sc (fun vs H Q E h=>?_) (fun Yx A outer s H vs Q E hr h=>?_)
 ·obtain⟨a,c,l,f,rfl,_⟩:=h;rfl
 ·obtain⟨a,c,l,f,rfl,⟨FA,nn,x8⟩,k⟩:=h;obtain⟨la,rs,hL⟩:=FA.land;obtain⟨TU,ea⟩:=hL.obj;have ok:=FA.ok;have rl:rs.length=l.roads.length:=hL.len;obtain⟨cs,J,h2,h3⟩:=FA.fr;have FY:cs.length=l.roads.length:=by rw[h2];exact FA.len
  refine⟨_,(Z5 (YC Zl Y (Wn Y T.Vd (Z6 (ZZ (Z 0) rfl) Z2)) (V7 Y (Y0 (ZD (i:=2) sc.nd Y (Or.inl Y)) (Y0 (ZD (i:=3) sc.nd Y (Or.inl Y)) WX))) (Z1 (YZ (PW.pt (Qr (ZJ Vb (ZZ (Z 3) rfl) ZS (Zu _)) (Q7 (ZJ N3 (ZL Yr (ZL ZO (Z 1) (Z 2) (fun _ _=>rfl)) ZS (fun _ _=>rfl)) ZS (Zu _))))) (Z1 (ZP (Z 2))) Zv)))
   (Z1 (ZP XW))),?_⟩
  refine⟨_,Y,_,_,_,_,_,Y,ea,T.Land.cl,T.ZK,Y,_,_,Y,Zz.of hL.lst,?_⟩;refine Vk (K:=K) (xs:=rs.map V.ref) (fun i σ H'=>(∃c2 c3,σ=[some (.ref a),some (.ref c),c2,c3])/\ZY H H'/\∀j,j<i->MY l f j=false) ⟨⟨none,none,Y⟩,ZY.refl H,fun j hj=>by omega⟩ (fun i σ H' _ q=>Zz.of (q.2.1 _ _ hL.lst)) ?_ ?_
  ·rintro i x σ H1 H2 hx ⟨⟨c2,c3,rfl⟩,s1,O⟩ s2;obtain⟨ra,Xt,rfl⟩:=Yk hx;have hi:i<l.roads.length:=by rw[<-rl];exact(ZC.mp Xt).1
   have s3:=s1.trans s2;obtain⟨ta,⟨dr,er⟩,ft⟩:=(hL.at_ i ra Xt).up s3;have ci:i<cs.length:=by omega
   obtain⟨xa,Js⟩:∃xa,cs[i]?=some xa:=⟨cs[i],ZU ci⟩;have fx:Fr H2 xa (on f i):=(h3 i xa Js).up s3;have n0:decide (on f i<0)=false:=ZF (Rat.not_lt.mpr (nn i hi));refine⟨_,Y,_,_,_,_,_,Y,er,T.Road.cl,T.X0,Y,Y,_,Y,?_⟩;rw[Jt];have nx:MY l f i=false->(∃c2 c3,[some (V.ref a),some (.ref c),some (.int (i:Int)),some (.ref ra)]=[some (.ref a),some (.ref c),c2,c3])/\ZY H H2/\∀j,j<i+1->MY l f j=false:=fun q=>⟨⟨_,_,Y⟩,s3,fun j hj=>by
    by_cases z:j=i;·rw[z];exact q
    ·exact O j (by omega)⟩
   cases hs:(rd l i).shut with
   |false=>
    refine YJ (YJ (nx ?_));unfold MY;rw[n0,hs];rfl
   |true=>
    refine Y2 ⟨_,Y,_,Y,_,_,_,_,Y,Y,Zz.of (s3 _ _ J),YI Js,_,_,_,_,Y,Y,Vj.of fx,Y,_,_,Y,Y,_,Y,Ws (fun d=>?_) (fun d=>?_)⟩
    ·have d:=(Na (nn i hi)).mp (ZG d);refine⟨_,Y,?_⟩;have e:=Qg (p:=MY l f) hi (by unfold MY;rw[n0,hs];simpa using d) O;have:=k H2 s3;rw[e]at this;exact this
    ·have d:on f i=0:=by
      by_cases z:on f i=0;·exact z
      ·exact absurd (ZR ((Na (nn i hi)).mpr z)) d
     refine nx ?_;unfold MY;rw[n0,hs,d];rfl
  ·rintro σ H1 ⟨⟨c2,c3,rfl⟩,s1,O⟩;rw[Z3,rl]at O;have:=k H1 s1;rw[Vf O]at this;exact this
def yN(t:Yt):Sp:=fun vs H Q _=>∃a c l f,vs=[.ref a,.ref c]/\Rf t H a c l f/\∀H',ZY H H'->Q (sr ((List.range l.places).find? (KC l f))) H'
def MS(l:Land)(f:RhRoads.Flow)(i v:Nat):Rat:=sm i (fun e=>(Ze l false).inc v e*on f e)
theorem Jr(l:Land)(f:RhRoads.Flow)(i v:Nat)(h:(rd l i).from_≠(rd l i).to_):MS l f (i+1) v=if v=(rd l i).to_ then MS l f i (rd l i).to_+on f i else if v=(rd l i).from_ then MS l f i (rd l i).from_-on f i else MS l f i v:=by
 have e:MS l f (i+1) v=MS l f i v+(if(rd l i).to_=v then(1:Rat)else if(rd l i).from_=v then-1 else 0)*on f i:=rfl;rw[e];by_cases q:v=(rd l i).to_
 ·rw[Z7 q,Z7 q.symm,q];grind
 ·rw[Z8 q,Z8 (fun z=>q z.symm)];by_cases q2:v=(rd l i).from_
  ·rw[Z7 q2,Z7 q2.symm,q2];grind
  ·rw[Z8 q2,Z8 (fun z=>q2 z.symm)];grind
def wants(l:Land)(v:Nat):Int:=if v=l.goal then(l.units:Int)else if v=l.source then-(l.units:Int)else 0
theorem Bs(l:Land)(v:Nat):((wants l v:Int):Rat)=due l v:=by
 unfold wants due;split;·rw[XJ]
 ·split;·rw[Rat.intCast_neg,XJ]
  ·rfl
theorem MR:ZN ["land","amounts","gains","place","road","amount","wanted"] ["land","amounts"] (Z0 (top 54)):=⟨Y,Y,Y,by decide+kernel,Y,by decide+kernel,by decide+kernel⟩
theorem MQ(T:Txt K mg t):Y' P w K mg base XO 37 t.Ru t.Rt ["land","amounts"] (yN t):=by
 have sc:=MR;refine T.OZ.F.ok sc (fun vs H Q E h=>?_) (fun Yx A outer s H vs Q E hr h=>?_)
 ·obtain⟨a,c,l,f,rfl,_⟩:=h;rfl
 ·have Ih:=hr.units;obtain⟨a,c,l,f,rfl,⟨FA,nn,x8⟩,k⟩:=h;obtain⟨la,rs,hL⟩:=FA.land;obtain⟨TU,ea⟩:=hL.obj;have ok:=FA.ok;have r9:=ok.r9;have p6:=ok.p6;have rl:rs.length=l.roads.length:=hL.len;obtain⟨cs,J,h2,h3⟩:=FA.fr;have FY:cs.length=l.roads.length:=by rw[h2];exact FA.len
  refine⟨_,(Z5 (Vq (i:=2) rfl sc.nd Y rfl (Uq Y rfl rfl rfl) (Wi Y T.T7 (Z6 (ZZ (Z 0) rfl) Z2)) (YB (own:=[("place",3)]) (show Us ["land","amounts","gains","place","road","amount","wanted"] (Z0 (top 54)) _ _=true by decide+kernel)) (fun _ _ _ _ _=>by exact(ZD (i:=3) sc.nd Y (Or.inl Y))) (fun _ _ _ _ _=>by exact XS) (fun _ _ _ _ _=>by exact(cl T.ratio (Yo T) hr (by decide) rfl (Z6 ZS (Z6 ZS Z2)))))
   (Z5 (YC Zl Y (Qm Y T.Lf (Z6 (ZZ (Z 0) rfl) (Z6 (Z 1) Z2))) (V7 Y (Y0 (ZD (i:=4) sc.nd Y (Or.inl Y)) (Y0 (ZD (i:=5) sc.nd Y (Or.inl Y)) WX))) (Z5 (Qp (cl T.minus (F' T) hr (by decide) rfl (Z6 (ZL ZO (Z 2) (ZZ (Z 4) rfl) (fun _ _=>rfl)) (Z6 (Z 5) Z2))) (Qq (Z 2) (ZZ (Z 4) rfl) set_list))
   (Z1 (Qp (cl T.plus (UZ T) hr (by decide) rfl (Z6 (ZL ZO (Z 2) (ZZ (Z 4) rfl) (fun _ _=>rfl)) (Z6 (Z 5) Z2))) (Qq (Z 2) (ZZ (Z 4) rfl) set_list)))))
   (Z5 (ZT (i:=6) sc.nd Y (Or.inl Y) (Zg EX (Zy (Z6 ZS Z2)) (ZZ (Z 0) rfl)))
   (Z5 (Qp (Ho Mt (ZZ (Z 0) rfl)) (Qq (Z 6) (ZZ (Z 0) rfl) set_list))
   (Z5 (Qp (ZZ (Z 0) rfl) (Qq (Z 6) (ZZ (Z 0) rfl) set_list))
   (Z5 (YC Zl Y (Wi Y T.T7 (Z6 (ZZ (Z 0) rfl) Z2)) (ZD (i:=3) sc.nd Y (Or.inl Y)) (Z1 (YZ (ZJ (Jc Ih) (ZL ZO (Z 2) (Z 3) (fun _ _=>rfl)) (cl T.ratio (Yo T) hr (by decide) rfl (Z6 (ZL ZO (Z 6) (Z 3) (fun _ _=>rfl)) (Z6 ZS Z2))) (Zu _)) (Z1 (ZP (Z 3))) Zv)))
   (Z1 (ZP XW)))))))),?_⟩
  refine⟨_,Y,_,_,_,_,_,Y,ea,T.Land.cl,T.Yw,Y,(l.places:Int),Y,by omega,by omega,fun D hD=>?_⟩;refine QS (n:=l.places) (fun i H'=>ZY H H'/\S7 H' D (fun v=>MS l f 0 v) i) ⟨ZY.new hD _,S7.nil _ Z4⟩ ?_ ?_
  ·rintro i H1 hi ⟨s1,f1⟩;refine⟨Y,0,1,Y,by decide,fun p hp=>?_⟩;rw[BC];have s2:=ZY.new hp (.tup [.int (0:Rat).num,.int (0:Rat).den]);obtain⟨acc,a1,a2,a3⟩:=(f1.up s2).snoc (c:=p) (by show upd _ _ _ _=_;rw[Z4];rfl) (by omega);exact⟨acc,a1,a2,(s1.trans s2).Zx hD _,a3⟩
  ·rintro H1 ⟨s1,f1⟩;refine⟨_,Y,_,_,_,_,_,Y,(s1 _ _ ea),T.Land.cl,T.ZK,Y,_,Y,_,_,_,_,Y,Zz.of (s1 _ _ hL.lst),Zz.of (s1 _ _ J),?_⟩;refine MD (K:=K) (xs:=rs.map V.ref) (ys:=cs.map V.ref) (by rw[Z3,Z3,rl,FY]) (fun i σ H'=>(∃c3 c4 c5 c6,σ=[some (.ref a),some (.ref c),some (.ref D),c3,c4,c5,c6])/\ZY H H'/\S7 H' D (fun v=>MS l f i v) l.places/\∀v,Rb (41*i+1) (MS l f i v))
    ⟨⟨_,_,_,_,Y⟩,s1,f1,fun v=>Rb.ofInt (x:=0) (Bd.zero _) (by omega)⟩ (fun i σ H' _ q=>⟨Zz.of (q.2.1 _ _ hL.lst),Zz.of (q.2.1 _ _ J)⟩) ?_ ?_
   ·rintro i x y σ H2 H3 hx hy ⟨⟨c3,c4,c5,c6,rfl⟩,s2,f2,b2⟩ s3;obtain⟨ra,Xt,rfl⟩:=Yk hx;obtain⟨xa,Js,rfl⟩:=Yk hy;have hi:i<l.roads.length:=by rw[<-rl];exact(ZC.mp Xt).1
    have s4:=s2.trans s3;have ro:=ok.rd hi;obtain⟨ta,⟨dr,er⟩,ft⟩:=(hL.at_ i ra Xt).up s4;have fx:Fr H3 xa (on f i):=(h3 i xa Js).up s4;have bx:Rb 40 (on f i):=x8 i;obtain⟨bs,b,e1,e2,e3,e4⟩:=(f2.up s3).at_ ro.f;have g1:=b2 (rd l i).from_;refine⟨_,Y,_,Y,_,_,_,_,_,Y,er,T.Road.cl,T.Yc,Y,_,_,_,_,Y,Y,Zz.of e1,YI e3,_,Y,b,xa,_,_,Y,e4,fx,g1.mono (by show 41*i+1<=33554432;omega),bx.mono (by decide),fun H4 m s5 fm=>?_⟩;obtain⟨xs,x1,x2,x3⟩:=((f2.up s3).up s5).set fm ro.f;have nE:=s4.trans s5;refine⟨_,Y,_,Y,_,_,_,_,_,Y,(s5 _ _ er),T.Road.cl,T.Yc,Y,D,_,_,_,Y,Y,x1,x2,?_⟩;have i7:H D=none:=hD;have s6:ZY H (upd H4 D (.lst (xs.set (rd l i).from_ (.ref m)))):=nE.Zx hD _;obtain⟨ta',⟨ae,gW⟩,ft'⟩:=(hL.at_ i ra Xt).up s6;have cG:Fr _ xa (on f i):=(h3 i xa Js).up s6;obtain⟨yc,b',BB,e2',cF,gU⟩:=x3.at_ ro.t;have ne:(rd l i).to_≠(rd l i).from_:=fun z=>ro.ne z.symm;rw[Z8 ne]at gU;refine⟨_,Y,_,Y,_,_,_,_,_,Y,gW,T.Road.cl,T.YA,Y,_,_,_,_,Y,Y,Zz.of BB,YI cF,_,Y,b',xa,_,_,Y,gU,cG,(b2 _).mono (by show 41*i+1<=33554432;omega),bx.mono (by decide),fun H5 m' s7 cE=>?_⟩;obtain⟨x_,cD,cC,cB⟩:=(x3.up s7).set cE ro.t;refine⟨_,Y,_,Y,_,_,_,_,_,Y,(s7 _ _ gW),T.Road.cl,T.YA,Y,D,_,_,_,Y,Y,cD,cC,⟨_,_,_,_,Y⟩,(s6.trans s7).Zx hD _,cB.congr fun v hv=>?_,fun v=>?_⟩;·exact(Jr l f i v ro.ne).symm
    ·rw[Jr l f i v ro.ne];split;·exact((b2 _).add bx).mono (by omega)
     ·split;·exact((b2 _).sub bx).mono (by omega)
      ·exact(b2 v).mono (by omega)
   ·rintro σ H2 ⟨⟨c3,c4,c5,c6,rfl⟩,s2,f2,b2⟩;rw[Z3,rl]at f2 b2;refine⟨(by show 1<=sizeLine;decide),fun p hp=>?_⟩;have s3:=s2.trans (ZY.new hp (.lst [.int 0]));refine⟨_,Y,_,_,_,_,_,Y,(s3 _ _ ea),T.Land.cl,T.Yw,Y,p,_,_,Y,Y,Z4,by omega,by omega,?_,fun wl xo=>?_⟩
    ·show 1*_<=_;exact ZE (show 1*((l.places:Int)).toNat<=9 by omega) (by decide)
    have er:(List.replicate ((l.places:Int)).toNat [V.int 0]).flatten=((List.range l.places).map fun _=>(0:Int)).map V.int:=by
     rw[show((l.places:Int)).toNat=l.places by omega,Yv];refine UQ fun j=>?_;rw[List.flatten_replicate_singleton,PQ,Zf];by_cases hj:j<l.places;·rw[Z7 hj,XG hj];rfl
     ·rw[Z8 hj,YQ (by simp;omega)];rfl
    have o6:H2 wl=none:=(ZY.new hp (.lst [.int 0])).free xo;have s4:=s3.trans (ZY.new xo (.lst (List.replicate ((l.places:Int)).toNat [V.int 0]).flatten));have sF:ZY H2 (upd (upd H2 p (.lst [.int 0])) wl (.lst (List.replicate ((l.places:Int)).toNat [V.int 0]).flatten)):=(ZY.new hp _).trans (ZY.new xo _);refine⟨_,Y,_,_,_,_,_,Y,(s4 _ _ ea),T.Land.cl,T.Xw,Y,_,Y,_,Y,_,Y,_,_,_,_,_,Y,(s4 _ _ ea),T.Land.cl,T.Xv,Y,wl,_,_,l.source,Y,Y,Z4,?_,?_⟩
    ·rw[er,Z3,Z3,Zd];exact OS ok.s
    rw[er,T6,set_range ok.s];have pq:=sF.Zx o6 (.lst (((List.range l.places).map fun b=>if b=l.source then-(l.units:Int)else 0).map V.int));rw[er]at pq;have nG:=pq _ _ (s2 _ _ ea);refine⟨_,Y,_,_,_,_,_,Y,nG,T.Land.cl,T.Xw,Y,_,Y,_,Y,_,_,_,_,_,Y,nG,T.Land.cl,T.Xb,Y,wl,_,_,l.goal,Y,Y,Z4,?_,?_⟩
    ·rw[Z3,Z3,Zd];exact OS ok.t
    rw[T6,set_range ok.t];have gT:=pq.Zx o6 (.lst (((List.range l.places).map fun b=>if b=l.goal then(l.units:Int)else if b=l.source then-(l.units:Int)else 0).map V.int));have cA:=gT _ _ (s2 _ _ ea);refine⟨_,Y,_,_,_,_,_,Y,cA,T.Land.cl,T.Yw,Y,(l.places:Int),Y,by omega,by omega,?_⟩;refine Uz (n:=l.places) (fun i σ H'=>(∃c3 c4 c5,σ=[some (.ref a),some (.ref c),some (.ref D),c3,c4,c5,some (.ref wl)])/\ZY H2 H'/\IL H' wl ((List.range l.places).map (wants l))/\∀j,j<i->KC l f j=false) ⟨⟨_,_,_,Y⟩,gT,Z4,fun j hj=>by omega⟩ ?_ ?_
    ·rintro i σ H3 hi ⟨⟨c3,c4,c5,rfl⟩,s5,hW,O⟩;obtain⟨bs,b,e1,e2,e3,e4⟩:=(f2.up s5).at_ hi;refine⟨_,Y,_,Y,_,_,_,_,Y,Y,Zz.of e1,YI e3,_,Y,_,Y,_,_,_,_,Y,Y,Zz.of hW,F0 hi,_,_,Y,by decide,fun q hq=>?_⟩;rw[ED,Bs];have s6:=ZY.new hq (.tup [.int (due l i).num,.int (due l i).den]);refine⟨_,_,CC (e4.up s6),CC (q:=due l i) Z4,Y,Y,_,Y,?_⟩;rw[yP];have eb:KC l f i=!decide (MS l f l.roads.length i=due l i):=by
      unfold KC;rw[L7 l false];show(MS l f l.roads.length i !=due l i)=_;by_cases z:MS l f l.roads.length i=due l i;·rw[z];simp
      ·simp[z]
     rw[<-eb];have Bt:=s5.trans s6;cases hq:KC l f i with
     |true=>
      refine Y2 ⟨_,Y,?_⟩;have:=k _ (s2.trans Bt);rw[Qg hi hq O]at this;exact this
     |false=>
      refine YJ ⟨⟨_,_,_,Y⟩,Bt,s6 _ _ hW,fun j hj=>?_⟩;by_cases z:j=i;·rw[z];exact hq
      ·exact O j (by omega)
    ·rintro σ H3 ⟨⟨c3,c4,c5,rfl⟩,s5,hW,O⟩;have:=k H3 (s2.trans s5);rw[Vf O]at this;exact this
def yM(t:Yt):Sp:=fun vs H Q _=>∃a c l f,vs=[.ref a,.ref c]/\Rf t H a c l f/\(∀e,e<l.roads.length->(rd l e).shut=true->on f e=0)/\∀H',ZY H H'->Q (sr ((List.range l.roads.length).find? (Oq l false f))) H'
theorem Ku:ZN ["land","amounts","costs","number","road","amount"] ["land","amounts"] (Z0 (top 55)):=⟨Y,Y,Y,by decide+kernel,Y,by decide+kernel,by decide+kernel⟩
theorem Kt(T:Txt K mg t):Y' P w K mg base XO 39 t.O_ t.O9 ["land","amounts"] (yM t):=by
 have sc:=Ku;refine T.Ll.F.ok sc (fun vs H Q E h=>?_) (fun Yx A outer s H vs Q E hr h=>?_)
 ·obtain⟨a,c,l,f,rfl,_⟩:=h;rfl
 ·have Ih:=hr.units;have hu:=QK hr;obtain⟨a,c,l,f,rfl,⟨FA,nn,x8⟩,jQ,k⟩:=h;have ok:=FA.ok;obtain⟨la,rs,hL⟩:=FA.land;have rl:rs.length=l.roads.length:=hL.len;obtain⟨cs,J,h2,h3⟩:=FA.fr;have FY:cs.length=l.roads.length:=by rw[h2];exact FA.len
  refine⟨_,(Z5 (ZT (i:=2) sc.nd Y (Or.inl Y) (cl T.WO (WW T) hr (by decide) rfl (Z6 (Z 0) (Z6 (Z 1) Z2))))
   (Z5 (YC Zl Y (Wn Y T.Vd (Z6 (ZZ (Z 0) rfl) Z2)) (V7 Y (Y0 (ZD (i:=3) sc.nd Y (Or.inl Y)) (Y0 (ZD (i:=4) sc.nd Y (Or.inl Y)) WX))) (Z5 (ZT (i:=5) sc.nd Y (Or.inl Y) (ZL ZO (Z 1) (Z 3) (fun _ _=>rfl)))
   (Z5 (YZ (ZJ Vb (ZL Yr (Z 5) ZS (fun _ _=>rfl)) ZS (Zu _)) (Z1 Wj) Zv)
   (Z1 (YZ (PW.pt (Vc (Vi (Wh hu (ZZ (Z 4) rfl) (Z 2))) (VJ (ZJ (Jc Ih) (cl T.plus (UZ T) hr (by decide) rfl (Z6 (WH hu (Z 2) (ZZ (Z 4) rfl) (fun _ _=>rfl)) (Z6 (cl T.QV (Sx T) hr (by decide) rfl (Z6 (Z 4) (Z6 (Z 5) Z2))) Z2))) (WH hu (Z 2) (ZZ (Z 4) rfl) (fun _ _=>rfl)) (Zu _))))) (Z1 (ZP (Z 3))) Zv)))))
   (Z1 (ZP XW)))),?_⟩
  refine⟨_,Y,_,Y,a,c,l,f,Y,FA,nn,fun H1 d s1 C=>?_⟩;obtain⟨TU,ea⟩:=(hL.up s1).obj;refine⟨_,Y,_,_,_,_,_,Y,ea,T.Land.cl,T.ZK,Y,_,_,Y,Zz.of (s1 _ _ hL.lst),?_⟩;refine Vk (K:=K) (xs:=rs.map V.ref) (fun i σ H'=>(∃c3 c4 c5,σ=[some (.ref a),some (.ref c),some (.ref d),c3,c4,c5])/\ZY H1 H'/\∀j,j<i->Oq l false f j=false) ⟨⟨none,none,none,Y⟩,ZY.refl H1,fun j hj=>by omega⟩ (fun i σ H' _ q=>Zz.of (q.2.1 _ _ (s1 _ _ hL.lst))) ?_ ?_
  ·rintro i x σ H2 H3 hx ⟨⟨c3,c4,c5,rfl⟩,s2,O⟩ s3;obtain⟨ra,Xt,rfl⟩:=Yk hx;have hi:i<l.roads.length:=by rw[<-rl];exact(ZC.mp Xt).1
   have ro:=ok.rd hi;have s4:=s2.trans s3;have nA:=s1.trans s4;have hR:=(hL.at_ i ra Xt).up nA;have cy:=hR;obtain⟨ta,⟨dr,er⟩,ft⟩:=hR;have ci:i<cs.length:=by omega
   obtain⟨xa,Js⟩:∃xa,cs[i]?=some xa:=⟨cs[i],ZU ci⟩;have fx:Fr H3 xa (on f i):=(h3 i xa Js).up nA;have C3:=C.up s4;refine⟨_,Y,_,Y,_,_,_,_,Y,Y,Zz.of (nA _ _ J),YI Js,?_⟩;have no:Oq l false f i=false->∀H4,ZY H3 H4->(∃c3 c4 c5,[some (V.ref a),some (.ref c),some (.ref d),some (.int (i:Int)),some (.ref ra),some (.ref xa)]=[some (.ref a),some (.ref c),some (.ref d),c3,c4,c5])/\ZY H1 H4/\∀j,j<i+1->Oq l false f j=false:=fun q H4 s5=>⟨⟨_,_,_,Y⟩,s4.trans s5,fun j hj=>by
    by_cases z:j=i;·rw[z];exact q
    ·exact O j (by omega)⟩
   have yes:Oq l false f i=true->∀H4,ZY H3 H4->Q (.int (i:Nat)) H4:=fun q H4 s5=>by
    have:=k H4 (nA.trans s5);rw[Qg hi q O]at this;exact this
   refine⟨_,Y,_,_,_,_,Y,Y,Vj.of fx,Y,Y,_,Y,Ws (fun z=>?_) (fun z=>?_)⟩
   ·have z:=ZG z;injection z with z
    have z:on f i=0:=Rat.num_eq_zero.mp z;refine no ?_ H3 (ZY.refl H3);unfold Oq;rw[z];rfl
   ·have z:on f i≠0:=fun q=>z (ZR (by rw[q];rfl));have nz:(on f i !=0)=true:=by simpa using z
    have kY:(rd l i).shut=false:=by
     cases q:(rd l i).shut with
     |false=>rfl
     |true=>exact absurd (jQ i hi q) z
    obtain⟨o1,g1,g2⟩:=C3.has (rd l i).from_;refine⟨_,Y,_,_,_,_,_,Y,er,T.Road.cl,T.Yc,Y,_,Y,d,_,Y,g1,_,Y,?_⟩;rw[g2];cases q1:costTo l false f (rd l i).from_ with
    |none=>
     refine Y2 (Y2 ⟨_,Y,yes ?_ H3 (ZY.refl H3)⟩);unfold Oq;rw[nz,q1];rfl
    |some ca=>
     obtain⟨ba,jU,jT⟩:=C3.get q1;have nF:=C3.bd _ _ q1;obtain⟨cb,q2⟩:=WR ok false nn (Net.Reach.go i (show i<(Ze l false).m from hi) (by show(!(rd l i).shut)=true;rw[kY];rfl) (Po false q1));have q2:costTo l false f (rd l i).to_=some cb:=q2;refine YJ ⟨_,Y,_,Y,_,_,_,_,_,Y,er,T.Road.cl,T.Yc,Y,d,_,Y,jU,_,Y,_,Y,ra,xa,rd l i,_,_,Y,cy,ro,fx,(x8 i).mono (by decide),fun H4 pb s5 fp=>?_⟩;have bp:Rb 82 ((rd l i).price false (on f i)):=by
      rw[<-QQ];exact K2 ro (x8 i)
     refine⟨ba,pb,_,_,Y,jT.up s5,fp,nF.mono (by decide),bp.mono (by decide),fun H5 rb s6 fr=>?_⟩;have Bt:=s5.trans s6;obtain⟨bb,jS,jR⟩:=(C3.up Bt).get q2;refine⟨_,Y,_,Y,_,_,_,_,_,Y,(Bt _ _ er),T.Road.cl,T.YA,Y,d,_,Y,jS,_,_,CC fr,CC jR,Y,Y,_,Y,?_⟩;rw[yP];have eb:Oq l false f i=!decide (ca+(rd l i).price false (on f i)=cb):=by
      unfold Oq;rw[nz,q1,q2];show(true&&(ca+(rd l i).price false (on f i)!=cb))=_;by_cases zz:ca+(rd l i).price false (on f i)=cb;·rw[zz];simp
      ·simp[zz]
     rw[<-eb];cases hq:Oq l false f i with
     |true=>exact Y2 ⟨_,Y,yes hq H5 Bt⟩
     |false=>exact YJ (no hq H5 Bt)
  ·rintro σ H2 ⟨⟨c3,c4,c5,rfl⟩,s2,O⟩;rw[Z3,rl]at O;have:=k H2 (s1.trans s2);rw[Vf O]at this;exact this
def verdict(l:Land)(f:RhRoads.Flow):List Int:=match wrong l false f with
 |none=>[0]
 |some (n,x)=>[(n:Int),(x:Int)]
def vP(t:Yt):Sp:=fun vs H Q _=>∃a c l f,vs=[.ref a,.ref c]/\Rf t H a c l f/\∀H' d,H d=none->ZY H H'->IL H' d (verdict l f)->Q (.ref d) H'
theorem H_:ZN ["land","amounts","number","place"] ["land","amounts"] (Z0 (top 56)):=⟨Y,Y,Y,by decide+kernel,Y,by decide+kernel,by decide+kernel⟩
theorem HZ(T:Txt K mg t):Y' P w K mg base XO 40 t.NI t.NH ["land","amounts"] (vP t):=by
 have sc:=H_;refine T.Jw.F.ok sc (fun vs H Q E h=>?_) (fun Yx A outer s H vs Q E hr h=>?_)
 ·obtain⟨a,c,l,f,rfl,_⟩:=h;rfl
 ·obtain⟨a,c,l,f,rfl,Z_,k⟩:=h;have vd:verdict l f=match wrong l false f with
   |none=>[0]
   |some (n,x)=>[(n:Int),(x:Int)]:=rfl
  rw[zR]at vd;refine⟨_,(Z5 (ZT (i:=2) sc.nd Y (Or.inl Y) (cl T.Lm (Kv T) hr (by decide) rfl (Z6 (Z 0) (Z6 (Z 1) Z2))))
   (Z5 (YZ (ZJ MJ (Z 2) XW (Zu _)) (Z1 (ZP (Zy (Z6 (gl T.Iw) (Z6 (Z 2) Z2))))) Zv)
   (Z5 (ZT (i:=3) sc.nd Y (Or.inl Y) (cl T.OZ (MQ T) hr (by decide) rfl (Z6 (Z 0) (Z6 (Z 1) Z2))))
   (Z5 (YZ (ZJ MJ (Z 3) XW (Zu _)) (Z1 (ZP (Zy (Z6 (gl T.zw) (Z6 (Z 3) Z2))))) Zv)
   (Z5 (ZT (i:=2) sc.nd Y (Or.inl Y) (cl T.Ll (Kt T) hr (by decide) rfl (Z6 (Z 0) (Z6 (Z 1) Z2))))
   (Z5 (YZ (ZJ MJ (Z 2) XW (Zu _)) (Z1 (ZP (Zy (Z6 (gl T.Iv) (Z6 (Z 2) Z2))))) Zv)
   (Z1 (ZP (Zy (Z6 (gl T.pJ) Z2)))))))))),?_⟩
  refine⟨_,Y,_,Y,a,c,l,f,Y,Z_,fun H1 s1=>?_⟩;cases q1:(List.range l.roads.length).find? (MY l f)with
  |some e=>
   rw[q1]at vd;refine⟨_,Y,Y,_,Y,Y2 ⟨_,Y,(by show 2<=sizeLine;decide),fun p hp=>k _ p (s1.free hp) (s1.trans (ZY.new hp _)) ?_⟩⟩;rw[vd];exact Z4
  |none=>
   rw[q1]at vd;refine⟨_,Y,Y,_,Y,YJ ⟨_,Y,_,Y,a,c,l,f,Y,Z_.up s1,fun H2 s2=>?_⟩⟩;have QR:=s1.trans s2;cases q2:(List.range l.places).find? (KC l f)with
   |some e=>
    rw[q2]at vd;refine⟨_,Y,Y,_,Y,Y2 ⟨_,Y,(by show 2<=sizeLine;decide),fun p hp=>k _ p (QR.free hp) (QR.trans (ZY.new hp _)) ?_⟩⟩;rw[vd];exact Z4
   |none=>
    rw[q2]at vd;have jQ:∀e,e<l.roads.length->(rd l e).shut=true->on f e=0:=fun e he hs=>by
     have:=Wb.mp q1 e (YW.mpr he);unfold MY at this;rw[hs]at this;simp at this;exact this.2
    refine⟨_,Y,Y,_,Y,YJ ⟨_,Y,_,Y,a,c,l,f,Y,Z_.up QR,jQ,fun H3 s3=>?_⟩⟩;have CM:=QR.trans s3;cases q3:(List.range l.roads.length).find? (Oq l false f)with
    |some e=>
     rw[q3]at vd;refine⟨_,Y,Y,_,Y,Y2 ⟨_,Y,(by show 2<=sizeLine;decide),fun p hp=>k _ p (CM.free hp) (CM.trans (ZY.new hp _)) ?_⟩⟩;rw[vd];exact Z4
    |none=>
     rw[q3]at vd;refine⟨_,Y,Y,_,Y,YJ ⟨(by show 1<=sizeLine;decide),fun p hp=>k _ p (CM.free hp) (CM.trans (ZY.new hp _)) ?_⟩⟩;rw[vd];exact Z4
end
end Rw
namespace Rw
open PySem PySem.Spec PyProof.Rows L2 RR
open RhRoads (Road Land settled on total costTo ways)
def D4(l:Land)(r:List Nat):List Nat:=l.source::r.map fun e=>(rd l e).to_
theorem HY(l:Land)(r:List Nat):D4 l r=(rowAt l r).1.reverse++[(rowAt l r).2]:=by
 have:∀(r:List Nat)(p:List Nat×Nat),p.1.reverse++p.2::r.map (fun e=>(rd l e).to_)=(r.foldl (fun p e=>(p.2::p.1,(rd l e).to_)) p).1.reverse++[(r.foldl (fun p e=>(p.2::p.1,(rd l e).to_)) p).2]:=by
  intro r;induction r with
  |nil=>intro p;rfl
  |cons e r ih=>
   intro p;rw[R6,<-ih];simp
 have:=this r ([],l.source);unfold rowAt D4;exact this
theorem S8{us:List Nat}{i:Nat}{u:Nat}(h:us[i]?=some u):us.take (i+1)=us.take i++[u]:=by rw[Xp,h];rfl
section
variable{P:Program}{w:World}{K:W.Frag}{mg:Str->Option Value}{base:Heap}{t:Yt}
def yL(t:Yt):Sp:=fun vs H Q _=>∃a b l r,vs=[.ref a,.ref b]/\WY t H a l/\NL H b r/\(∀e,e∈r->e<l.roads.length)/\r.length<=10/\∀H' c,H c=none->ZY H H'->NL H' c (D4 l r)->Q (.ref c) H'
theorem N9:ZN ["land","row","number"] ["land","row"] (Z0 (top 64)):=⟨Y,Y,Y,by decide+kernel,Y,by decide+kernel,by decide+kernel⟩
theorem N8(T:Txt K mg t):Y' P w K mg base XO 33 t.Si t.Sh ["land","row"] (yL t):=by
 have sc:=N9;refine T.Qt.F.ok sc (fun vs H Q E h=>?_) (fun Yx A outer s H vs Q E hr h=>?_)
 ·obtain⟨a,b,l,r,rfl,_⟩:=h;rfl
 ·obtain⟨a,b,l,r,rfl,⟨la,rs,hL⟩,O,Xd,i4,k⟩:=h;obtain⟨TU,ea⟩:=hL.obj;have rl:rs.length=l.roads.length:=hL.len;refine⟨_,(Z1 (ZP (Zg UJ (Zy (Z6 (ZZ (Z 0) rfl) Z2)) (Sr Y sc.nd (Yy (Z 1)) (YB (own:=[("number",2)]) (show Us ["land","row","number"] (Z0 (top 64)) _ _=true by decide+kernel)) (fun _ _ _ _ _=>by exact(ZD (i:=2) sc.nd Y (Or.inl Y))) (fun _ _ _ _ _=>by exact XS) (fun _ _ _ _ _=>by exact(U0 (K:=K) rfl (ZL (zq (K:=K) rfl) (U0 (K:=K) rfl (Z 0) rfl) (Z 2) (fun _ _=>rfl)) rfl)))))),?_⟩;refine⟨_,Y,_,_,_,_,_,Y,ea,T.Land.cl,T.Xv,Y,(by show 1<=sizeLine;decide),fun p hp=>?_⟩;have s1:=ZY.new hp (.lst [.int (l.source:Int)]);refine⟨_,Y,b,Y,⟨_,Zz.of (s1 _ _ O)⟩,fun D hD=>?_⟩;have hD0:H D=none:=s1.free hD;refine Vy (K:=K) (a:=b) (xs:=r.map fun(k:Nat)=>V.int (k:Int)) (fun i H'=>ZY (upd H p (.lst [.int (l.source:Int)])) H'/\NL H' D ((r.take i).map fun e=>(rd l e).to_)) ⟨ZY.new hD _,Z4⟩ (fun i H' _ q=>Zz.of (q.1 _ _ (s1 _ _ O))) ?_ ?_
  ·rintro i x H1 hx ⟨s2,f2⟩;obtain⟨e,he,rfl⟩:=Uv hx;have el:=Xd e (Y9 he);have il:i<r.length:=(ZC.mp he).1;have s3:=s1.trans s2;obtain⟨ra,Xt⟩:∃ra,rs[e]?=some ra:=⟨rs[e]'(by omega),ZU (by omega)⟩;obtain⟨ta,⟨dr,er⟩,ft⟩:=(hL.at_ e ra Xt).up s3;refine⟨Y,_,Y,_,_,_,_,_,Y,(s3 _ _ ea),T.Land.cl,T.ZK,Y,_,Y,_,_,_,_,Y,Y,Zz.of (s3 _ _ hL.lst),YI Xt,_,_,_,_,_,Y,er,T.Road.cl,T.YA,Y,_,f2,?_,s2.Zx hD _,?_⟩
   ·rw[Z3,Z3,XE];exact YG (show min i r.length<=10 by omega) (by decide)
   ·show upd _ _ _ _=_;rw[Z4,S8 he,Y1,Y1];rfl
  ·rintro H1 ⟨s2,f2⟩;rw[Z3,X7]at f2;have s3:=s1.trans s2;refine⟨p,D,_,_,Y,Y,s2 _ _ Z4,f2,?_,fun c hc=>k _ c (s3.free hc) (s3.trans (ZY.new hc _)) ?_⟩
   ·rw[Z3,Z3];exact ZE (show 1+r.length<=11 by omega) (by decide)
   ·show upd _ _ _ _=_;rw[Z4];rfl
def vO(t:Yt):Sp:=fun vs H Q _=>∃a b l Xg v,vs=[.ref a,.ref b]/\WY t H a l/\Zk l/\NL H b (List.reverse Xg++[v])/\∀H' c,H c=none->ZY H H'->NL H' c (Yd l Xg v)->Q (.ref c) H'
def OG(l:Land)(Xg:List Nat)(v e:Nat):Bool:=!(rd l e).shut&&((rd l e).from_==v&&!(Xg.contains (rd l e).to_||(rd l e).to_==v))
theorem Ks:ZN ["land","passed","numbers","number","road"] ["land","passed"] (Z0 (top 65)):=⟨Y,Y,Y,by decide+kernel,Y,by decide+kernel,by decide+kernel⟩
theorem Kr(T:Txt K mg t):Y' P w K mg base XO 33 t.O8 t.O7 ["land","passed"] (vO t):=by
 have sc:=Ks;refine T.Lk.F.ok sc (fun vs H Q E h=>?_) (fun Yx A outer s H vs Q E hr h=>?_)
 ·obtain⟨a,b,l,Xg,v,rfl,_⟩:=h;rfl
 ·obtain⟨a,b,l,Xg,v,rfl,⟨la,rs,hL⟩,ok,O,k⟩:=h;obtain⟨TU,ea⟩:=hL.obj;have r9:=ok.r9;have rl:rs.length=l.roads.length:=hL.len;refine⟨_,(Z5 (ZT (i:=2) sc.nd Y (Or.inl Y) (Zy Z2))
   (Z5 (YC Zl Y (Wn Y T.Vd (Z6 (ZZ (Z 0) rfl) Z2)) (V7 Y (Y0 (ZD (i:=3) sc.nd Y (Or.inl Y)) (Y0 (ZD (i:=4) sc.nd Y (Or.inl Y)) WX))) (Z1 (YZ (PW.pt (Qr (ZJ Vb (ZZ (Z 4) rfl) ZS (Zu _)) (Qr (ZJ Vb (ZZ (Z 4) rfl) (ZL ZO (Z 1) (Ho Mt ZS) (fun _ _=>rfl)) (Zu _)) (Q7 (ZJ Py (ZZ (Z 4) rfl) (Z 1) rfl))))) (Z1 (Xr (Va Yf W5 WT Xk (Z 2) (Z6 (Z 3) Z2)))) Zv)))
   (Z1 (ZP (Z 2))))),?_⟩
  refine⟨Zw _,fun D hD=>?_⟩;have s0:=ZY.new hD (.lst []);refine⟨_,Y,_,_,_,_,_,Y,(s0 _ _ ea),T.Land.cl,T.ZK,Y,_,_,Y,Zz.of (s0 _ _ hL.lst),?_⟩;refine Vk (K:=K) (xs:=rs.map V.ref) (fun i σ H'=>(∃c3 c4,σ=[some (.ref a),some (.ref b),some (.ref D),c3,c4])/\ZY H H'/\NL H' D ((List.range i).filter (OG l Xg v))) ⟨⟨none,none,Y⟩,s0,Z4⟩ (fun i σ H' _ q=>Zz.of (q.2.1 _ _ hL.lst)) ?_ ?_
  ·rintro i x σ H1 H2 hx ⟨⟨c3,c4,rfl⟩,s1,d1⟩ s2;obtain⟨ra,Xt,rfl⟩:=Yk hx;have hi:i<l.roads.length:=by rw[<-rl];exact(ZC.mp Xt).1
   have s3:=s1.trans s2;obtain⟨ta,⟨dr,er⟩,ft⟩:=(hL.at_ i ra Xt).up s3;have d2:=s2 _ _ d1;have o8:=s3 _ _ O;have no:OG l Xg v i=false->(∃c3 c4,[some (V.ref a),some (.ref b),some (.ref D),some (.int (i:Int)),some (.ref ra)]=[some (.ref a),some (.ref b),some (.ref D),c3,c4])/\ZY H H2/\NL H2 D ((List.range (i+1)).filter (OG l Xg v)):=fun q=>⟨⟨_,_,Y⟩,s3,by
    show H2 D=_;rw[WU,Vt,YN,Z8 (by rw[q];simp)];simp only[List.filter_nil,XH];exact d2⟩
   refine⟨_,Y,_,_,_,_,_,Y,er,T.Road.cl,T.X0,Y,Y,_,Y,?_⟩;rw[FW];cases hs:(rd l i).shut with
   |true=>
    refine YJ (YJ (no ?_));unfold OG;rw[hs];rfl
   |false=>
    refine Y2 ⟨_,Y,_,_,_,_,_,Y,er,T.Road.cl,T.Yc,Y,_,Y,_,Y,_,_,_,_,Y,Y,Zz.of o8,(by rw[Y1];exact Hf _ _),Y,_,Y,Ws (fun c1=>?_) (fun c1=>?_)⟩
    ·have c1:(rd l i).from_=v:=by
      have:=ZG c1;injection this with this
      omega
     refine⟨_,Y,_,_,_,_,_,Y,er,T.Road.cl,T.YA,Y,_,Y,_,_,Y,.inl (Zz.of o8),Y,Ob _,_,Y,?_⟩;rw[Ii];have e:OG l Xg v i=!decide ((rd l i).to_∈Xg.reverse++[v]):=by
      unfold OG;rw[hs,c1];by_cases z:(rd l i).to_=v<;>simp[z]
     cases q:OG l Xg v i with
     |true=>
      refine rH (by rw[q]at e;exact e.symm) ⟨_,Y,.inl ⟨Y,_,Zz.of d2⟩,_,Y,D,_,_,Y,Y,d2,?_,⟨_,_,Y⟩,s3.Zx hD _,?_⟩
      ·rw[Z3];have:=Wx (OG l Xg v) (List.range i);rw[Zd]at this;exact YG this (Zo (show i<10 by omega) (by decide))
      ·show upd _ _ _ _=_;rw[Z4,SE,WU,Vt,YN,Z7 q];rfl
     |false=>exact pG (by rw[q]at e;exact e.symm) (no q)
    ·refine YJ (no ?_);have c1:¬(rd l i).from_=v:=fun q=>c1 (ZR (by rw[q]));unfold OG;simp[c1]
  ·rintro σ H1 ⟨⟨c3,c4,rfl⟩,s1,d1⟩;rw[Z3,rl]at d1;exact⟨_,Y,k H1 D hD s1 d1⟩
end
end Rw
namespace Rw
open PySem PySem.Spec PyProof.Rows L2 RR
open RhRoads (Road Land settled on total costTo ways)
def Jq:Nat->Nat
 |0=>1
 |k+1=>1+9*Jq k
theorem yK{α:Type}(g:α->Nat)(B:Nat):∀L:List α,(∀x,x∈L->g x<=B)->(L.map g).sum<=L.length*B
 |[],_=>by simp
 |x::L,h=>by
  rw[Y7,TL,Zj,Nat.succ_mul];have:=yK g B L fun y hy=>h y (Zh _ hy);have:=h x (YM ..);omega
theorem FT{l:Land}(ok:Zk l):∀(k:Nat)(Xg:List Nat)(v:Nat),below l k Xg v<=Jq k
 |0,_,_=>ZM _
 |k+1,Xg,v=>by
  show 1+((Yd l Xg v).map fun e=>below l k (v::Xg) (rd l e).to_).sum<=1+9*Jq k;have J:=yK (fun e=>below l k (v::Xg) (rd l e).to_) (Jq k) (Yd l Xg v) fun e _=>FT ok k _ _;have h2:(Yd l Xg v).length<=9:=by
   unfold Yd;refine ZE (Wx ..) ?_;rw[Zd];exact ok.r9
  have h3:=Nat.mul_le_mul_right (Jq k) h2;omega
theorem vN{l:Land}(ok:Zk l):W9 l []<=5380840:=by
 unfold W9;have h:=FT ok (l.places+1-0) (rowAt l []).1 (rowAt l []).2;have p6:=ok.p6;have key:∀n,n<=6->Jq (n+1-0)<=5380840:=by decide
 exact ZE h (key _ p6)
theorem FR{l:Land}:∀L:List (List Nat),L.length<=(L.map (W9 l)).sum
 |[]=>Zw _
 |r::L=>by
  rw[Y7,TL,Zj];have:=LW l r;have:=FR (l:=l) L;omega
structure MB(H:Hp)(D:Addr)(ra:List Addr)(rows:List (List Nat)):Prop where
 lst:H D=some (.lst (ra.map V.ref))
 len:ra.length=rows.length
 row:∀(i:Nat) r,ra[i]?=some r->NL H r (rows.getD i [])
theorem MB.up{H H':Hp}{D:Addr}{ra:List Addr}{rows:List (List Nat)}(h:MB H D ra rows)(s:ZY H H'):MB H' D ra rows:=⟨s _ _ h.lst,h.len,fun i r e=>s _ _ (h.row i r e)⟩
theorem getD_snoc{α:Type}{L:List α}{x d:α}{i:Nat}:(L++[x]).getD i d=if i<L.length then L.getD i d else if i=L.length then x else d:=by
 rw[ZX,ZX];by_cases h:i<L.length;·rw[Z7 h,V_ h]
 ·rw[Z8 h,UO (by omega)];by_cases q:i=L.length
  ·rw[Z7 q,q];simp
  ·rw[Z8 q,YQ (by simp;omega)];rfl
theorem MB.off{H:Hp}{D X:Addr}{o:HO}{ra:List Addr}{rows:List (List Nat)}(h:MB H D ra rows)(n:D≠X)(nx:X∉ra):MB (upd H X o) D ra rows:=⟨by rw[ZW n];exact h.lst,h.len,fun i r e=>by
 show upd _ _ _ _=_;rw[ZW (fun q=>nx (by rw[<-q];exact Y9 e))];exact h.row i r e⟩
theorem MB.snoc{H:Hp}{D r:Addr}{ra:List Addr}{rows:List (List Nat)}{row:List Nat}(h:MB H D ra rows)(nd:D∉ra)(hr:NL H r row)(nr:r≠D):MB (upd H D (.lst (ra.map V.ref++[.ref r]))) D (ra++[r]) (rows++[row])where
 lst:=by rw[Z4,U2]
 len:=by rw[ZI,ZI,h.len];rfl
 row:=fun i x e=>by
  show upd _ _ _ _=_;rcases U1 e with⟨z1,z2⟩|⟨z1,rfl⟩
  ·rw[ZW (fun q=>nd (by rw[<-q];exact Y9 z2)),getD_snoc,Z7 (by rw[<-h.len];exact z1)];exact h.row i x z2
  ·rw[ZW nr,getD_snoc,Z8 (by rw[z1,h.len];omega),Z7 (by rw[z1,h.len])];exact hr
theorem MB.cat{H:Hp}{D B:Addr}{ra rb:List Addr}{rows more:List (List Nat)}(h:MB H D ra rows)(g:MB H B rb more)(nd:D∉ra)(ne:D∉rb):MB (upd H D (.lst (ra.map V.ref++rb.map V.ref))) D (ra++rb) (rows++more)where
 lst:=by rw[Z4,Y1]
 len:=by rw[ZI,ZI,h.len,g.len]
 row:=fun i x e=>by
  show upd _ _ _ _=_;rw[ZW (fun q=>(by
   rcases Zm.mp (Y9 e)with z|z;·exact nd (q▸z)
   ·exact ne (q▸z)))]
  rw[ZX];by_cases hi:i<ra.length
  ·rw[V_ hi]at e;rw[V_ (by rw[<-h.len];exact hi),<-ZX];exact h.row i x e
  ·rw[UO (by omega)]at e;rw[UO (by rw[<-h.len];omega),<-ZX,<-h.len];exact g.row _ x e
theorem MB.pop{H:Hp}{D r:Addr}{ra:List Addr}{rows:List (List Nat)}{row:List Nat}(h:MB H D (ra++[r]) (rows++[row]))(nd:D∉ra++[r]):MB (upd H D (.lst ((ra++[r]).map V.ref).dropLast)) D ra rows/\NL (upd H D (.lst ((ra++[r]).map V.ref).dropLast)) r row:=by
 have hl:ra.length=rows.length:=by have:=h.len;simpa using this
 refine⟨⟨by rw[Z4,Y1];simp,hl,fun i x e=>?_⟩,?_⟩
 ·show upd _ _ _ _=_;have hi:i<ra.length:=(ZC.mp e).1;have e2:(ra++[r])[i]?=some x:=by rw[V_ hi];exact e
  rw[ZW (fun q=>nd (by rw[<-q];exact Y9 e2))];have:=h.row i x e2;rw[getD_snoc,Z7 (by omega)]at this;exact this
 ·show upd _ _ _ _=_;have e2:(ra++[r])[ra.length]?=some r:=by simp
  rw[ZW (fun q=>nd (by rw[<-q];exact Y9 e2))];have:=h.row _ r e2;rw[getD_snoc,Z8 (by omega),Z7 hl]at this;exact this
theorem CB{K:W.Frag}{H:Hp}:∀(ra:List Addr)(rows:List (List Nat)),ra.length=rows.length->(∀(i:Nat) r,ra[i]?=some r->NL H r (rows.getD i []))->NZ K H (ra.map V.ref) (rows.map fun us=>PyData.list (us.map fun(k:Nat)=>PyData.int (k:Int)))
 |[],[],_,_=>.nil
 |[],_::_,h,_=>by cases h
 |_::_,[],h,_=>by cases h
 |r::ra,us::rows,h,g=>.cons (yW (g 0 r Y)) (CB ra rows (by simpa using h) fun i x e=>by
  have:=g (i+1) x (by simpa using e);simpa using this)
theorem FQ:∀rows:List (List Nat),PyData.canLayAll0 (rows.map fun us=>PyData.list (us.map fun(k:Nat)=>PyData.int (k:Int)))=true
 |[]=>rfl
 |us::rows=>by
  rw[Y7];simp only[PyData.canLayAll0,PyData.canLay0,K5 us,FQ rows];rfl
theorem FP:∀rows:List (List Nat),PyData.depthAll (rows.map fun us=>PyData.list (us.map fun(k:Nat)=>PyData.int (k:Int)))<=1
 |[]=>by simp[PyData.depthAll]
 |us::rows=>by
  rw[Y7];simp only[PyData.depthAll,PyData.depth,K4 us];have:=FP rows;omega
theorem FO(rows:List (List Nat)):SeqAt.shaped (.list (rows.map fun us=>PyData.list (us.map fun(k:Nat)=>PyData.int (k:Int))))=true:=by
 unfold SeqAt.shaped;have J:PyData.canLay0 (.list (rows.map fun us=>PyData.list (us.map fun(k:Nat)=>PyData.int (k:Int))))=true:=by
  simp only[PyData.canLay0];exact FQ rows
 have h2:PyData.depth (.list (rows.map fun us=>PyData.list (us.map fun(k:Nat)=>PyData.int (k:Int))))<=64:=by
  simp only[PyData.depth];have:=FP rows;omega
 rw[J,ZR h2];rfl
theorem yJ(rows:List (List Nat)):PyData.eqv (.list (rows.map fun us=>PyData.list (us.map fun(k:Nat)=>PyData.int (k:Int)))) (.list [])=rows.isEmpty:=by
 cases rows with
 |nil=>simp [PyData.eqv,PyData.eqvAll]
 |cons u us=>simp [PyData.eqv,PyData.eqvAll]
theorem o5{K:W.Frag}{H:Hp}{D:Addr}{ra:List Addr}{rows:List (List Nat)}(h:MB H D ra rows):Dp K H (.ref D) (.list (rows.map fun us=>PyData.list (us.map fun(k:Nat)=>PyData.int (k:Int)))):=.lst (Zz.of h.lst) (CB ra rows h.len h.row)
def QM(r:List Nat):List Int:=r.map fun(k:Nat)=>(k:Int)
def toN(r:List Int):List Nat:=r.map Int.toNat
theorem MA(r:List Nat):toN (QM r)=r:=by
 unfold toN QM;rw[Yv];have:(Int.toNat∘fun(k:Nat)=>(k:Int))=id:=by
  funext k;simp
 rw[this,List.map_id]
theorem OF:∀p q:List Nat,W4 (QM p) (QM q)=true->before p q
 |[],_,_=>trivial
 |a::p,[],h=>by
  rw[show QM []=[]from rfl,QZ]at h;cases h
 |a::p,b::q,h=>by
  have h:(if(a:Int)=b then W4 (QM p) (QM q)else decide ((a:Int)<b))=true:=h;by_cases e:(a:Int)=b
  ·rw[Z7 e]at h;exact .inr ⟨by omega,OF p q h⟩
  ·rw[Z8 e]at h;have:=ZG h;exact .inl (by omega)
theorem Jp(r:List Nat):(QM r).map V.int=r.map fun(k:Nat)=>V.int (k:Int):=by
 unfold QM;rw[Yv];rfl
theorem FN{found:List (List Nat)}{ks:List (List Int)}(h:ks.Perm (found.map QM))(hp:ks.Pairwise (fun x y=>W4 x y=true)):∃L:List (List Nat),ks=L.map QM/\L.Perm found/\L.Pairwise before:=by
 have e:ks=(ks.map toN).map QM:=by
  rw[Yv];conv=>lhs;rw[<-List.map_id ks]
  refine V9 fun x hx=>?_;obtain⟨r,_,rfl⟩:=Zc.mp (h.mem_iff.mp hx);show QM r=QM (toN (QM r));rw[MA]
 refine⟨ks.map toN,e,?_,?_⟩
 ·have:=h.map toN;rw[Yv,show(toN∘QM)=id from funext MA,List.map_id]at this;exact this
 ·rw[e,UM]at hp;exact hp.imp fun q=>OF _ _ q
end Rw
namespace Rw
open PySem PySem.Spec PyProof.Rows L2 RR
open RhRoads (Road Land settled on total costTo ways)
theorem YR{n:Nat}(h:n<=16000000):n<sizeLine:=YG h (by decide)
section
variable{P:Program}{w:World}{K:W.Frag}{mg:Str->Option Value}{base:Heap}{t:Yt}
def sk(t:Yt):Sp:=fun vs H Q _=>∃a l,vs=[.ref a]/\WY t H a l/\Zk l/\∀H' c ra,H c=none->ZY H H'->MB H' c ra (ways l)->Q (.ref c) H'
structure yI(l:Land)(H0 H:Hp)(F S:Addr)(fa sa:List Addr)(found started:List (List Nat)):Prop where
 s:ZY H0 H
 f:MB H F fa found
 st:MB H S sa started
 ff:F∉fa
 fs:S∉fa
 sf:F∉sa
 ss:S∉sa
 p:LV l found started
 le:(started.map (W9 l)).sum<=W9 l []
theorem N7:ZN ["land","found","started","row","passed","number"] ["land"] (Z0 (top 66)):=⟨Y,Y,Y,by decide+kernel,Y,by decide+kernel,by decide+kernel⟩
theorem VA(T:Txt K mg t):Y' P w K mg base XO 34 t.Sg t.Sf ["land"] (sk t):=by
 have sc:=N7;refine T.Vu.F.ok sc (fun vs H Q E h=>?_) (fun Yx A outer s H vs Q E hr h=>?_)
 ·obtain⟨a,l,rfl,_⟩:=h;rfl
 ·have Ih:=hr.units;obtain⟨a,l,rfl,Fi,ok,k⟩:=h;have p6:=ok.p6;have r9:=ok.r9;have cx:=vN ok;refine⟨_,(Z5 (ZT (i:=1) sc.nd Y (Or.inl Y) (Zy Z2))
   (Z5 (ZT (i:=2) sc.nd Y (Or.inl Y) (Zy (Z6 (Zy Z2) Z2)))
   (Z5 (Vr Zl (ZJ (Jc Ih) (Z 2) (Zy Z2) (Zu _)) (Z5 (ZT (i:=3) sc.nd Y (Or.inr Y) (ub Yf PySem.F.slot_list_pop PySem.F.type_list_pop t9 (Z 2)))
   (Z5 (ZT (i:=4) sc.nd Y (Or.inl Y) (cl T.Qt (N8 T) hr (by decide) rfl (Z6 (Z 0) (Z6 (Z 3) Z2))))
   (Z1 (YZ (ZJ Vb (ZL ZO (Z 4) (Ho Mt ZS) (fun _ _=>rfl)) (ZZ (Z 0) rfl) (Zu _)) (Z1 (Xr (Va Yf W5 WT Xk (Z 1) (Z6 (Z 3) Z2)))) (Z1 (Xr (Va Yf TH RY Tv (Z 2) (Z6 (Sr Y sc.nd (Yy (cl T.Lk (Kr T) hr (by decide) rfl (Z6 (Z 0) (Z6 (Z 4) Z2)))) (YB (own:=[("number",5)]) (show Us ["land","found","started","row","passed","number"] (Z0 (top 66)) _ _=true by decide+kernel)) (fun _ _ _ _ _=>by exact(ZD (i:=5) sc.nd Y (Or.inl Y))) (fun _ _ _ _ _=>by exact XS) (fun _ _ _ _ _=>by exact(Zg UJ (Z 3) (Zy (Z6 (Z 5) Z2))))) Z2)))))))))
   (Z1 (ZP (YV (En Ih) (by rfl) T.zu boot_sorted (Z6 (Z 1) Z2))))))),?_⟩
  refine⟨Zw _,fun F hF=>⟨Zw _,fun r0 jP=>⟨(by show 1<=sizeLine;decide),fun S hS=>?_⟩⟩⟩;have s1:=ZY.new hF (.lst []);have s2:=ZY.new jP (.lst []);have s3:=ZY.new hS (.lst [.ref r0]);have CM:=s1.trans (s2.trans s3);have cw:F≠r0:=fun q=>by rw[<-q,Z4]at jP;cases jP
  have jO:F≠S:=ZA (s2 F _ Z4) hS;have cv:r0≠S:=fun q=>by rw[<-q,Z4]at hS;cases hS
  have gS:H S=none:=s1.free (s2.free hS);refine⟨fun m σ H'=>∃c3 c4 c5 fa sa found started,σ=[some (.ref a),some (.ref F),some (.ref S),c3,c4,c5]/\yI l H H' F S fa sa found started/\m=(started.map (W9 l)).sum,
   ⟨_,none,none,none,[],[r0],[],[[]],Y,⟨CM,⟨s3 _ _ (s2 _ _ Z4),Y,fun i r e=>by simp at e⟩,⟨Z4,Y,fun i r e=>?_⟩,by simp,by simp,by simpa using cw,by simpa using fun q=>cv q.symm,LV.start ok,by simp⟩,Y⟩,?_⟩
  ·cases i with
   |zero=>
    have e:some r0=some r:=e;cases e;exact s3 _ _ Z4
   |succ i=>simp at e
  rintro m σ H1 ⟨c3,c4,c5,fa,sa,found,started,rfl,G,rfl⟩;refine⟨_,Y,Zw _,fun q hq=>?_⟩;have sq:=ZY.new hq (.lst []);have fq:=G.f.up sq;have nt:=G.st.up sq;refine⟨_,_,o5 nt,D8 Z4,FO _,(by decide+kernel),_,Y,?_⟩;rw[yJ];have sH:=G.s.trans sq;rcases List.eq_nil_or_concat started with rfl|⟨Bf,row,rfl⟩
  ·
   refine YJ ?_;have lP:found.length<64:=by
    have:=G.p.perm.length_eq;rw[List.flatMap_nil,XH]at this;rw[this];exact Gs ok
   have cu:found.Nodup:=by
    have:=G.p.perm.nodup_iff.mpr (Es l _ _ _);rw[List.flatMap_nil,XH]at this;exact this
   refine⟨_,Y,F,fa,found.map QM,Y,Zz.of fq.lst,by rw[Z3,fq.len],fun i r e=>?_,?_,by rw[fq.len];exact lP,fun wL yd p hl hp cq jN jM=>?_⟩
   ·have hi:i<found.length:=by rw[<-fq.len];exact(ZC.mp e).1
    have:=fq.row i r e;rw[ZX,Zf,ZU hi];rw[ZX,ZU hi]at this;show _=some (HO.lst ((QM found[i]).map V.int));rw[Jp];exact this
   ·refine UM.mpr (cu.imp fun{x y} h z=>h ?_);rw[<-MA x,z,MA]
   ·obtain⟨L,rfl,Bb,uJ⟩:=FN hp cq;have eL:=EB G.p Bb uJ;subst eL;refine k _ p wL (sH.free jM) (sH.trans (ZY.new jM _)) ⟨Z4,by rw[<-hl,Z3],fun i r e=>?_⟩;have hi:i<(ways l).length:=by
     have:=(ZC.mp e).1;rw[<-hl,Z3]at this;exact this
    have J:=jN i r e;rw[ZX,Zf,ZU hi]at J;have J:upd H1 q (HO.lst []) r=some (HO.lst ((QM (ways l)[i]).map V.int)):=J;rw[Jp]at J;show upd _ _ _ _=_;rw[ZW (ZA J jM),ZX,ZU hi];exact J
  ·
   rw[List.concat_eq_append]at*;obtain⟨yH,r,rfl⟩:∃yH r,sa=yH++[r]:=by
    rcases List.eq_nil_or_concat sa with rfl|⟨yH,r,rfl⟩
    ·have:=G.st.len;simp at this
    ·exact⟨yH,r,by rw[List.concat_eq_append]⟩
   have ss:=G.ss;have sf:=G.sf;have cp:S≠F:=fun q=>jO q.symm;obtain⟨gR,jL⟩:=nt.pop ss;have jK:r≠S:=fun q=>ss (by rw[q];simp);have oZ:r≠F:=fun q=>sf (by rw[q];simp);have jJ:S∉yH:=fun q=>ss (Yu _ q);have jI:F∉yH:=fun q=>sf (Yu _ q);have f2:MB (upd (upd H1 q (.lst [])) S (.lst ((yH++[r]).map V.ref).dropLast)) F fa found:=fq.off jO G.fs;have ro:=G.p.ok row (by simp);have cg:=ro.len;refine rH (by cases Bf<;>rfl) ⟨fun XQ Iu=>∃m',m'<((Bf++[row]).map (W9 l)).sum/\∃c3 c4 c5 fa sa found started,XQ=[some (.ref a),some (.ref F),some (.ref S),c3,c4,c5]/\yI l H Iu F S fa sa found started/\m'=(started.map (W9 l)).sum,fun _ _ h=>h,?_⟩;refine⟨_,Y,.inl ⟨Y,_,Zz.of nt.lst⟩,S,_,.ref r,Y,Y,nt.lst,by simp,?_⟩;have gQ:ZY H (upd (upd H1 q (.lst [])) S (.lst ((yH++[r]).map V.ref).dropLast)):=sH.Zx gS _;generalize hH2:upd (upd H1 q (.lst [])) S (.lst ((yH++[r]).map V.ref).dropLast)=H2 at*;have uJ:=Fi.up gQ;refine⟨_,Y,_,Y,a,r,l,row,Y,uJ,jL,ro.lt,by omega,fun H3 c nc s4 hP=>?_⟩;rw[HY]at hP;have jH:=gQ.trans s4;obtain⟨la,rs,hL⟩:=Fi.up jH;obtain⟨TU,ea⟩:=hL.obj;refine⟨_,Y,_,Y,_,_,_,_,Y,Y,Zz.of hP,(by rw[Y1];exact Hf _ _),_,Y,_,_,_,_,_,Y,ea,T.Land.cl,T.Xb,Y,Y,_,Y,Ws (fun cc=>?_) (fun cc=>?_)⟩
   ·have cc:(rowAt l row).2=l.goal:=by
     have:=ZG cc;injection this with this
     omega
    have f3:=f2.up s4;refine⟨_,Y,.inl ⟨Y,_,Zz.of f3.lst⟩,_,Y,F,_,_,Y,Y,f3.lst,?_,_,JP,_,_,_,fa++[r],yH,found++[row],Bf,Y,?_,Y⟩
    ·rw[Z3,f3.len];have:=G.p.perm.length_eq;rw[ZI]at this;have:=Gs ok;exact YR (by omega)
    ·have P':=G.p.goal cc;have hFn:H F=none:=hF;refine⟨jH.Zx hF _,f3.snoc G.ff (s4 _ _ jL) oZ,(gR.up s4).off cp jI,?_,?_,jI,jJ,P',?_⟩
     ·intro z;rcases Zm.mp z with z|z;·exact G.ff z
      ·exact oZ (Zp.mp z).symm
     ·intro z;rcases Zm.mp z with z|z;·exact G.fs z
      ·exact jK (Zp.mp z).symm
     ·have:=JP (l:=l) (started:=Bf) (r:=row);have:=G.le;omega
   ·have cc:(rowAt l row).2≠l.goal:=fun z=>cc (ZR (by rw[z]));have uk:=gR.up s4;refine⟨_,Y,.inl ⟨Y,_,Zz.of uk.lst⟩,_,Y,_,Y,a,c,l,_,_,Y,⟨la,rs,hL⟩,ok,hP,fun H4 n nn s5 hN=>⟨n,Y,⟨_,Zz.of hN⟩,fun D hD=>?_⟩⟩;have qm:=uk.up s5;have f4:=(f2.up s4).up s5;have jG:=s5 _ _ (s4 _ _ jL);have fl:(Yd l (rowAt l row).1 (rowAt l row).2).length<=9:=by
     unfold Yd;refine ZE (Wx ..) ?_;rw[Zd];exact r9
    refine Vy (K:=K) (a:=n) (xs:=(Yd l (rowAt l row).1 (rowAt l row).2).map fun(k:Nat)=>V.int (k:Int)) (fun i H'=>ZY H4 H'/\∃ba:List Addr,MB H' D ba (((Yd l (rowAt l row).1 (rowAt l row).2).take i).map fun e=>row++[e])/\D∉ba/\∀b,b∈ba->H4 b=none) ⟨ZY.new hD _,[],⟨Z4,Y,fun i r e=>by simp at e⟩,by simp,by simp⟩ (fun i H' _ q=>Zz.of (q.1 _ _ hN)) ?_ ?_
    ·rintro i x H5 hx ⟨s6,ba,g1,g2,g3⟩;obtain⟨e,he,rfl⟩:=Uv hx;have il:i<(Yd l (rowAt l row).1 (rowAt l row).2).length:=(ZC.mp he).1;have jF:=s6 _ _ jG;refine⟨Y,_,Y,_,Y,(by show 1<=sizeLine;decide),fun u hu=>?_⟩;have s7:=ZY.new hu (.lst [.int (e:Int)]);refine⟨r,u,_,_,Y,Y,s7 _ _ jF,Z4,?_,fun y hy=>?_⟩
     ·rw[Z3];exact Y5 (YR (show row.length+1<=16000000 by omega))
     have s8:=ZY.new hy (.lst ((row.map fun(k:Nat)=>V.int (k:Int))++[.int (e:Int)]));have g5:=(g1.up s7).up s8;have ny:y≠D:=fun z=>by rw[z,(g1.up s7).lst]at hy;cases hy
     have cf:NL (upd (upd H5 u (.lst [.int (e:Int)])) y (.lst ((row.map fun(k:Nat)=>V.int (k:Int))++[.int (e:Int)]))) y (row++[e]):=by
      show upd _ _ _ _=_;rw[Z4,SE]
     refine⟨_,g5.lst,?_,((s6.trans s7).trans s8).Zx hD _,ba++[y],?_,?_,?_⟩
     ·rw[Z3,g5.len,Z3,XE];exact YR (by omega)
     ·have:=g5.snoc g2 cf ny;rw[S8 he,Y1];exact this
     ·intro z;rcases Zm.mp z with z|z;·exact g2 z
      ·exact ny (Zp.mp z).symm
     ·intro b O;rcases Zm.mp O with z|z;·exact g3 b z
      ·rw[Zp.mp z];exact(s6.trans s7).free hy
    ·rintro H5 ⟨s6,ba,g1,g2,g3⟩;rw[Z3,X7]at g1;have yj:=qm.up s6;have f5:=f4.up s6;have gP:S∉ba:=fun z=>by have:=g3 S z;rw[qm.lst]at this;cases this
     have b_:F∉ba:=fun z=>by have:=g3 F z;rw[f4.lst]at this;cases this
     have P':=G.p.more ok cc;have lm:=B0 (l:=l) (started:=Bf) (r:=row) (by omega);have gle:=G.le;have ln:=FR (l:=l) (Bf++(Yd l (rowAt l row).1 (rowAt l row).2).map fun e=>row++[e]);refine⟨S,D,_,_,Y,Y,yj.lst,g1.lst,?_,_,lm,_,_,_,fa,yH++ba,found,_,Y,?_,Y⟩
     ·rw[Z3,Z3,yj.len,g1.len];rw[ZI]at ln;exact Y5 (YR (by omega))
     ·refine⟨((jH.trans s5).trans s6).Zx gS _,f5.off jO G.fs,yj.cat g1 jJ gP,G.ff,G.fs,?_,?_,P',by omega⟩
      ·intro z;rcases Zm.mp z with z|z;·exact jI z
       ·exact b_ z
      ·intro z;rcases Zm.mp z with z|z;·exact jJ z
       ·exact gP z
end
end Rw
namespace Rw
open PySem PySem.Spec PyProof.Rows L2 RR
open RhRoads (Road Land settled on total costTo ways wayCost leastOn parts partsOf)
theorem D1{l:Land}{f:RhRoads.Flow}{w:List Nat}(h:∀e,e∈w->e<l.roads.length):wayCost l f w=ls w fun e=>(rd l e).price false (on f e):=by
 have:wayCost l f w=ls w fun(e:Nat)=>match l.roads[e]?with
  |some r=>r.price false (on f e)
  |none=>0:=rfl
 rw[this];refine X4 fun e he=>?_;have hl:=h e he;have e2:rd l e=l.roads[e]:=by
  show l.roads.getD e _=_;rw[ZX,ZU hl];rfl
 rw[ZU hl,e2]
section
variable{P:Program}{w:World}{K:W.Frag}{mg:Str->Option Value}{base:Heap}{t:Yt}
def Br(t:Yt):Sp:=fun vs H Q _=>∃a c b l f wy,vs=[.ref a,.ref c,.ref b]/\VS t H a c l f/\NL H b wy/\(∀e,e∈wy->e<l.roads.length)/\wy.length<=10/\∀H' d,ZY H H'->Fr H' d (wayCost l f wy)->Q (.ref d) H'
theorem FL:ZN ["land","flow","way","total","number"] ["land","flow","way"] (Z0 (top 67)):=⟨Y,Y,Y,by decide+kernel,Y,by decide+kernel,by decide+kernel⟩
theorem FK(T:Txt K mg t):Y' P w K mg base XO 38 t.LG t.LF ["land","flow","way"] (Br t):=by
 have sc:=FL;refine T.Gf.F.ok sc (fun vs H Q E h=>?_) (fun Yx A outer s H vs Q E hr h=>?_)
 ·obtain⟨a,c,b,l,f,wy,rfl,_⟩:=h;rfl
 ·obtain⟨a,c,b,l,f,wy,rfl,FA,O,Xd,w10,k⟩:=h;obtain⟨la,rs,hL⟩:=FA.land;obtain⟨TU,ea⟩:=hL.obj;have ok:=FA.ok;have rl:rs.length=l.roads.length:=hL.len;obtain⟨cs,J,h2,h3⟩:=FA.fr;have FY:cs.length=l.roads.length:=by rw[h2];exact FA.len
  let pr:Nat->Rat:=fun e=>(rd l e).price false (on f e)
  refine⟨_,(Z5 (ZT (i:=3) sc.nd Y (Or.inl Y) (cl T.ratio (Yo T) hr (by decide) rfl (Z6 ZS (Z6 ZS Z2))))
   (Z5 (YC Zl Y (Yy (Z 2)) (ZD (i:=4) sc.nd Y (Or.inl Y)) (Z1 (ZT (i:=3) sc.nd Y (Or.inl Y) (cl T.plus (UZ T) hr (by decide) rfl (Z6 (Z 3) (Z6 (cl T.QV (Sx T) hr (by decide) rfl (Z6 (ZL ZO (ZZ (Z 0) rfl) (Z 4) (fun _ _=>rfl)) (Z6 (ZL ZO (Z 1) (Z 4) (fun _ _=>rfl)) Z2))) Z2))))))
   (Z1 (ZP (Z 3))))),?_⟩
  refine⟨0,1,Y,by decide,fun p hp=>?_⟩;rw[BC];have s0:=ZY.new hp (.tup [.int (0:Rat).num,.int (0:Rat).den]);refine⟨_,Y,b,Y,⟨_,Zz.of (s0 _ _ O)⟩,?_⟩;refine XA (K:=K) (a:=b) (xs:=wy.map fun(k:Nat)=>V.int (k:Int)) (fun i σ H'=>ZY H H'/\∃c4 d,σ=[some (.ref a),some (.ref c),some (.ref b),some (.ref d),c4]/\Fr H' d (ls (wy.take i) pr)/\Rb (31043*i+1) (ls (wy.take i) pr))
   ⟨s0,none,p,Y,Z4,Rb.ofInt (x:=0) (Bd.zero _) (by omega)⟩ (fun i σ H' _ q=>Zz.of (q.1 _ _ O)) ?_ ?_
  ·rintro i x σ H1 hx ⟨s1,c4,d,rfl,fd,bd⟩;obtain⟨e,he,rfl⟩:=Uv hx;have el:=Xd e (Y9 he);have il:i<wy.length:=(ZC.mp he).1;have ro:=ok.rd el;obtain⟨ra,Xt⟩:∃ra,rs[e]?=some ra:=⟨rs[e]'(by omega),ZU (by omega)⟩;obtain⟨xa,Js⟩:∃xa,cs[e]?=some xa:=⟨cs[e]'(by omega),ZU (by omega)⟩;have fx:Fr H1 xa (on f e):=(h3 e xa Js).up s1;have bx:Rb 31000 (on f e):=FA.bd e;refine⟨_,Y,_,Y,_,_,_,_,_,Y,(s1 _ _ ea),T.Land.cl,T.ZK,Y,_,Y,_,_,_,_,Y,Y,Zz.of (s1 _ _ hL.lst),YI Xt,_,Y,_,Y,_,_,_,_,Y,Y,Zz.of (s1 _ _ J),YI Js,ra,xa,rd l e,_,_,Y,(hL.at_ e ra Xt).up s1,ro,fx,bx.mono (by decide),fun H2 g s2 fg=>?_⟩;have bp:Rb 31042 (pr e):=by
    show Rb 31042 ((rd l e).price false (on f e));rw[<-QQ];exact K2 ro bx
   refine⟨d,g,_,_,Y,fd.up s2,fg,bd.mono (by show 31043*i+1<=33554432;omega),bp.mono (by decide),fun H3 z s3 fz=>?_⟩;have et:ls (wy.take (i+1)) pr=ls (wy.take i) pr+pr e:=by
    rw[S8 he,J2,X_,TY];grind
   refine⟨s1.trans (s2.trans s3),_,z,Y,?_,?_⟩
   ·rw[et];exact fz
   ·rw[et];exact(bd.add bp).mono (by omega)
  ·rintro σ H1 ⟨s1,c4,d,rfl,fd,bd⟩;rw[Z3,X7]at fd;refine⟨_,Y,k H1 d s1 ?_⟩;rw[D1 Xd];exact fd
def vM(t:Yt):Sp:=fun vs H Q _=>∃c b f n wy B,vs=[.ref c,.ref b]/\S7 H c f n/\NL H b wy/\wy≠[]/\(∀e,e∈wy->e<n)/\(∀e,Rb B (f e))/\B<=Hz/\∀x e,e∈wy->Fr H x (f e)->(∀g,g∈wy->f e<=f g)->Q (.ref x) H
theorem FJ:ZN ["flow","way","least","number"] ["flow","way"] (Z0 (top 68)):=⟨Y,Y,Y,by decide+kernel,Y,by decide+kernel,by decide+kernel⟩
theorem FI(T:Txt K mg t):Y' P w K mg base XO 34 t.LD t.LC ["flow","way"] (vM t):=by
 have sc:=FJ;refine T.Ge.F.ok sc (fun vs H Q E h=>?_) (fun Yx A outer s H vs Q E hr h=>?_)
 ·obtain⟨c,b,f,n,wy,B,rfl,_⟩:=h;rfl
 ·obtain⟨c,b,f,n,wy,B,rfl,⟨cs,J,h2,h3⟩,O,R7,Xd,hB,bB,k⟩:=h;obtain⟨e0,wt,rfl⟩:∃e0 wt,wy=e0::wt:=by
   cases wy with
   |nil=>exact absurd rfl R7
   |cons e0 wt=>exact ⟨e0,wt,Y⟩
  have at_:∀e,e∈e0::wt->∃xa,cs[e]?=some xa/\Fr H xa (f e):=fun e he=>by
   have:=Xd e he;exact⟨cs[e]'(by omega),ZU (by omega),h3 e _ (ZU (by omega))⟩
  obtain⟨x0,b9,b8⟩:=at_ e0 (by simp);refine⟨_,(Z5 (ZT (i:=2) sc.nd Y (Or.inl Y) (ZL ZO (Z 0) (ZL ZO (Z 1) ZS (fun _ _=>rfl)) (fun _ _=>rfl)))
   (Z5 (YC Zl Y (Yy (Z 1)) (ZD (i:=3) sc.nd Y (Or.inl Y)) (Z1 (YZ (T4 (cl T.less (Ir T) hr (by decide) rfl (Z6 (ZL ZO (Z 0) (Z 3) (fun _ _=>rfl)) (Z6 (Z 2) Z2)))) (Z1 (ZT (i:=2) sc.nd Y (Or.inl Y) (ZL ZO (Z 0) (Z 3) (fun _ _=>rfl)))) Zv)))
   (Z1 (ZP (Z 2))))),?_⟩
  refine⟨_,Y,_,Y,_,_,_,.int (e0:Int),Y,Y,Zz.of O,S1 (j:=0) rfl,_,_,_,_,Y,Y,Zz.of J,YI b9,?_⟩;refine⟨_,Y,b,Y,⟨_,Zz.of O⟩,?_⟩;refine XA (K:=K) (a:=b) (xs:=(e0::wt).map fun(k:Nat)=>V.int (k:Int)) (fun i σ H'=>H'=H/\∃c3 x e,σ=[some (.ref c),some (.ref b),some (.ref x),c3]/\e∈e0::wt/\Fr H x (f e)/\∀g,g∈(e0::wt).take i->f e<=f g)
   ⟨Y,none,x0,e0,Y,by simp,b8,fun g hg=>by simp at hg⟩ (fun i σ H' _ q=>by rw[q.1];exact Zz.of O) ?_ ?_
  ·rintro i x σ H1 hx ⟨rfl,c3,y,e,rfl,he,fy,hle⟩;obtain⟨g,hg,rfl⟩:=Uv hx;have gO:=Y9 hg;obtain⟨xa,Js,gN⟩:=at_ g gO;refine⟨_,Y,_,Y,_,_,_,_,Y,Y,Zz.of J,YI Js,_,Y,xa,y,_,_,Y,gN,fy,(hB g).mono bB,(hB e).mono bB,_,Y,Ws (fun cc=>?_) (fun cc=>?_)⟩
   ·have cc:f g<f e:=ZG cc;refine⟨_,Y,_,Y,_,_,_,_,Y,Y,Zz.of J,YI Js,Y,_,xa,g,Y,gO,gN,fun u hu=>?_⟩;rw[S8 hg]at hu;rcases Zm.mp hu with z|z
    ·have:=hle u z;grind
    ·rw[Zp.mp z];exact Ym
   ·have cc:¬f g<f e:=fun z=>cc (ZR z);refine⟨Y,_,y,e,Y,he,fy,fun u hu=>?_⟩;rw[S8 hg]at hu;rcases Zm.mp hu with z|z;·exact hle u z
    ·rw[Zp.mp z];exact Rat.not_lt.mp cc
  ·rintro σ H1 ⟨rfl,c3,y,e,rfl,he,fy,hle⟩;rw[Z3,X7]at hle;exact⟨_,Y,k y e he fy hle⟩
def WD(H:Hp)(D:Addr)(ps:List (Rat×List Nat)):Prop:=∃ta:List Addr,H D=some (.lst (ta.map V.ref))/\ta.length=ps.length/\∀(i:Nat) a,ta[i]?=some a->∃x b,H a=some (.tup [.ref x,.ref b])/\Fr H x (ps.getD i (0,[])).1/\NL H b (ps.getD i (0,[])).2/\(ps.getD i (0,[])).2≠[]
theorem WD.up{H H':Hp}{D:Addr}{ps:List (Rat×List Nat)}(h:WD H D ps)(s:ZY H H'):WD H' D ps:=by
 obtain⟨ta,J,h2,h3⟩:=h;refine⟨ta,s _ _ J,h2,fun i a e=>?_⟩;obtain⟨x,b,g1,g2,g3,g4⟩:=h3 i a e;exact⟨x,b,s _ _ g1,g2.up s,s _ _ g3,g4⟩
theorem KZ{H:Hp}{b L:Addr}{wy:List Nat}{cs:List Addr}(h:NL H b wy)(ne:wy≠[])(hL:H L=some (.lst (cs.map V.ref))):b≠L:=fun q=>by
 have h:H b=some (HO.lst (wy.map fun(k:Nat)=>V.int (k:Int))):=h;rw[q,hL]at h;have h:=Zb h;injection h with h
 cases wy with
 |nil=>exact ne rfl
 |cons e wy=>
  cases cs with
  |nil=>cases h
  |cons c cs=>
   rw[Y7,Y7]at h;injection h with J _
   cases J
theorem WD.off{H:Hp}{D L:Addr}{ps:List (Rat×List Nat)}{cs:List Addr}{ys:List V}(h:WD H D ps)(n:D≠L)(hL:H L=some (.lst (cs.map V.ref))):WD (upd H L (.lst ys)) D ps:=by
 obtain⟨ta,J,h2,h3⟩:=h;refine⟨ta,by rw[ZW n];exact J,h2,fun i a e=>?_⟩;obtain⟨x,b,g1,g2,g3,g4⟩:=h3 i a e;exact⟨x,b,Xu g1 hL fun _ q=>(by cases q),Xu g2 hL fun _ q=>(by cases q),by show upd _ _ _ _=_;rw[ZW (KZ g3 g4 hL)];exact g3,g4⟩
theorem WD.snoc{H:Hp}{D a x b:Addr}{ps:List (Rat×List Nat)}{m:Rat}{wy:List Nat}{ta:List Addr}(h:WD H D ps)(ht:H D=some (.lst (ta.map V.ref)))(ha:H a=some (.tup [.ref x,.ref b]))(fx:Fr H x m)(O:NL H b wy)(ne:wy≠[]):WD (upd H D (.lst (ta.map V.ref++[.ref a]))) D (ps++[(m,wy)]):=by
 obtain⟨tb,J,h2,h3⟩:=h;have e:tb.map V.ref=ta.map V.ref:=by
  rw[J]at ht;have:=Zb ht;injection this
 have el:ta.length=tb.length:=by
  have:=congrArg List.length e;rw[Z3,Z3]at this;exact this.symm
 refine⟨tb++[a],by rw[Z4,<-e,U2],by rw[ZI,ZI,h2];rfl,fun i y hy=>?_⟩;rcases U1 hy with⟨z1,z2⟩|⟨z1,rfl⟩
 ·obtain⟨x',b',g1,g2,g3,g4⟩:=h3 i y z2;rw[getD_snoc,Z7 (by omega)];exact⟨x',b',Xu g1 J fun _ q=>(by cases q),Xu g2 J fun _ q=>(by cases q),by show upd _ _ _ _=_;rw[ZW (KZ g3 g4 J)];exact g3,g4⟩
 ·rw[getD_snoc,Z8 (by omega),Z7 (by omega)];exact⟨x,b,Xu ha J fun _ q=>(by cases q),Xu fx J fun _ q=>(by cases q),by show upd _ _ _ _=_;rw[ZW (KZ O ne J)];exact O,ne⟩
theorem M'(l:Land):∀(k:Nat)(f:RhRoads.Flow),(partsOf l k f).length<=k
 |0,_=>ZM _
 |k+1,f=>by
  unfold partsOf;split;·exact Zw _
  ·rw[Zj];have:=M' l k;exact Nat.succ_le_succ (this _)
theorem N6(l:Land)(f:RhRoads.Flow):(parts l f).length<=10:=M' l _ f
theorem oY:∀k,k<=10->31001*2^k-1<=33554432:=by decide
theorem HX{f:RhRoads.Flow}{e:Nat}(h:f.length<=e):on f e=0:=by
 unfold on;rw[ZX,YQ h];rfl
def vL(t:Yt):Sp:=fun vs H Q _=>∃a c l f,vs=[.ref a,.ref c]/\VS t H a c l f/\(∀e,e<l.roads.length->0<=on f e)/\∀H' d,ZY H H'->WD H' d (parts l f)->Q (.ref d) H'
theorem FH:ZN ["land","flow","parts","left","way","amount","number"] ["land","flow"] (Z0 (top 69)):=⟨Y,Y,Y,by decide+kernel,Y,by decide+kernel,by decide+kernel⟩
theorem FG(T:Txt K mg t):Y' P w K mg base XO 37 t.LB t.LA ["land","flow"] (vL t):=by
 have sc:=FH;refine T.Gd.F.ok sc (fun vs H Q E h=>?_) (fun Yx A outer s H vs Q E hr h=>?_)
 ·obtain⟨a,c,l,f,rfl,_⟩:=h;rfl
 ·obtain⟨a,c,l,f,rfl,FA,nn,k⟩:=h;have ok:=FA.ok;have r9:=ok.r9;obtain⟨cs,J,h2,h3⟩:=FA.fr;have FY:cs.length=l.roads.length:=by rw[h2];exact FA.len
  have gM:∀e,0<=on f e:=fun e=>by
   by_cases q:e<l.roads.length;·exact nn e q
   ·rw[HX (by rw[FA.len];omega)];exact Ym
  refine⟨_,(Z5 (ZT (i:=2) sc.nd Y (Or.inl Y) (Zy Z2))
   (Z5 (ZT (i:=3) sc.nd Y (Or.inl Y) (VI WI (by rfl) T.Od boot_list (Z6 (Z 1) Z2)))
   (Z5 (YC Zl Y (Yy (cl T.Vu (VA T) hr (by decide) rfl (Z6 (Z 0) Z2))) (ZD (i:=4) sc.nd Y (Or.inl Y)) (Z5 (ZT (i:=5) sc.nd Y (Or.inl Y) (cl T.Ge (FI T) hr (by decide) rfl (Z6 (Z 3) (Z6 (Z 4) Z2))))
   (Z5 (YZ (ZJ Vb (ZL Yr (Z 5) ZS (fun _ _=>rfl)) ZS (Zu _)) (Z1 Wj) Zv)
   (Z5 (Xr (Va Yf W5 WT Xk (Z 2) (Z6 (E7 (Z6 (Z 5) (Z6 (Z 4) Z2))) Z2)))
   (Z1 (YC Zl Y (Yy (Z 4)) (ZD (i:=6) sc.nd Y (Or.inl Y)) (Z1 (Qp (cl T.minus (F' T) hr (by decide) rfl (Z6 (ZL ZO (Z 3) (Z 6) (fun _ _=>rfl)) (Z6 (Z 5) Z2))) (Qq (Z 3) (Z 6) set_list)))))))))
   (Z1 (ZP (Z 2)))))),?_⟩
  refine⟨Zw _,fun Pp gL=>?_⟩;have s1:=ZY.new gL (.lst []);refine⟨_,Y,_,_,Y,.inl (Zz.of (s1 _ _ J)),fun L hL=>?_⟩;have s2:=ZY.new hL (.lst (cs.map V.ref));have QR:=s1.trans s2;have b7:H L=none:=s1.free hL;have gK:Pp≠L:=fun q=>by rw[<-q,Z4]at hL;cases hL
  refine⟨_,Y,a,l,Y,FA.land.up QR,ok,fun H1 W ra hW s3 R=>?_⟩;have gJ:W≠L:=fun q=>by rw[q,Z4]at hW;cases hW
  have nLW:L≠W:=fun q=>gJ q.symm;have bZ:W≠Pp:=fun q=>by
   have:=s2 Pp _ Z4;rw[q,this]at hW;cases hW
  have CM:=QR.trans s3;have L1:S7 H1 L (on f) l.roads.length:=⟨cs,s3 _ _ Z4,FY,fun j b e=>(h3 j b e).up CM⟩;have P1:WD H1 Pp []:=⟨[],s3 _ _ (s2 _ _ Z4),Y,fun i a e=>by simp at e⟩;have wm:∀wy,wy∈ways l->wy≠[]/\(∀e,e∈wy->e<l.roads.length)/\wy.Nodup:=fun wy hw=>LS ok hw;have p0:parts l f=pass (ways l) f:=EA ok FA.len gM fun wy hw=>⟨(wm wy hw).1,(wm wy hw).2.1⟩;have W0:∀H',ZY H1 H'->True:=fun _ _=>trivial;refine⟨W,Y,⟨_,Zz.of R.lst⟩,?_⟩;refine XA (K:=K) (a:=W) (xs:=ra.map V.ref) (fun i σ H'=>ZY H H'/\MB H' W ra (ways l)/\∃c4 c5 c6 A cur,σ=[some (.ref a),some (.ref c),some (.ref Pp),some (.ref L),c4,c5,c6]/\WD H' Pp A/\S7 H' L (on cur) l.roads.length/\cur.length=l.roads.length/\(∀e,0<=on cur e)/\parts l f=A++pass ((ways l).drop i) cur/\∀e,Rb (31001*2^A.length-1) (on cur e))
   ⟨CM,R,none,none,none,[],f,Y,P1,L1,FA.len,gM,p0,fun e=>(FA.bd e).mono (by show 31000<=31001*2^0-1;decide)⟩ (fun i σ H' _ q=>Zz.of q.2.1.lst) ?_ ?_
  ·rintro i x σ H2 hx ⟨s4,R2,c4,c5,c6,A,cur,rfl,P2,L2,jE,pZ,pe,rb⟩;obtain⟨b,O,rfl⟩:=Yk hx;have il:i<(ways l).length:=by rw[<-R2.len];exact(ZC.mp O).1
   have bY:(ways l).getD i []=(ways l)[i]:=by rw[ZX,ZU il];rfl
   obtain⟨wy,sj⟩:∃wy,(ways l)[i]=wy:=⟨_,Y⟩;have bX:wy∈ways l:=by rw[<-sj];exact W6 il
   obtain⟨w1,w2,w3⟩:=wm wy bX;have nb:NL H2 b wy:=by
    have:=R2.row i b O;rw[bY,sj]at this;exact this
   have dr:(ways l).drop i=wy::(ways l).drop (i+1):=by rw[List.drop_eq_getElem_cons il,sj]
   have Al:A.length<=10:=by
    have:=N6 l f;rw[pe,ZI]at this;omega
   have bk:=oY _ Al;refine⟨_,Y,_,Y,L,b,on cur,l.roads.length,wy,_,Y,L2,nb,w1,w2,rb,bk,fun xm em kK fm hle=>?_⟩;have bW:Pj cur wy (on cur em):=⟨⟨em,kK,Y⟩,hle⟩;have yF:leastOn cur wy=on cur em:=(Qi cur wy w1).uniq bW;have bV:pass (wy::(ways l).drop (i+1)) cur=if leastOn cur wy=0 then pass ((ways l).drop (i+1)) cur else(leastOn cur wy,wy)::pass ((ways l).drop (i+1)) (UG cur wy (leastOn cur wy)):=rfl
   rw[dr,bV]at pe;refine⟨_,Y,_,_,_,_,Y,Y,Vj.of fm,Y,Y,_,Y,Ws (fun z=>?_) (fun z=>?_)⟩
   ·have z:=ZG z;injection z with z
    have z:on cur em=0:=Rat.num_eq_zero.mp z;rw[Z7 (by rw[yF];exact z)]at pe;exact⟨s4,R2,_,_,_,A,cur,Y,P2,L2,jE,pZ,pe,rb⟩
   ·have z:on cur em≠0:=fun q=>z (ZR (by rw[q];rfl));rw[Z8 (by rw[yF];exact z),yF]at pe;have bU:=P2;obtain⟨ta,t1,t2,t3⟩:=bU;refine⟨_,Y,.inl ⟨Y,_,Zz.of t1⟩,_,Y,_,Y,(by show 2<=sizeLine;decide),fun tp bT=>?_⟩;have s5:=ZY.new bT (.tup [.ref xm,.ref b]);refine⟨Pp,_,_,Y,Y,s5 _ _ t1,by rw[Z3,t2];exact YR (by omega),?_⟩;have P3:=(P2.up s5).snoc (ta:=ta) (s5 _ _ t1) Z4 (fm.up s5) (s5 _ _ nb) w1;have bR:b≠Pp:=KZ nb w1 t1;have bQ:ZY H (upd (upd H2 tp (.tup [.ref xm,.ref b])) Pp (.lst (ta.map V.ref++[.ref tp]))):=(s4.trans s5).Zx gL _;have bP:Pp∉ra:=fun q=>by
     obtain⟨j,hj,bO⟩:=X8.mp q;have jl:j<(ways l).length:=by rw[<-R2.len];exact hj
     have:=R2.row j Pp (by rw[ZU hj,bO]);rw[ZX,ZU jl]at this;exact KZ this (wm _ (W6 jl)).1 t1 rfl
    have R3:=(R2.up s5).off (o:=.lst (ta.map V.ref++[.ref tp])) bZ bP;obtain⟨bN,l1,l2,l3⟩:=L2.up s5;have L3:S7 (upd (upd H2 tp (.tup [.ref xm,.ref b])) Pp (.lst (ta.map V.ref++[.ref tp]))) L (on cur) l.roads.length:=⟨bN,by rw[ZW (fun q=>gK q.symm)];exact l1,l2,fun j y e=>Xu (l3 j y e) (s5 _ _ t1) fun _ q=>(by cases q)⟩;have gI:NL (upd (upd H2 tp (.tup [.ref xm,.ref b])) Pp (.lst (ta.map V.ref++[.ref tp]))) b wy:=by
     show upd _ _ _ _=_;rw[ZW bR];exact s5 _ _ nb
    have bM:Fr (upd (upd H2 tp (.tup [.ref xm,.ref b])) Pp (.lst (ta.map V.ref++[.ref tp]))) xm (on cur em):=Xu (fm.up s5) (s5 _ _ t1) fun _ q=>(by cases q);have Al2:A.length+1<=10:=by
     have:=N6 l f;rw[pe,ZI,Zj]at this;omega
    generalize fN:upd (upd H2 tp (.tup [.ref xm,.ref b])) Pp (.lst (ta.map V.ref++[.ref tp]))=H3 at*;refine⟨_,Y,b,Y,⟨_,Zz.of gI⟩,?_⟩;refine XA (K:=K) (a:=b) (xs:=wy.map fun(k:Nat)=>V.int (k:Int)) (fun j σ H'=>ZY H H'/\MB H' W ra (ways l)/\NL H' b wy/\Fr H' xm (on cur em)/\WD H' Pp (A++[(on cur em,wy)])/\S7 H' L (fun e=>if e∈wy.take j then on cur e-on cur em else on cur e) l.roads.length/\∃c6,σ=[some (.ref a),some (.ref c),some (.ref Pp),some (.ref L),some (.ref b),some (.ref xm),c6])
     ⟨bQ,R3,gI,bM,P3,L3.congr fun j hj=>by simp,_,Y⟩ (fun j σ H' _ q=>Zz.of q.2.2.1) ?_ ?_
    ·rintro j y σ H4 hy ⟨s6,R4,jD,jC,P4,L4,bL,rfl⟩;obtain⟨e,he,rfl⟩:=Uv hy;have jB:=Y9 he;have el:=w2 e jB;have jl:j<wy.length:=(ZC.mp he).1;have jA:e∉wy.take j:=fun q=>by
      obtain⟨u,hu,gH⟩:=X8.mp q;rw[XE]at hu;rw[List.getElem_take]at gH;have h2:wy[j]=e:=by
       have:=ZU jl;rw[he]at this;exact(Zb this).symm
      have:=(List.getElem_inj w3).mp (gH.trans h2.symm);omega
     obtain⟨bs,xb,e1,e2,e3,e4⟩:=L4.at_ el;rw[Z8 jA]at e4;refine⟨_,Y,_,Y,_,_,_,_,Y,Y,Zz.of e1,YI e3,_,Y,xb,xm,_,_,Y,e4,jC,(rb e).mono bk,(rb em).mono bk,fun H5 z' s7 fz=>?_⟩;obtain⟨xs,x1,x2,x3⟩:=(L4.up s7).set fz el;refine⟨_,Y,_,Y,L,_,_,_,Y,Y,x1,x2,?_⟩;have BB:=s7 _ _ e1;have hx:bs.map V.ref=xs:=by
      rw[BB]at x1;have:=Zb x1;injection this
     subst hx;have bK:L∉ra:=fun q=>by
      obtain⟨u,hu,bJ⟩:=X8.mp q;have ul:u<(ways l).length:=by rw[<-R4.len];exact hu
      have:=R4.row u L (by rw[ZU hu,bJ]);rw[ZX,ZU ul]at this;exact KZ this (wm _ (W6 ul)).1 e1 rfl
     refine⟨(s6.trans s7).Zx b7 _,(R4.up s7).off gJ bK,?_,Xu (jC.up s7) BB fun _ q=>(by cases q),(P4.up s7).off gK BB,x3.congr fun u hu=>?_,_,Y⟩
     ·show upd _ _ _ _=_;rw[ZW (KZ jD w1 e1)];exact s7 _ _ jD
     ·rw[S8 he];by_cases q:u=e;·rw[Z7 q,Z7 (by rw[q];simp),q]
      ·rw[Z8 q];by_cases q2:u∈wy.take j;·rw[Z7 q2,Z7 (Yu _ q2)]
       ·rw[Z8 q2,Z8];intro q3;rcases Zm.mp q3 with q3|q3;·exact q2 q3
        ·exact q (Zp.mp q3)
    ·rintro σ H4 ⟨s6,R4,jD,jC,P4,L4,bL,rfl⟩;rw[Z3,X7]at L4;have jz:∀e,e<cur.length->on (UG cur wy (on cur em)) e=if e∈wy then on cur e-on cur em else on cur e:=fun e he=>JO he
     refine⟨s6,R4,_,_,_,A++[(on cur em,wy)],UG cur wy (on cur em),Y,P4,L4.congr fun e he=>(jz e (by omega)).symm,by rw[WQ];exact jE,fun e=>?_,by rw[pe,Wc];rfl,fun e=>?_⟩
     ·by_cases q:e<cur.length
      ·rw[jz e q];split
       ·rename_i hm;have:=hle e hm;grind
       ·exact pZ e
      ·rw[HX (by rw[WQ];omega)];exact Ym
     ·have e2:(A++[(on cur em,wy)]).length=A.length+1:=by simp
      have bI:0<2^A.length:=Nat.pow_pos (by omega);rw[e2,Nat.pow_succ];by_cases q:e<cur.length
      ·rw[jz e q];split;·exact((rb e).sub (rb em)).mono (by omega)
       ·exact(rb e).mono (by omega)
      ·rw[HX (by rw[WQ];omega)];exact Rb.ofInt (x:=0) (Bd.zero _) (by omega)
  ·rintro σ H2 ⟨s4,R2,c4,c5,c6,A,cur,rfl,P2,L2,jE,pZ,pe,rb⟩;rw[Z3,R2.len,List.drop_length]at pe;have pe:parts l f=A++[]:=pe;rw[XH]at pe;subst pe;exact⟨_,Y,k H2 Pp s4 P2⟩
end
end Rw
namespace Rw
open PySem PySem.Spec PyProof.Rows L2 RR
open RhRoads (Road Land settled on total costTo ways wayCost leastOn parts partsOf)
open RoadSpec (timeOf fraction fractions tells says no orNo ofFlow)
theorem Bq(us:List Nat):(tells us).map V.int=us.map fun(k:Nat)=>V.int (k:Int):=by
 unfold tells;rw[Yv];rfl
theorem Wg(qs:List Rat):(qs.flatMap fraction).length=2*qs.length:=by
 induction qs with
 |nil=>rfl
 |cons q qs ih=>
  rw[Wa,ZI,ih,Zj];show 2+_=_;omega
section
variable{P:Program}{w:World}{K:W.Frag}{mg:Str->Option Value}{base:Heap}{t:Yt}
def oX:Sp:=fun vs H Q _=>∃c qs,vs=[.ref c]/\Bu H c qs/\qs.length<=100/\∀H' d,H d=none->ZY H H'->IL H' d (qs.flatMap fraction)->Q (.ref d) H'
theorem OE:ZN ["fractions","told","fraction"] ["fractions"] (Z0 (top 72)):=⟨Y,Y,Y,by decide+kernel,Y,by decide+kernel,by decide+kernel⟩
theorem WV(T:Txt K mg t):Y' P w K mg base XO 33 t.Td t.Tc ["fractions"] oX:=by
 have sc:=OE;refine T.WN.F.ok sc (fun vs H Q E h=>?_) (fun Yx A outer s H vs Q E hr h=>?_)
 ·obtain⟨c,qs,rfl,_⟩:=h;rfl
 ·obtain⟨c,qs,rfl,⟨cs,J,h2,h3⟩,bH,k⟩:=h;refine⟨_,(Z5 (ZT (i:=1) sc.nd Y (Or.inl Y) (Zy Z2))
   (Z5 (YC Zl Y (Yy (Z 0)) (ZD (i:=2) sc.nd Y (Or.inl Y)) (Z1 (Xr (Va Yf TH RY Tv (Z 1) (Z6 (VI WI (by rfl) T.Od boot_list (Z6 (Z 2) Z2)) Z2)))))
   (Z1 (ZP (Z 1))))),?_⟩
  refine⟨Zw _,fun D hD=>?_⟩;have s0:=ZY.new hD (.lst []);refine⟨_,Y,c,Y,⟨_,Zz.of (s0 _ _ J)⟩,?_⟩;refine XA (K:=K) (a:=c) (xs:=cs.map V.ref) (fun i σ H'=>(∃c2,σ=[some (.ref c),some (.ref D),c2])/\ZY H H'/\IL H' D ((qs.take i).flatMap fraction)) ⟨⟨none,Y⟩,s0,Z4⟩ (fun i σ H' _ q=>Zz.of (q.2.1 _ _ J)) ?_ ?_
  ·rintro i x σ H1 hx ⟨⟨c2,rfl⟩,s1,d1⟩;obtain⟨b,O,rfl⟩:=Yk hx;have il:i<qs.length:=by rw[<-h2];exact(ZC.mp O).1
   have fb:=(h3 i b O).up s1;refine⟨_,Y,.inl ⟨Y,_,Zz.of d1⟩,_,Y,_,_,Y,.inr (Vj.of fb),fun l hl=>?_⟩;have s2:=ZY.new hl (.lst [.int (qs.getD i 0).num,.int (qs.getD i 0).den]);refine⟨D,l,_,_,Y,Y,s2 _ _ d1,Z4,?_,⟨_,Y⟩,(s1.trans s2).Zx hD _,?_⟩
   ·rw[Z3,Wg,XE];exact Y5 (YR (show 2*min i qs.length+2<=16000000 by omega))
   ·show upd _ _ _ _=_;have e:qs.take (i+1)=qs.take i++[qs.getD i 0]:=by
     rw[Xp,ZX,ZU il];rfl
    rw[Z4,e,TN,Y1];rfl
  ·rintro σ H1 ⟨⟨c2,rfl⟩,s1,d1⟩;rw[Z3,h2,X7]at d1;exact⟨_,Y,k H1 D hD s1 d1⟩
def si:Sp:=fun vs H Q _=>∃c us,vs=[.ref c]/\NL H c us/\us.length<=100/\∀H' d,H d=none->ZY H H'->IL H' d (tells (us.length::us))->Q (.ref d) H'
theorem HW:ZN ["numbers"] ["numbers"] (Z0 (top 73)):=⟨Y,Y,Y,by decide+kernel,Y,by decide+kernel,by decide+kernel⟩
theorem Sw(T:Txt K mg t):Y' P w K mg base XO 33 t.NG t.NF ["numbers"] si:=by
 have sc:=HW;refine T.QU.F.ok sc (fun vs H Q E h=>?_) (fun Yx A outer s H vs Q E hr h=>?_)
 ·obtain⟨c,us,rfl,_⟩:=h;rfl
 ·obtain⟨c,us,rfl,J,bG,k⟩:=h;refine⟨_,(Z1 (ZP (Zg UJ (Zy (Z6 (YV Zi (by rfl) T.WB YU (Z6 (Z 0) Z2)) Z2)) (Z 0)))),?_⟩;refine⟨_,Y,_,_,Y,.inl (Zz.of J),(by show 1<=sizeLine;decide),fun p hp=>?_⟩;have s1:=ZY.new hp (.lst [.int ((us.map fun(k:Nat)=>V.int (k:Int)).length:Int)]);refine⟨_,Y,p,c,_,_,Y,Y,Z4,s1 _ _ J,?_,fun d hd=>k _ d (s1.free hd) (s1.trans (ZY.new hd _)) ?_⟩
  ·rw[Z3];exact Y5 (YR (show 1+us.length<=16000000 by omega))
  ·show upd _ _ _ _=_;rw[Z4,Bq,Y7,Z3];rfl
def oW(H:Hp)(v:V):Option Rat->Prop
 |none=>v=.Xs
 |some q=>∃b,v=.ref b/\Fr H b q
def DZ:Sp:=fun vs H Q _=>∃v o,vs=[v]/\oW H v o/\∀H' d,H d=none->ZY H H'->IL H' d (orNo o)->Q (.ref d) H'
theorem HV:ZN ["cost"] ["cost"] (Z0 (top 74)):=⟨Y,Y,Y,by decide+kernel,Y,by decide+kernel,by decide+kernel⟩
theorem Sv(T:Txt K mg t):Y' P w K mg base XO 33 t.ND t.NC ["cost"] DZ:=by
 have sc:=HV;refine T.QT.F.ok sc (fun vs H Q E h=>?_) (fun Yx A outer s H vs Q E hr h=>?_)
 ·obtain⟨v,o,rfl,_⟩:=h;rfl
 ·obtain⟨v,o,rfl,hv,k⟩:=h;refine⟨_,(Z5 (YZ (ZJ Vh (Z 0) XW (Zu _)) (Z1 (ZP (Zy (Z6 (gl T.SH) Z2)))) Zv)
   (Z1 (ZP (VI WI (by rfl) T.Od boot_list (Z6 (Z 0) Z2))))),?_⟩
  cases o with
  |none=>
   have hv:v=.Xs:=hv;subst hv;exact⟨_,Y,Y,_,Y,Y2 ⟨(by show 1<=sizeLine;decide),fun p hp=>k _ p hp (ZY.new hp _) Z4⟩⟩
  |some q=>
   obtain⟨b,rfl,fb⟩:=hv;exact⟨_,Y,Y,_,Y,YJ ⟨_,Y,_,_,Y,.inr (Vj.of fb),fun l hl=>k _ l hl (ZY.new hl _) Z4⟩⟩
def VU(t:Yt)(R:List Int->RoadSpec.Call->Prop):Sp:=fun vs H Q _=>∃a g l gs c,vs=[.ref a,.ref g]/\WY t H a l/\Zk l/\IL H g gs/\R gs c/\∀H' d,H d=none->ZY H H'->IL H' d (RoadSpec.asked l c)->(RoadSpec.asked l c).length<=300->Q (.ref d) H'
def PX(r:Road):List Int:=tells [r.from_,r.to_,r.base,r.slope,r.toll.num.toNat,r.toll.den,r.shut.toNat]
theorem vK(l:Land):RoadSpec.asked l .told=tells [l.places,l.source,l.goal,l.units,l.roads.length]++l.roads.flatMap PX:=by
 show tells (_++_)=_;unfold tells PX;rw[Y1,List.map_flatMap];rfl
theorem Jo(rs:List Road):(rs.flatMap PX).length=7*rs.length:=by
 induction rs with
 |nil=>rfl
 |cons r rs ih=>
  rw[Wa,ZI,ih,Zj];show 7+_=_;omega
theorem HU:ZN ["land","given","told","road"] ["land","given"] (Z0 (top 75)):=⟨Y,Y,Y,by decide+kernel,Y,by decide+kernel,by decide+kernel⟩
theorem HS(T:Txt K mg t):Y' P w K mg base XO 33 t.Ud t.NB ["land","given"] (VU t fun _ c=>c=.told):=by
 have sc:=HU;refine T.Ol.F.ok sc (fun vs H Q E h=>?_) (fun Yx A outer s H vs Q E hr h=>?_)
 ·obtain⟨a,g,l,gs,c,rfl,_⟩:=h;rfl
 ·obtain⟨a,g,l,gs,c,rfl,⟨la,rs,hL⟩,ok,hg,rfl,k⟩:=h;obtain⟨TU,ea⟩:=hL.obj;have r9:=ok.r9;have rl:rs.length=l.roads.length:=hL.len;rw[vK]at k;refine⟨_,(Z5 (ZT (i:=2) sc.nd Y (Or.inl Y) (Zy (Z6 (ZZ (Z 0) rfl) (Z6 (ZZ (Z 0) rfl) (Z6 (ZZ (Z 0) rfl) (Z6 (ZZ (Z 0) rfl) (Z6 (YV Zi (by rfl) T.WB YU (Z6 (ZZ (Z 0) rfl) Z2)) Z2)))))))
   (Z5 (YC Zl Y (Yy (ZZ (Z 0) rfl)) (ZD (i:=3) sc.nd Y (Or.inl Y)) (Z1 (Xr (Va Yf TH RY Tv (Z 2) (Z6 (Zy (Z6 (ZZ (Z 3) rfl) (Z6 (ZZ (Z 3) rfl) (Z6 (ZZ (Z 3) rfl) (Z6 (ZZ (Z 3) rfl) (Z6 (ZL Yr (ZZ (Z 3) rfl) ZS (fun _ _=>rfl)) (Z6 (ZL Yr (ZZ (Z 3) rfl) ZS (fun _ _=>rfl)) (Z6 (ZZ (Z 3) rfl) Z2)))))))) Z2)))))
   (Z1 (ZP (Z 2))))),?_⟩
  refine⟨_,Y,_,_,_,_,_,Y,ea,T.Land.cl,T.Yw,Y,_,Y,_,_,_,_,_,Y,ea,T.Land.cl,T.Xv,Y,_,Y,_,_,_,_,_,Y,ea,T.Land.cl,T.Xb,Y,_,Y,_,_,_,_,_,Y,ea,T.Land.cl,T.Xw,Y,_,Y,_,_,_,_,_,Y,ea,T.Land.cl,T.ZK,Y,_,_,Y,.inl (Zz.of hL.lst),(by show 5<=sizeLine;decide),fun D hD=>?_⟩;rw[Z3,rl];have s0:=ZY.new hD (.lst [.int (l.places:Int),.int (l.source:Int),.int (l.goal:Int),.int (l.units:Int),.int (l.roads.length:Int)]);refine⟨_,Y,_,_,_,_,_,Y,(s0 _ _ ea),T.Land.cl,T.ZK,Y,la,Y,⟨_,Zz.of (s0 _ _ hL.lst)⟩,?_⟩;refine XA (K:=K) (a:=la) (xs:=rs.map V.ref) (fun i σ H'=>(∃c3,σ=[some (.ref a),some (.ref g),some (.ref D),c3])/\ZY H H'/\IL H' D (tells [l.places,l.source,l.goal,l.units,l.roads.length]++(l.roads.take i).flatMap PX)) ⟨⟨none,Y⟩,s0,Z4⟩ (fun i σ H' _ q=>Zz.of (q.2.1 _ _ hL.lst)) ?_ ?_
  ·rintro i x σ H1 hx ⟨⟨c3,rfl⟩,s1,d1⟩;obtain⟨ra,Xt,rfl⟩:=Yk hx;have il:i<l.roads.length:=by rw[<-rl];exact(ZC.mp Xt).1
   obtain⟨ta,⟨dr,er⟩,ft⟩:=(hL.at_ i ra Xt).up s1;have tn:=Tx.mpr (ok.rd il).tn;refine⟨_,Y,.inl ⟨Y,_,Zz.of d1⟩,_,Y,_,_,_,_,_,Y,er,T.Road.cl,T.Yc,Y,_,Y,_,_,_,_,_,Y,er,T.Road.cl,T.YA,Y,_,Y,_,_,_,_,_,Y,er,T.Road.cl,T.WM,Y,_,Y,_,_,_,_,_,Y,er,T.Road.cl,T.Xx,Y,_,Y,_,_,_,_,_,Y,er,T.Road.cl,T.Xc,Y,_,_,_,_,Y,Y,Vj.of ft,Y,_,Y,_,_,_,_,_,Y,er,T.Road.cl,T.Xc,Y,_,_,_,_,Y,Y,Vj.of ft,Y,_,Y,_,_,_,_,_,Y,er,T.Road.cl,T.X0,Y,(by show 7<=sizeLine;decide),fun p hp=>?_⟩;have s2:=ZY.new hp (.lst ((PX (rd l i)).map V.int));have e7:[V.int ((rd l i).from_:Int),.int ((rd l i).to_:Int),.int ((rd l i).base:Int),.int ((rd l i).slope:Int),.int (rd l i).toll.num,.int ((rd l i).toll.den:Int),.int ((rd l i).shut.toNat:Int)]=(PX (rd l i)).map V.int:=by
    unfold PX tells;simp only[Y7,List.map_nil];rw[show(((rd l i).toll.num.toNat:Nat):Int)=(rd l i).toll.num by omega]
   rw[e7];refine⟨D,p,_,_,Y,Y,s2 _ _ d1,Z4,?_,⟨_,Y⟩,(s1.trans s2).Zx hD _,?_⟩
   ·rw[Z3,Z3,ZI,Jo,XE];exact Y5 (YR (show 5+7*min i l.roads.length+7<=16000000 by omega))
   ·show upd _ _ _ _=_;have e:l.roads.take (i+1)=l.roads.take i++[rd l i]:=by
     have:rd l i=l.roads[i]:=by
      show l.roads.getD i _=_;rw[ZX,ZU il];rfl
     rw[Xp,this,ZU il];rfl
    rw[Z4,e,TN,<-Wc,Y1 (l₁:=_++_)];simp only[Wa,List.flatMap_nil,XH]
  ·rintro σ H1 ⟨⟨c3,rfl⟩,s1,d1⟩;rw[Z3,rl,X7]at d1;refine⟨_,Y,k H1 D hD s1 d1 ?_⟩;rw[ZI,Jo];show 5+_<=_;omega
theorem DY{H H1:Hp}{Q:VK}{l:Land}{c:RoadSpec.Call}(s:ZY H H1)(k:∀H' d,H d=none->ZY H H'->IL H' d (RoadSpec.asked l c)->(RoadSpec.asked l c).length<=300->Q (.ref d) H'){z:Int}(e:RoadSpec.asked l c=[z]):(1:Nat)<=sizeLine/\∀p,H1 p=none->Q (.ref p) (upd H1 p (.lst [.int z])):=
 ⟨by decide,fun p hp=>k _ p (s.free hp) (s.trans (ZY.new hp _)) (by rw[e];exact Z4) (by rw[e];show 1<=300;decide)⟩
theorem W'{l:Land}{all:Bool}{f:RhRoads.Flow->RoadSpec.Answer}(e:settled l all=none):ofFlow l all f=[-4]:=by
 unfold ofFlow;rw[e];rfl
theorem Yb{l:Land}{all:Bool}{f:RhRoads.Flow->RoadSpec.Answer}{x:RhRoads.Flow}(e:settled l all=some x):ofFlow l all f=f x:=by
 unfold ofFlow;rw[e]
theorem HR:ZN ["land","given","flow"] ["land","given"] (Z0 (top 76)):=⟨Y,Y,Y,by decide+kernel,Y,by decide+kernel,by decide+kernel⟩
theorem HQ(T:Txt K mg t):Y' P w K mg base XO 41 t.Uc t.NA ["land","given"] (VU t fun _ c=>c=.flow):=by
 have sc:=HR;refine T.Oj.F.ok sc (fun vs H Q E h=>?_) (fun Yx A outer s H vs Q E hr h=>?_)
 ·obtain⟨a,g,l,gs,c,rfl,_⟩:=h;rfl
 ·obtain⟨a,g,l,gs,c,rfl,hL,ok,hg,rfl,k⟩:=h;have r9:=ok.r9;refine⟨_,(Z5 (ZT (i:=2) sc.nd Y (Or.inl Y) (cl T.Xy (X9 T) hr (by decide) rfl (Z6 (Z 0) Z2)))
   (Z5 (YZ (ZJ Vh (Z 2) XW (Zu _)) (Z1 (ZP (Zy (Z6 (gl T.SH) Z2)))) Zv)
   (Z1 (ZP (Zg UJ (Zy (Z6 (YV Zi (by rfl) T.WB YU (Z6 (Z 2) Z2)) Z2)) (cl T.WN (WV T) hr (by decide) rfl (Z6 (Z 2) Z2))))))),?_⟩
  refine⟨_,Y,a,l,Y,hL,ok,fun H1 s1 e _=>?_,fun H1 c f s1 hf e bf=>?_⟩;·exact⟨_,Y,Y,_,Y,Y2 (DY s1 k (W' e))⟩
  ·have fl:=(YY ok e).1;have tF:=hf;obtain⟨cs,J,h2,h3⟩:=tF;refine⟨_,Y,Y,_,Y,YJ ⟨_,Y,_,_,Y,.inl (Zz.of J),(by show 1<=sizeLine;decide),fun p hp=>?_⟩⟩;rw[Z3,h2];have s2:=ZY.new hp (.lst [.int (List.length f:Int)]);refine⟨_,Y,c,f,Y,hf.up s2,by omega,fun H2 d _ s3 hd=>⟨p,d,_,_,Y,Y,s3 _ _ Z4,hd,?_,fun u hu=>k _ u ((s1.trans (s2.trans s3)).free hu) ((s1.trans (s2.trans s3)).trans (ZY.new hu _)) ?_ ?_⟩⟩
   ·rw[Z3,Wg];exact Y5 (YR (show 1+2*List.length f<=16000000 by omega))
   ·show upd _ _ _ _=_;rw[Z4];show _=some (HO.lst ((ofFlow l false fractions).map V.int));rw[Yb e];rfl
   ·show(ofFlow l false fractions).length<=_;rw[Yb e];show(says (List.length f)++List.flatMap fraction f).length<=_;rw[ZI,Wg];show 1+_<=_;omega
end
end Rw
namespace Rw
open PySem PySem.Spec PyProof.Rows L2 RR
open RhRoads (Road Land settled on total costTo ways wayCost leastOn parts partsOf)
open RoadSpec (timeOf fraction fractions tells says no orNo ofFlow)
section
variable{P:Program}{w:World}{K:W.Frag}{mg:Str->Option Value}{base:Heap}{t:Yt}
theorem vJ{H:Hp}{p b c:Addr}{x y:Rat}(h:H p=some (.lst [.ref b,.ref c]))(O:Fr H b x)(hc:Fr H c y):Bu H p [x,y]:=⟨[b,c],h,Y,fun j z e=>by
 match j,e with
 |0,e=>cases e;exact O
 |1,e=>cases e;exact hc⟩
theorem HP:ZN ["land","given","flow","costs"] ["land","given"] (Z0 (top 77)):=⟨Y,Y,Y,by decide+kernel,Y,by decide+kernel,by decide+kernel⟩
theorem HN(T:Txt K mg t):Y' P w K mg base XO 41 t.Ub t.Nz ["land","given"] (VU t fun _ c=>c=.time):=by
 have sc:=HP;refine T.Oi.F.ok sc (fun vs H Q E h=>?_) (fun Yx A outer s H vs Q E hr h=>?_)
 ·obtain⟨a,g,l,gs,c,rfl,_⟩:=h;rfl
 ·have hu:=QK hr;obtain⟨a,g,l,gs,c,rfl,hL,ok,hg,rfl,k⟩:=h;refine⟨_,(Z5 (ZT (i:=2) sc.nd Y (Or.inl Y) (cl T.Xy (X9 T) hr (by decide) rfl (Z6 (Z 0) Z2)))
   (Z5 (YZ (ZJ Vh (Z 2) XW (Zu _)) (Z1 (ZP (Zy (Z6 (gl T.SH) Z2)))) Zv)
   (Z5 (ZT (i:=3) sc.nd Y (Or.inl Y) (cl T.WO (WW T) hr (by decide) rfl (Z6 (Z 0) (Z6 (Z 2) Z2))))
   (Z1 (ZP (cl T.WN (WV T) hr (by decide) rfl (Z6 (Zy (Z6 (WH hu (Z 3) (ZZ (Z 0) rfl) (fun _ _=>rfl)) (Z6 (cl T.spent (OJ T) hr (by decide) rfl (Z6 (Z 0) (Z6 (Z 2) Z2))) Z2))) Z2))))))),?_⟩
  refine⟨_,Y,a,l,Y,hL,ok,fun H1 s1 e _=>?_,fun H1 c f s1 hf e bf=>?_⟩;·exact⟨_,Y,Y,_,Y,Y2 (DY s1 k (W' e))⟩
  ·have FA:VS t H1 a c l f:=⟨hL.up s1,ok,hf,(YY ok e).1,bf⟩;refine⟨_,Y,Y,_,Y,YJ ⟨_,Y,_,Y,a,c,l,f,Y,FA,OH ok e,fun H2 d s2 C=>?_⟩⟩;have QR:=s1.trans s2;obtain⟨la,rs,Fi⟩:=hL.up QR;obtain⟨TU,ea⟩:=Fi.obj;obtain⟨q,hq,ht⟩:=QP ok e;obtain⟨b,b1,b2⟩:=C.get hq;refine⟨_,Y,_,Y,_,_,_,_,_,Y,ea,T.Land.cl,T.Xb,Y,d,_,Y,b1,_,Y,_,Y,a,c,l,f,Y,FA.up s2,fun H3 z s3 fz _=>⟨(by show 2<=sizeLine;decide),fun p hp=>?_⟩⟩;have s4:=ZY.new hp (.lst [.ref b,.ref z]);have e2:RoadSpec.asked l .time=[q,total l f].flatMap fraction:=by
    show ofFlow l false _=_;rw[Yb e,hq];rfl
   refine⟨p,[q,total l f],Y,vJ Z4 ((b2.up s3).up s4) (fz.up s4),(by show 2<=100;decide),fun H4 u nu s5 Bp=>k H4 u ((QR.trans (s3.trans s4)).free nu) (QR.trans (s3.trans (s4.trans s5))) (by rw[e2];exact Bp) (by rw[e2,Wg];show 4<=300;decide)⟩
theorem yE{H:Hp}{p z:Addr}{cs:List Addr}{f:List Rat}{x:Rat}(h:H p=some (.lst (cs.map V.ref++[.ref z])))(hl:cs.length=f.length)(hf:∀(j:Nat) b,cs[j]?=some b->Fr H b (f.getD j 0))(hz:Fr H z x):Bu H p (f++[x]):=⟨cs++[z],by rw[h,U2],by rw[ZI,ZI,hl];rfl,fun j b e=>by
 show Fr H b ((f++[x]).getD j 0);rcases U1 e with⟨z1,z2⟩|⟨z1,rfl⟩
 ·rw[getD_snoc,Z7 (by omega)];exact hf j b z2
 ·rw[getD_snoc,Z8 (by omega),Z7 (by omega)];exact hz⟩
theorem HM:ZN ["land","given","flow"] ["land","given"] (Z0 (top 78)):=⟨Y,Y,Y,by decide+kernel,Y,by decide+kernel,by decide+kernel⟩
theorem HL(T:Txt K mg t):Y' P w K mg base XO 41 t.Ua t.Ny ["land","given"] (VU t fun _ c=>c=.best):=by
 have sc:=HM;refine T.Oh.F.ok sc (fun vs H Q E h=>?_) (fun Yx A outer s H vs Q E hr h=>?_)
 ·obtain⟨a,g,l,gs,c,rfl,_⟩:=h;rfl
 ·obtain⟨a,g,l,gs,c,rfl,hL,ok,hg,rfl,k⟩:=h;have r9:=ok.r9;refine⟨_,(Z5 (ZT (i:=2) sc.nd Y (Or.inl Y) (cl T.QW (Sy T) hr (by decide) rfl (Z6 (Z 0) Z2)))
   (Z5 (YZ (ZJ Vh (Z 2) XW (Zu _)) (Z1 (ZP (Zy (Z6 (gl T.SH) Z2)))) Zv)
   (Z1 (ZP (Zg UJ (Zy (Z6 (YV Zi (by rfl) T.WB YU (Z6 (Z 2) Z2)) Z2)) (cl T.WN (WV T) hr (by decide) rfl (Z6 (Zg UJ (Z 2) (Zy (Z6 (cl T.spent (OJ T) hr (by decide) rfl (Z6 (Z 0) (Z6 (Z 2) Z2))) Z2))) Z2))))))),?_⟩
  refine⟨_,Y,a,l,Y,hL,ok,fun H1 s1 e _=>?_,fun H1 c f s1 hf e bf=>?_⟩;·exact⟨_,Y,Y,_,Y,Y2 (DY s1 k (W' e))⟩
  ·have fl:=(YY ok e).1;have FA:VS t H1 a c l f:=⟨hL.up s1,ok,hf,fl,bf⟩;obtain⟨cs,J,h2,h3⟩:=hf;refine⟨_,Y,Y,_,Y,YJ ⟨_,Y,_,_,Y,.inl (Zz.of J),(by show 1<=sizeLine;decide),fun p hp=>?_⟩⟩;rw[Z3,h2];have s2:=ZY.new hp (.lst [.int (List.length f:Int)]);refine⟨_,Y,_,Y,_,Y,a,c,l,f,Y,FA.up s2,fun H3 z s3 fz _=>⟨(by show 1<=sizeLine;decide),fun q hq=>?_⟩⟩;have s4:=ZY.new hq (.lst [.ref z]);have sF:=s2.trans (s3.trans s4);refine⟨c,q,_,_,Y,Y,sF _ _ J,Z4,by rw[Z3,h2];exact Y5 (YR (show List.length f+1<=16000000 by omega)),fun u hu=>?_⟩;have s5:=ZY.new hu (.lst (cs.map V.ref++[.ref z]));have e2:RoadSpec.asked l .best=((List.length f:Nat):Int)::(f++[total l f]).flatMap fraction:=by
    show ofFlow l true _=_;rw[Yb e,TN];show(says (List.length f)++List.flatMap fraction f)++fraction (total l f)=_;rw[Wc];show _=[((List.length f:Nat):Int)]++_;congr 1
   refine⟨u,f++[total l f],Y,yE Z4 h2 (fun j b eb=>((h3 j b eb).up sF).up s5) ((fz.up s4).up s5),by rw[ZI];show List.length f+1<=100;omega,fun H4 v _ s6 hv=>?_⟩;have jy:=s3.trans (s4.trans (s5.trans s6));refine⟨p,v,_,_,Y,Y,jy _ _ Z4,hv,?_,fun y hy=>k _ y (((s1.trans s2).trans jy).free hy) (((s1.trans s2).trans jy).trans (ZY.new hy _)) ?_ ?_⟩
   ·rw[Z3,Wg,ZI];exact Y5 (YR (show 1+2*(List.length f+1)<=16000000 by omega))
   ·rw[e2];exact Z4
   ·rw[e2,Zj,Wg,ZI];show 2*(List.length f+1)+1<=300;omega
theorem Kq:ZN ["land","given","flow"] ["land","given"] (Z0 (top 79)):=⟨Y,Y,Y,by decide+kernel,Y,by decide+kernel,by decide+kernel⟩
theorem Kp(T:Txt K mg t):Y' P w K mg base XO 41 t.U7 t.O6 ["land","given"] (VU t fun _ c=>c=.price):=by
 have sc:=Kq;refine T.Qc.F.ok sc (fun vs H Q E h=>?_) (fun Yx A outer s H vs Q E hr h=>?_)
 ·obtain⟨a,g,l,gs,c,rfl,_⟩:=h;rfl
 ·obtain⟨a,g,l,gs,c,rfl,hL,ok,hg,rfl,k⟩:=h;refine⟨_,(Z5 (ZT (i:=2) sc.nd Y (Or.inl Y) (cl T.Xy (X9 T) hr (by decide) rfl (Z6 (Z 0) Z2)))
   (Z5 (YZ (ZJ Vh (Z 2) XW (Zu _)) (Z1 (ZP (Zy (Z6 (gl T.SH) Z2)))) Zv)
   (Z1 (ZP (VI WI (by rfl) T.Od boot_list (Z6 (cl T.divided (Ee T) hr (by decide) rfl (Z6 (cl T.spent (OJ T) hr (by decide) rfl (Z6 (Z 0) (Z6 (Z 2) Z2))) (Z6 (cl T.spent (OJ T) hr (by decide) rfl (Z6 (Z 0) (Z6 (cl T.QW (Sy T) hr (by decide) rfl (Z6 (Z 0) Z2)) Z2))) Z2))) Z2)))))),?_⟩
  refine⟨_,Y,a,l,Y,hL,ok,fun H1 s1 e _=>?_,fun H1 c f s1 hf e bf=>?_⟩;·exact⟨_,Y,Y,_,Y,Y2 (DY s1 k (W' e))⟩
  ·have FA:VS t H1 a c l f:=⟨hL.up s1,ok,hf,(YY ok e).1,bf⟩;refine⟨_,Y,Y,_,Y,YJ ⟨_,Y,_,Y,a,c,l,f,Y,FA,fun H2 z s2 fz rz=>?_⟩⟩;have QR:=s1.trans s2;refine⟨_,Y,_,Y,a,l,Y,hL.up QR,ok,fun H3 s3 e2 nr=>?_,fun H3 c2 f2 s3 kR e2 bF=>?_⟩;·exact absurd (BO true ((YY ok e).2.reach (Vp ok false))) nr
   ·have FB:VS t H3 a c2 l f2:=⟨hL.up (QR.trans s3),ok,kR,(YY ok e2).1,bF⟩;have tp:=BN ok (YY ok e2).2.1;refine⟨a,c2,l,f2,Y,FB,fun H4 y s4 fy ry=>?_⟩;refine⟨z,y,_,_,Y,fz.up (s3.trans s4),fy,rz.mono (by decide),ry.mono (by decide),tp,fun H5 d s5 fd=>?_⟩;have e3:RoadSpec.asked l .price=fraction (total l f/total l f2):=by
     show ofFlow l false _=_;rw[Yb e,Yb e2]
    have gF:=QR.trans (s3.trans (s4.trans s5));exact⟨_,_,Y,.inr (Vj.of fd),fun u hu=>k _ u (gF.free hu) (gF.trans (ZY.new hu _)) (by rw[e3];exact Z4) (by rw[e3];show 2<=300;decide)⟩
theorem Ko:ZN ["land","given","best"] ["land","given"] (Z0 (top 80)):=⟨Y,Y,Y,by decide+kernel,Y,by decide+kernel,by decide+kernel⟩
theorem Kn(T:Txt K mg t):Y' P w K mg base XO 41 t.U6 t.O5 ["land","given"] (VU t fun _ c=>c=.tolls):=by
 have sc:=Ko;refine T.Qb.F.ok sc (fun vs H Q E h=>?_) (fun Yx A outer s H vs Q E hr h=>?_)
 ·obtain⟨a,g,l,gs,c,rfl,_⟩:=h;rfl
 ·obtain⟨a,g,l,gs,c,rfl,hL,ok,hg,rfl,k⟩:=h;have r9:=ok.r9;refine⟨_,(Z5 (ZT (i:=2) sc.nd Y (Or.inl Y) (cl T.QW (Sy T) hr (by decide) rfl (Z6 (Z 0) Z2)))
   (Z5 (YZ (ZJ Vh (Z 2) XW (Zu _)) (Z1 (ZP (Zy (Z6 (gl T.SH) Z2)))) Zv)
   (Z1 (ZP (Zg UJ (Zy (Z6 (YV Zi (by rfl) T.WB YU (Z6 (Z 2) Z2)) Z2)) (cl T.WN (WV T) hr (by decide) rfl (Z6 (cl T.Ln (Kx T) hr (by decide) rfl (Z6 (Z 0) (Z6 (Z 2) Z2))) Z2))))))),?_⟩
  refine⟨_,Y,a,l,Y,hL,ok,fun H1 s1 e _=>?_,fun H1 c f s1 hf e bf=>?_⟩;·exact⟨_,Y,Y,_,Y,Y2 (DY s1 k (W' e))⟩
  ·have fl:=(YY ok e).1;have FA:VS t H1 a c l f:=⟨hL.up s1,ok,hf,fl,bf⟩;obtain⟨cs,J,h2,h3⟩:=hf;refine⟨_,Y,Y,_,Y,YJ ⟨_,Y,_,_,Y,.inl (Zz.of J),(by show 1<=sizeLine;decide),fun p hp=>?_⟩⟩;rw[Z3,h2];have s2:=ZY.new hp (.lst [.int (List.length f:Int)]);refine⟨_,Y,_,Y,a,c,l,f,Y,FA.up s2,fun H2 d s3 hd=>?_⟩;have e2:RoadSpec.asked l .tolls=((l.roads.length:Nat):Int)::((List.range l.roads.length).map fun e=>((rd l e).slope:Rat)*on f e).flatMap fraction:=by
    show ofFlow l true _=_;rw[Yb e,Yi l.roads Wz,Yv];show says (List.length _)++_=_;rw[Z3,Zd];rfl
   refine⟨d,_,Y,hd,by rw[Z3,Zd];omega,fun H3 v _ s4 hv=>?_⟩;have vW:=s3.trans s4;refine⟨p,v,_,_,Y,Y,vW _ _ Z4,hv,?_,fun y hy=>k _ y (((s1.trans s2).trans vW).free hy) (((s1.trans s2).trans vW).trans (ZY.new hy _)) ?_ ?_⟩
   ·rw[Z3,Wg,Z3,Zd];exact Y5 (YR (show 1+2*l.roads.length<=16000000 by omega))
   ·rw[e2];show upd _ _ _ _=_;rw[Z4,fl];rfl
   ·rw[e2,Zj,Wg,Z3,Zd];omega
end
end Rw
namespace Rw
open PySem PySem.Spec PyProof.Rows L2 RR
open RhRoads (Road Land settled on total costTo ways wayCost leastOn parts partsOf)
open RoadSpec (timeOf fraction fractions tells says no orNo ofFlow)
def x6(of:Nat->RoadSpec.Call):List Int->RoadSpec.Call->Prop:=fun gs c=>∃v:Nat,gs=[(v:Int)]/\c=of v
theorem Su(v:Nat):Q6 ([(v:Int)].map V.int) 0=some (.int (v:Int)):=S1 (j:=0) rfl
theorem Rc(o:Option Rat):(orNo o).length<=2:=by
 cases o with
 |none=>show 1<=2;decide
 |some q=>show 2<=2;decide
section
variable{P:Program}{w:World}{K:W.Frag}{mg:Str->Option Value}{base:Heap}{t:Yt}
theorem HK:ZN ["land","given","place","flow"] ["land","given"] (Z0 (top 81)):=⟨Y,Y,Y,by decide+kernel,Y,by decide+kernel,by decide+kernel⟩
theorem HJ(T:Txt K mg t):Y' P w K mg base XO 41 t.T_ t.Nw ["land","given"] (VU t (x6 .cost)):=by
 have sc:=HK;refine T.Og.F.ok sc (fun vs H Q E h=>?_) (fun Yx A outer s H vs Q E hr h=>?_)
 ·obtain⟨a,g,l,gs,c,rfl,_⟩:=h;rfl
 ·have hu:=QK hr;obtain⟨a,g,l,gs,c,rfl,hL,ok,hg,⟨v,rfl,rfl⟩,k⟩:=h;have oV:=hL;obtain⟨la,rs,Fi⟩:=oV;obtain⟨TU,ea⟩:=Fi.obj;have Ut:RoadSpec.asked l (.cost v)=if l.places<=v then no 2 else ofFlow l false fun f=>orNo (costTo l false f v):=rfl
  refine⟨_,(Z5 (ZT (i:=2) sc.nd Y (Or.inl Y) (ZL ZO (Z 1) ZS (fun _ _=>rfl)))
   (Z5 (YZ (ZJ Ss (Z 2) (ZZ (Z 0) rfl) (Zu _)) (Z1 (ZP (Zy (Z6 (gl T.VC) Z2)))) Zv)
   (Z5 (ZT (i:=3) sc.nd Y (Or.inl Y) (cl T.Xy (X9 T) hr (by decide) rfl (Z6 (Z 0) Z2)))
   (Z5 (YZ (ZJ Vh (Z 3) XW (Zu _)) (Z1 (ZP (Zy (Z6 (gl T.SH) Z2)))) Zv)
   (Z1 (ZP (cl T.QT (Sv T) hr (by decide) rfl (Z6 (AD hu (cl T.WO (WW T) hr (by decide) rfl (Z6 (Z 0) (Z6 (Z 3) Z2))) (Z 2) ⟨Y,Y,Y,Y⟩) Z2)))))))),?_⟩
  refine⟨_,Y,_,_,_,_,Y,Y,Zz.of hg,Su v,_,Y,_,Y,_,_,_,_,_,Y,ea,T.Land.cl,T.Yw,Y,_,_,Y,Y,_,Y,Ws (fun cc=>?_) (fun cc=>?_)⟩
  ·have cc:l.places<=v:=by have:=ZG cc;omega
   rw[Z7 cc]at Ut;exact DY (ZY.refl H) k Ut
  ·have cc:¬l.places<=v:=fun q=>cc (ZR (by omega));rw[Z8 cc]at Ut;refine⟨_,Y,a,l,Y,hL,ok,fun H1 s1 e _=>?_,fun H1 c f s1 hf e bf=>?_⟩;·exact⟨_,Y,Y,_,Y,Y2 (DY s1 k (Ut.trans (W' e)))⟩
   ·have FA:VS t H1 a c l f:=⟨hL.up s1,ok,hf,(YY ok e).1,bf⟩;rw[Yb e]at Ut;refine⟨_,Y,Y,_,Y,YJ ⟨_,Y,_,Y,a,c,l,f,Y,FA,OH ok e,fun H2 d s2 C=>?_⟩⟩;obtain⟨gg,g1,g2,g3⟩:=C.ex;obtain⟨Zs,ed⟩:=g1.nS;refine⟨d,Y,.inl ⟨Zs,.inl ed⟩,_,Y,gg v,g1.get v,(gg v).getD .Xs,costTo l false f v,Y,?_,fun H3 u nu s3 Bp=>k H3 u ((s1.trans s2).free nu) (s1.trans (s2.trans s3)) (by rw[Ut];exact Bp) (by rw[Ut];exact ZE (Rc _) (by decide))⟩;cases q:costTo l false f v with
    |none=>
     rw[g2 v q];rfl
    |some x=>
     obtain⟨b,b1,b2⟩:=g3 v x q;rw[b1];exact⟨b,Y,b2⟩
theorem MP:ZN ["land","given"] ["land","given"] (Z0 (top 82)):=⟨Y,Y,Y,by decide+kernel,Y,by decide+kernel,by decide+kernel⟩
theorem MO(T:Txt K mg t):Y' P w K mg base XO 42 t.V1 t.Rr ["land","given"] (VU t (x6 .without)):=by
 have sc:=MP;refine T.SI.F.ok sc (fun vs H Q E h=>?_) (fun Yx A outer s H vs Q E hr h=>?_)
 ·obtain⟨a,g,l,gs,c,rfl,_⟩:=h;rfl
 ·obtain⟨a,g,l,gs,c,rfl,hL,ok,hg,⟨v,rfl,rfl⟩,k⟩:=h;have oV:=hL;obtain⟨la,rs,Fi⟩:=oV;obtain⟨TU,ea⟩:=Fi.obj;have rl:rs.length=l.roads.length:=Fi.len;have Ut:RoadSpec.asked l (.without v)=if l.roads.length<=v then no 2 else orNo (timeOf (RoadSpec.one l v fun(r:Road)=>{r with shut:=true})):=rfl
  refine⟨_,(Z5 (YZ (ZJ Ss (ZL ZO (Z 1) ZS (fun _ _=>rfl)) (YV Zi (by rfl) T.WB YU (Z6 (ZZ (Z 0) rfl) Z2)) (Zu _)) (Z1 (ZP (Zy (Z6 (gl T.VC) Z2)))) Zv)
   (Z1 (ZP (cl T.QT (Sv T) hr (by decide) rfl (Z6 (cl T.Ta (UX T) hr (by decide) rfl (Z6 (cl T.SJ (Sa T) hr (by decide) rfl (Z6 (Z 0) (Z6 (ZL ZO (Z 1) ZS (fun _ _=>rfl)) Z2))) Z2)) Z2))))),?_⟩
  refine⟨_,Y,_,_,_,_,Y,Y,Zz.of hg,Su v,_,Y,_,_,_,_,_,Y,ea,T.Land.cl,T.ZK,Y,_,_,Y,.inl (Zz.of Fi.lst),_,_,Y,Y,_,Y,?_⟩;rw[Z3,rl];refine Ws (fun cc=>?_) (fun cc=>?_)
  ·have cc:l.roads.length<=v:=by have:=ZG cc;omega
   rw[Z7 cc]at Ut;exact DY (ZY.refl H) k Ut
  ·have cc:¬l.roads.length<=v:=fun q=>cc (ZR (by omega));rw[Z8 cc]at Ut;refine⟨_,Y,_,Y,_,_,_,_,Y,Y,Zz.of hg,Su v,a,l,v,Y,hL,ok.r9,by omega,fun H1 b s1 hB=>?_⟩;refine⟨b,_,Y,hB,Df ok v,fun H2 s2 e=>?_,fun H2 c q s2 fq e _=>?_⟩;·exact⟨.Xs,none,Y,Y,fun H3 u nu s3 Bp=>k H3 u ((s1.trans s2).free nu) (s1.trans (s2.trans s3)) (by rw[Ut,e];exact Bp) (by rw[Ut];exact ZE (Rc _) (by decide))⟩
   ·exact⟨.ref c,some q,Y,⟨c,Y,fq⟩,fun H3 u nu s3 Bp=>k H3 u ((s1.trans s2).free nu) (s1.trans (s2.trans s3)) (by rw[Ut,e];exact Bp) (by rw[Ut];exact ZE (Rc _) (by decide))⟩
theorem KY:ZN ["land","given","cost"] ["land","given"] (Z0 (top 83)):=⟨Y,Y,Y,by decide+kernel,Y,by decide+kernel,by decide+kernel⟩
theorem KW(T:Txt K mg t):Y' P w K mg base XO 43 t.Vw t.Qy ["land","given"] (VU t fun _ c=>c=.better):=by
 have sc:=KY;refine T.Rm.F.ok sc (fun vs H Q E h=>?_) (fun Yx A outer s H vs Q E hr h=>?_)
 ·obtain⟨a,g,l,gs,c,rfl,_⟩:=h;rfl
 ·obtain⟨a,g,l,gs,c,rfl,hL,ok,hg,rfl,k⟩:=h;have r9:=ok.r9;refine⟨_,(Z5 (ZT (i:=2) sc.nd Y (Or.inl Y) (cl T.Ta (UX T) hr (by decide) rfl (Z6 (Z 0) Z2)))
   (Z5 (YZ (ZJ Vh (Z 2) XW (Zu _)) (Z1 (ZP (Zy (Z6 (gl T.SH) Z2)))) Zv)
   (Z1 (ZP (cl T.QU (Sw T) hr (by decide) rfl (Z6 (cl T.Nh (K0 T) hr (by decide) rfl (Z6 (Z 0) (Z6 (Z 2) Z2))) Z2)))))),?_⟩
  refine⟨_,Y,a,l,Y,hL,ok,fun H1 s1 e=>?_,fun H1 c q s1 fq e bq=>?_⟩
  ·refine⟨_,Y,Y,_,Y,Y2 (DY s1 k ?_)⟩;cases e2:settled l false with
   |none=>exact W' e2
   |some f=>
    obtain⟨q,_,ht⟩:=QP ok e2;rw[ht]at e;cases e
  ·refine⟨_,Y,Y,_,Y,YJ ⟨_,Y,_,Y,a,c,l,q,Y,hL.up s1,ok,fq,bq,fun H2 d s2 hd=>?_⟩⟩;have fl:((List.range l.roads.length).filter (isBetter l q)).length<=9:=by
    refine ZE (Wx ..) ?_;rw[Zd];exact r9
   have Ut:RoadSpec.asked l .better=tells (((List.range l.roads.length).filter (isBetter l q)).length::(List.range l.roads.length).filter (isBetter l q)):=by
    cases e2:settled l false with
    |none=>
     unfold timeOf at e;rw[e2]at e;cases e
    |some f=>
     obtain⟨x,hx,ht⟩:=QP ok e2;rw[e]at ht;cases ht;show ofFlow l false _=_;rw[Yb e2,hx];rfl
   exact⟨d,_,Y,hd,by omega,fun H3 u nu s3 Bp=>k H3 u ((s1.trans s2).free nu) (s1.trans (s2.trans s3)) (by rw[Ut];exact Bp) (by rw[Ut];unfold tells;rw[Z3,Zj];omega)⟩
theorem DX:ZN ["land","given"] ["land","given"] (Z0 (top 84)):=⟨Y,Y,Y,by decide+kernel,Y,by decide+kernel,by decide+kernel⟩
theorem DW(T:Txt K mg t):Y' P w K mg base XO 42 t.QY t.Jy ["land","given"] (VU t (x6 .at_)):=by
 have sc:=DX;refine T.Iy.F.ok sc (fun vs H Q E h=>?_) (fun Yx A outer s H vs Q E hr h=>?_)
 ·obtain⟨a,g,l,gs,c,rfl,_⟩:=h;rfl
 ·obtain⟨a,g,l,gs,c,rfl,hL,ok,hg,⟨v,rfl,rfl⟩,k⟩:=h;have Ut:RoadSpec.asked l (.at_ v)=if v=0\/1000<v then no 1 else orNo (timeOf {l with units:=v}):=rfl
  refine⟨_,(Z5 (YZ (RW (T4 (cl T.QX (SG T) hr (by decide) rfl (Z6 (ZL ZO (Z 1) ZS (fun _ _=>rfl)) Z2)))) (Z1 (ZP (Zy (Z6 (gl T.X1) Z2)))) Zv)
   (Z1 (ZP (cl T.QT (Sv T) hr (by decide) rfl (Z6 (cl T.Ta (UX T) hr (by decide) rfl (Z6 (cl T.Lo (Kz T) hr (by decide) rfl (Z6 (Z 0) (Z6 (ZL ZO (Z 1) ZS (fun _ _=>rfl)) Z2))) Z2)) Z2))))),?_⟩
  refine⟨_,Y,_,_,_,_,Y,Y,Zz.of hg,Su v,_,Y,_,Y,?_⟩;by_cases cc:v=0\/1000<v
  ·have e:decide (1<=(v:Int)/\(v:Int)<=1000)=false:=ZF (by omega);rw[e];rw[Z7 cc]at Ut;exact Y2 (DY (ZY.refl H) k Ut)
  ·have e:decide (1<=(v:Int)/\(v:Int)<=1000)=true:=ZR (by omega);rw[e];rw[Z8 cc]at Ut;refine YJ ⟨_,Y,_,Y,_,_,_,_,Y,Y,Zz.of hg,Su v,a,l,v,Y,hL,ok.r9,fun H1 b s1 hB=>?_⟩;refine⟨b,_,Y,hB,zP ok (by omega) (by omega),fun H2 s2 e=>?_,fun H2 c q s2 fq e _=>?_⟩;·exact⟨.Xs,none,Y,Y,fun H3 u nu s3 Bp=>k H3 u ((s1.trans s2).free nu) (s1.trans (s2.trans s3)) (by rw[Ut,e];exact Bp) (by rw[Ut];exact ZE (Rc _) (by decide))⟩
   ·exact⟨.ref c,some q,Y,⟨c,Y,fq⟩,fun H3 u nu s3 Bp=>k H3 u ((s1.trans s2).free nu) (s1.trans (s2.trans s3)) (by rw[Ut,e];exact Bp) (by rw[Ut];exact ZE (Rc _) (by decide))⟩
theorem HI:ZN ["land","given"] ["land","given"] (Z0 (top 85)):=⟨Y,Y,Y,by decide+kernel,Y,by decide+kernel,by decide+kernel⟩
theorem HH(T:Txt K mg t):Y' P w K mg base XO 35 t.T9 t.Nv ["land","given"] (VU t fun _ c=>c=.ways):=by
 have sc:=HI;refine T.Of.F.ok sc (fun vs H Q E h=>?_) (fun Yx A outer s H vs Q E hr h=>?_)
 ·obtain⟨a,g,l,gs,c,rfl,_⟩:=h;rfl
 ·obtain⟨a,g,l,gs,c,rfl,hL,ok,hg,rfl,k⟩:=h;refine⟨_,(Z1 (ZP (Zy (Z6 (YV Zi (by rfl) T.WB YU (Z6 (cl T.Vu (VA T) hr (by decide) rfl (Z6 (Z 0) Z2)) Z2)) Z2)))),?_⟩;refine⟨_,Y,a,l,Y,hL,ok,fun H1 W ra hW s1 R=>⟨_,_,Y,.inl (Zz.of R.lst),?_⟩⟩;rw[Z3,R.len];exact DY s1 k rfl
theorem FF:ZN ["land","given","ways","way"] ["land","given"] (Z0 (top 86)):=⟨Y,Y,Y,by decide+kernel,Y,by decide+kernel,by decide+kernel⟩
theorem FE(T:Txt K mg t):Y' P w K mg base XO 41 t.SQ t.Lz ["land","given"] (VU t (x6 .way)):=by
 have sc:=FF;refine T.Lj.F.ok sc (fun vs H Q E h=>?_) (fun Yx A outer s H vs Q E hr h=>?_)
 ·obtain⟨a,g,l,gs,c,rfl,_⟩:=h;rfl
 ·obtain⟨a,g,l,gs,c,rfl,hL,ok,hg,⟨v,rfl,rfl⟩,k⟩:=h;have Ut:RoadSpec.asked l (.way v)=match(ways l)[v]?with
   |none=>no 2
   |some w=>ofFlow l false fun f=>tells (w.length::w)++fraction (wayCost l f w):=rfl
  have r9:=ok.r9;refine⟨_,(Z5 (ZT (i:=2) sc.nd Y (Or.inl Y) (cl T.Vu (VA T) hr (by decide) rfl (Z6 (Z 0) Z2)))
   (Z5 (YZ (ZJ Ss (ZL ZO (Z 1) ZS (fun _ _=>rfl)) (YV Zi (by rfl) T.WB YU (Z6 (Z 2) Z2)) (Zu _)) (Z1 (ZP (Zy (Z6 (gl T.VC) Z2)))) Zv)
   (Z5 (ZT (i:=3) sc.nd Y (Or.inl Y) (ZL ZO (Z 2) (ZL ZO (Z 1) ZS (fun _ _=>rfl)) (fun _ _=>rfl)))
   (Z1 (ZP (Zg UJ (cl T.QU (Sw T) hr (by decide) rfl (Z6 (Z 3) Z2)) (VI WI (by rfl) T.Od boot_list (Z6 (cl T.Gf (FK T) hr (by decide) rfl (Z6 (Z 0) (Z6 (cl T.Xy (X9 T) hr (by decide) rfl (Z6 (Z 0) Z2)) (Z6 (Z 3) Z2)))) Z2)))))))),?_⟩
  refine⟨_,Y,a,l,Y,hL,ok,fun H1 W ra hW s1 R=>?_⟩;have gE:=s1 _ _ hg;refine⟨_,Y,_,_,_,_,Y,Y,Zz.of gE,Su v,_,Y,_,_,Y,.inl (Zz.of R.lst),_,_,Y,Y,_,Y,?_⟩;rw[Z3,R.len];refine Ws (fun cc=>?_) (fun cc=>?_)
  ·have cc:(ways l).length<=v:=by have:=ZG cc;omega
   rw[YQ cc]at Ut;exact DY s1 k Ut
  ·have cc:v<(ways l).length:=Nat.lt_of_not_le fun q=>cc (ZR (by omega));have vr:v<ra.length:=by rw[R.len];exact cc
   have Xt:ra[v]?=some ra[v]:=ZU vr;obtain⟨b,O⟩:∃b,ra[v]=b:=⟨_,Y⟩;rw[O]at Xt;obtain⟨wy,sj⟩:∃wy,(ways l)[v]=wy:=⟨_,Y⟩;have wm:wy∈ways l:=by rw[<-sj];exact W6 cc
   obtain⟨w1,w2,w3⟩:=LS ok wm;have nb:NL H1 b wy:=by
    have:=R.row v b Xt;rw[ZX,ZU cc,sj]at this;exact this
   have wl:wy.length<=9:=ZE (Xf l.roads.length wy w3 w2) r9;rw[ZU cc,sj]at Ut;have Ut:RoadSpec.asked l (.way v)=ofFlow l false fun f=>tells (wy.length::wy)++fraction (wayCost l f wy):=Ut;refine⟨_,Y,_,Y,_,_,_,_,Y,Y,Zz.of gE,Su v,_,_,_,_,Y,Y,Zz.of R.lst,YI Xt,?_⟩;refine⟨_,Y,b,wy,Y,nb,by omega,fun H2 d _ s2 hd=>?_⟩;have QR:=s1.trans s2;refine⟨_,Y,_,Y,a,l,Y,hL.up QR,ok,fun H3 s3 e nr=>absurd (BM false wm) nr,fun H3 c f s3 hf e bf=>?_⟩;have FA:VS t H3 a c l f:=⟨hL.up (QR.trans s3),ok,hf,(YY ok e).1,bf⟩;rw[Yb e]at Ut;refine⟨_,Y,a,c,b,l,f,wy,Y,FA,s3 _ _ (s2 _ _ nb),w2,by omega,fun H4 x s4 fx=>?_⟩;refine⟨_,_,Y,.inr (Vj.of fx),fun u hu=>?_⟩;have s5:=ZY.new hu (.lst [.int (wayCost l f wy).num,.int (wayCost l f wy).den]);have jx:=s3.trans (s4.trans s5);refine⟨d,u,_,_,Y,Y,jx _ _ hd,Z4,?_,fun y hy=>k _ y ((QR.trans jx).free hy) ((QR.trans jx).trans (ZY.new hy _)) ?_ ?_⟩
   ·rw[Z3];unfold tells;rw[Z3,Zj];exact Y5 (YR (show wy.length+1+2<=16000000 by omega))
   ·rw[Ut];show upd _ _ _ _=_;rw[Z4,Y1];rfl
   ·rw[Ut,ZI];unfold tells;rw[Z3,Zj];show wy.length+1+2<=300;omega
end
end Rw
namespace Rw
open PySem PySem.Spec PyProof.Rows L2 RR
open RhRoads (Road Land settled on total costTo ways wayCost leastOn parts partsOf wrong)
open RoadSpec (timeOf fraction fractions tells says no orNo ofFlow)
theorem M_(l:Land):∀(k:Nat)(f:RhRoads.Flow)(x:Rat×List Nat),x∈partsOf l k f->x.2∈ways l
 |0,_,x,h=>by cases h
 |k+1,f,x,h=>by
  unfold partsOf at h;split at h;·cases h
  ·rename_i w hw;rcases ZH.mp h with rfl|h;·exact List.mem_of_find?_eq_some hw
   ·exact M_ l k _ x h
def Ra(x:Rat×List Nat):List Int:=fraction x.1++tells (x.2.length::x.2)
theorem Jn{x:Rat×List Nat}(h:x.2.length<=9):(Ra x).length<=12:=by
 unfold Ra tells;rw[ZI,Z3,Zj];show 2+_<=12;omega
theorem N5:∀ps:List (Rat×List Nat),(∀x,x∈ps->x.2.length<=9)->(ps.flatMap Ra).length<=12*ps.length
 |[],_=>ZM _
 |x::ps,h=>by
  rw[Wa,ZI,Zj];have:=Jn (h x (YM ..));have:=N5 ps fun y hy=>h y (Zh _ hy);omega
section
variable{P:Program}{w:World}{K:W.Frag}{mg:Str->Option Value}{base:Heap}{t:Yt}
theorem Km:ZN ["land","given","flow","parts","told","amount","way"] ["land","given"] (Z0 (top 87)):=⟨Y,Y,Y,by decide+kernel,Y,by decide+kernel,by decide+kernel⟩
theorem Kl(T:Txt K mg t):Y' P w K mg base XO 41 t.U5 t.O4 ["land","given"] (VU t fun _ c=>c=.parts):=by
 have sc:=Km;refine T.Qa.F.ok sc (fun vs H Q E h=>?_) (fun Yx A outer s H vs Q E hr h=>?_)
 ·obtain⟨a,g,l,gs,c,rfl,_⟩:=h;rfl
 ·obtain⟨a,g,l,gs,c,rfl,hL,ok,hg,rfl,k⟩:=h;have r9:=ok.r9;refine⟨_,(Z5 (ZT (i:=2) sc.nd Y (Or.inl Y) (cl T.Xy (X9 T) hr (by decide) rfl (Z6 (Z 0) Z2)))
   (Z5 (YZ (ZJ Vh (Z 2) XW (Zu _)) (Z1 (ZP (Zy (Z6 (gl T.SH) Z2)))) Zv)
   (Z5 (ZT (i:=3) sc.nd Y (Or.inl Y) (cl T.Gd (FG T) hr (by decide) rfl (Z6 (Z 0) (Z6 (Z 2) Z2))))
   (Z5 (ZT (i:=4) sc.nd Y (Or.inl Y) (Zy (Z6 (YV Zi (by rfl) T.WB YU (Z6 (Z 3) Z2)) Z2)))
   (Z5 (YC Zl Y (Yy (Z 3)) (V7 Y (Y0 (ZD (i:=5) sc.nd Y (Or.inl Y)) (Y0 (ZD (i:=6) sc.nd Y (Or.inl Y)) WX))) (Z1 (Xr (Va Yf TH RY Tv (Z 4) (Z6 (Zg UJ (VI WI (by rfl) T.Od boot_list (Z6 (Z 5) Z2)) (cl T.QU (Sw T) hr (by decide) rfl (Z6 (Z 6) Z2))) Z2)))))
   (Z1 (ZP (Z 4)))))))),?_⟩
  refine⟨_,Y,a,l,Y,hL,ok,fun H1 s1 e _=>?_,fun H1 c f s1 hf e bf=>?_⟩;·exact⟨_,Y,Y,_,Y,Y2 (DY s1 k (W' e))⟩
  ·have FA:VS t H1 a c l f:=⟨hL.up s1,ok,hf,(YY ok e).1,bf⟩;refine⟨_,Y,Y,_,Y,YJ ⟨_,Y,_,Y,a,c,l,f,Y,FA,OH ok e,fun H2 p s2 bE=>?_⟩⟩;have QR:=s1.trans s2;have pl:=N6 l f;have w9:∀x,x∈parts l f->x.2.length<=9:=fun x hx=>by
    obtain⟨_,w2,w3⟩:=LS ok (M_ l _ f x hx);exact ZE (Xf l.roads.length _ w3 w2) r9
   have Ut:RoadSpec.asked l .parts=says (parts l f).length++(parts l f).flatMap Ra:=by
    show ofFlow l false _=_;rw[Yb e];rfl
   obtain⟨ta,t1,t2,t3⟩:=bE;refine⟨_,Y,_,_,Y,.inl (Zz.of t1),(by show 1<=sizeLine;decide),fun D hD=>?_⟩;rw[Z3,t2];have s3:=ZY.new hD (.lst [.int ((parts l f).length:Int)]);refine⟨_,Y,p,Y,⟨_,Zz.of (s3 _ _ t1)⟩,?_⟩;refine XA (K:=K) (a:=p) (xs:=ta.map V.ref) (fun i σ H'=>(∃c5 c6,σ=[some (.ref a),some (.ref g),some (.ref c),some (.ref p),some (.ref D),c5,c6])/\ZY H2 H'/\IL H' D (says (parts l f).length++((parts l f).take i).flatMap Ra)) ⟨⟨none,none,Y⟩,s3,Z4⟩ (fun i σ H' _ q=>Zz.of (q.2.1 _ _ t1)) ?_ ?_
   ·rintro i x σ H3 hx ⟨⟨c5,c6,rfl⟩,s4,d4⟩;obtain⟨b,O,rfl⟩:=Yk hx;have il:i<(parts l f).length:=by rw[<-t2];exact(ZC.mp O).1
    obtain⟨x,y,g1,g2,g3,g4⟩:=t3 i b O;obtain⟨pt,jw⟩:∃pt,(parts l f)[i]=pt:=⟨_,Y⟩;have bD:(parts l f).getD i (0,[])=pt:=by rw[ZX,ZU il,<-jw];rfl
    rw[bD]at g2 g3 g4;have p9:=w9 pt (by rw[<-jw];exact W6 il);refine Ld (Vj.of (s4 _ _ g1)) ?_;refine⟨_,Y,.inl ⟨Y,_,Zz.of d4⟩,_,Y,_,_,Y,.inr (Vj.of (g2.up s4)),fun u hu=>?_⟩;have s5:=ZY.new hu (.lst [.int pt.1.num,.int pt.1.den]);refine⟨_,Y,y,pt.2,Y,s5 _ _ (s4 _ _ g3),by omega,fun H4 z _ s6 hz=>?_⟩;have Bt:=s5.trans s6;refine⟨u,z,_,_,Y,Y,s6 _ _ Z4,hz,?_,fun q hq=>?_⟩
    ·rw[Z3];unfold tells;rw[Z3,Zj];exact Y5 (YR (show 2+(pt.2.length+1)<=16000000 by omega))
    have s7:=ZY.new hq (.lst ([.int pt.1.num,.int pt.1.den]++(tells (pt.2.length::pt.2)).map V.int));have jY:=Bt.trans s7;refine⟨D,q,_,_,Y,Y,jY _ _ d4,Z4,?_,⟨_,_,Y⟩,(s4.trans jY).Zx hD _,?_⟩
    ·have J:=N5 ((parts l f).take i) fun x hx=>w9 x (List.mem_of_mem_take hx);have h2:=Jn p9;rw[XE]at J;rw[Z3,ZI];have h3:([V.int pt.1.num,V.int pt.1.den]++(tells (pt.2.length::pt.2)).map V.int).length=(Ra pt).length:=by
      unfold Ra;rw[ZI,ZI,Z3];rfl
     rw[h3];exact Y5 (YR (show 1+(((parts l f).take i).flatMap Ra).length+(Ra pt).length<=16000000 by omega))
    ·show upd _ _ _ _=_;have et:(parts l f).take (i+1)=(parts l f).take i++[pt]:=by
      rw[Xp,ZU il,jw];rfl
     have eP:[V.int pt.1.num,V.int pt.1.den]++(tells (pt.2.length::pt.2)).map V.int=(Ra pt).map V.int:=by
      unfold Ra;rw[Y1];rfl
     rw[Z4,et,eP];simp only[TN,Wa,List.flatMap_nil,XH,Y1,Wc]
   ·rintro σ H3 ⟨⟨c5,c6,rfl⟩,s4,d4⟩;rw[Z3,t2,X7]at d4;refine⟨_,Y,k H3 D (QR.free hD) (QR.trans s4) (by rw[Ut];exact d4) ?_⟩;rw[Ut,ZI];have J:=N5 (parts l f) w9;show 1+_<=300;omega
def oU:List Int->RoadSpec.Call->Prop:=fun gs c=>∃(q:Nat) (us:List Nat),gs=(q:Int)::(us.length:Int)::QM us/\c=.judge us q/\us.length<=65536
theorem jv(a b:V)(ys:List V):Jf (a::b::ys) (some 2) none=ys:=by
 unfold Jf;rw[HT.AQ,show(2:Int)=((2:Nat):Int)from rfl,HT.Jh];have e:min 2 (a::b::ys).length=2:=by
  rw[Zj,Zj];omega
 rw[e];show ys.take _=ys;refine PM ?_;rw[Zj,Zj];omega
theorem vI{p q:Nat}(hq:0<q)(eU:q<=1000000000)(hp:p<=1000000000):Rb 40 ((p:Rat)/(q:Rat)):=by
 have h0:(0:Int)<(q:Int):=by omega
 have e40:(2:Nat)^40=1099511627776:=by decide
 refine⟨?_,?_⟩
 ·rw[<-Oo,IK h0 rfl];have h2:=Int.ediv_le_self (b:=((Int.gcd (p:Int) (q:Int):Nat):Int)) (show(0:Int)<=(p:Int) by omega);have h3:0<=(p:Int)/((Int.gcd (p:Int) (q:Int):Nat):Int):=Int.ediv_nonneg (by omega) (by omega);unfold Bd;omega
 ·rw[<-Oo,LX h0 rfl];have h2:=Int.ediv_le_self (b:=((Int.gcd (p:Int) (q:Int):Nat):Int)) (show(0:Int)<=(q:Int) by omega);have h3:0<=(q:Int)/((Int.gcd (p:Int) (q:Int):Nat):Int):=Int.ediv_nonneg (by omega) (by omega);unfold Bd;omega
theorem DV(l:Land)(f:RhRoads.Flow):verdict l f=match wrong l false f with
 |none=>says 0
 |some x=>tells [x.1,x.2]:=by
 unfold verdict;cases wrong l false f with
 |none=>rfl
 |some x=>rfl
theorem FD(l:Land)(f:RhRoads.Flow):(verdict l f).length<=2:=by
 unfold verdict;split;·show 1<=2;decide
 ·show 2<=2;decide
theorem OD:ZN ["land","given","lower","uppers","upper"] ["land","given"] (Z0 (top 88)):=⟨Y,Y,Y,by decide+kernel,Y,by decide+kernel,by decide+kernel⟩
theorem OC(T:Txt K mg t):Y' P w K mg base XO 41 t.WG t.Tb ["land","given"] (VU t oU):=by
 have sc:=OD;refine T.UB.F.ok sc (fun vs H Q E h=>?_) (fun Yx A outer s H vs Q E hr h=>?_)
 ·obtain⟨a,g,l,gs,c,rfl,_⟩:=h;rfl
 ·obtain⟨a,g,l,gs,c,rfl,hL,ok,hg,⟨q,us,rfl,rfl,u6⟩,k⟩:=h;have r9:=ok.r9;have oV:=hL;obtain⟨la,rs,Fi⟩:=oV;obtain⟨TU,ea⟩:=Fi.obj;have rl:rs.length=l.roads.length:=Fi.len;have Ut:RoadSpec.asked l (.judge us q)=if q=0\/1000000000<q then no 1 else if us.length≠l.roads.length\/us.any (fun(x:Nat)=>decide (1000000000<x))=true then no 3 else(match wrong l false (us.map fun(x:Nat)=>(x:Rat)/(q:Rat))with
   |none=>says 0
   |some x=>tells [x.1,x.2]):=rfl
  refine⟨_,(Z5 (ZT (i:=2) sc.nd Y (Or.inr Y) (ZL ZO (Z 1) ZS (fun _ _=>rfl)))
   (Z5 (ZT (i:=3) sc.nd Y (Or.inl Y) (Hi DE (Z 1) (Jg ZS) xJ))
   (Z5 (YZ (RW (Ms RU RU ZS (Z 2) (gl T.Nf))) (Z1 (ZP (Zy (Z6 (gl T.X1) Z2)))) Zv)
   (Z5 (YZ (PW.pt (Vc (ZJ vw (YV Zi (by rfl) T.WB YU (Z6 (Z 3) Z2)) (YV Zi (by rfl) T.WB YU (Z6 (ZZ (Z 0) rfl) Z2)) (Zu _)) (VJ (ZJ N3 (wH Y (by rfl) T.pH (Z6 (Z 3) Z2) (xN ZS uf)) (gl T.Nf) (Zu _))))) (Z1 (ZP (Zy (Z6 (gl T.Ek) Z2)))) Zv)
   (Z1 (ZP (cl T.Jw (HZ T) hr (by decide) rfl (Z6 (Z 0) (Z6 (Sr Y sc.nd (Yy (Z 3)) (YB (own:=[("upper",4)]) (show Us ["land","given","lower","uppers","upper"] (Z0 (top 88)) _ _=true by decide+kernel)) (fun _ _ _ _ _=>by exact(ZD (i:=4) sc.nd Y (Or.inl Y))) (fun _ _ _ _ _=>by exact XS) (fun _ _ _ _ _=>by exact(cl T.ratio (Yo T) hr (by decide) rfl (Z6 (Z 4) (Z6 (Z 2) Z2))))) Z2))))))))),?_⟩
  refine⟨_,Y,_,_,_,.int (q:Int),Y,Y,Zz.of hg,S1 (j:=0) rfl,_,Y,_,Y,_,_,Y,Zz.of hg,fun u hu=>?_⟩;rw[show((q:Int)::(us.length:Int)::QM us).map V.int=V.int (q:Int)::V.int (us.length:Int)::(QM us).map V.int from rfl,jv];have s1:=ZY.new hu (.lst ((QM us).map V.int));have nj:IL (upd H u (.lst ((QM us).map V.int))) u (QM us):=Z4;generalize upd H u (.lst ((QM us).map V.int))=H1 at*;have bad:q=0\/1000000000<q->(1:Nat)<=sizeLine/\∀p,H1 p=none->Q (.ref p) (upd H1 p (.lst [.int (-1)])):=fun cc=>by
   rw[Z7 cc]at Ut;exact DY s1 k Ut
  refine⟨_,Y,_,_,Y,Y,_,Y,Ws (fun c1=>?_) (fun c1=>?_)⟩
  ·have c1:(1:Int)<=q:=ZG c1;refine⟨_,_,Y,Y,_,Y,?_⟩;by_cases c2:(q:Int)<=1000000000
   ·rw[ZR c2];refine YJ ?_;rw[Z8 (by omega)]at Ut;have yD:us.length≠l.roads.length\/us.any (fun(x:Nat)=>decide (1000000000<x))=true->(1:Nat)<=sizeLine/\∀p,H1 p=none->Q (.ref p) (upd H1 p (.lst [.int (-3)])):=fun cc=>by
     rw[Z7 cc]at Ut;exact DY s1 k Ut
    have tl:(QM us).length=us.length:=Z3 ..
    refine⟨_,Y,_,_,Y,.inl (Zz.of nj),_,Y,_,_,_,_,_,Y,(s1 _ _ ea),T.Land.cl,T.ZK,Y,_,_,Y,.inl (Zz.of (s1 _ _ Fi.lst)),Y,_,Y,?_⟩;rw[Z3,Z3,tl,rl];by_cases c3:us.length=l.roads.length
    ·have e3:(!decide (V.int (us.length:Int)=V.int (l.roads.length:Int)))=false:=by rw[c3];simp
     rw[e3];refine YJ ⟨_,Y,u,QM us,0,Y,Y,Zz.of nj,fun m hm=>⟨_,_,Y,Y,_,Y,?_⟩⟩;by_cases c4:(1000000000:Int)<m
     ·rw[ZR c4];refine Y2 (yD (.inr ?_));rcases hm with⟨_,rfl⟩|⟨hm,_⟩;·exact absurd c4 (by decide)
      ·obtain⟨x,hx,rfl⟩:=Zc.mp hm;exact UR.mpr ⟨x,hx,ZR (by omega)⟩
     ·rw[ZF c4];refine YJ ?_;have small:∀x,x∈us->x<=1000000000:=fun x hx=>by
       rcases hm with⟨h0,_⟩|⟨_,hm⟩
       ·have:us=[]:=by
         have:=congrArg List.length h0;rw[tl]at this;exact XF.mp this
        rw[this]at hx;cases hx
       ·have:=hm (x:Int) (Zc.mpr ⟨x,hx,Y⟩);omega
      rw[Z8 (by
       rintro(z|z);·exact z c3
       ·obtain⟨x,hx,hz⟩:=UR.mp z;have:=small x hx;have:=ZG hz;omega),<-DV]at Ut
      generalize hf:(us.map fun(x:Nat)=>(x:Rat)/(q:Rat))=f at*;have fe:∀e,e<us.length->on f e=((us.getD e 0:Nat):Rat)/(q:Rat):=fun e he=>by
       rw[<-hf];unfold on;rw[ZX,Zf,ZX,ZU he];rfl
      have fl:f.length=us.length:=by rw[<-hf,Z3]
      have x8:∀e,Rb 40 (on f e):=fun e=>by
       by_cases he:e<us.length
       ·rw[fe e he];refine vI (by omega) (by omega) (small _ ?_);rw[ZX,ZU he];exact W6 he
       ·rw[HX (by omega)];exact Rb.ofInt (x:=0) (Bd.zero _) (by omega)
      have nn:∀e,e<l.roads.length->0<=on f e:=fun e he=>by
       rw[fe e (by omega)];exact RF (VF _) (natCast_pos (by omega))
      refine⟨_,Y,_,Y,u,Y,⟨_,Zz.of nj⟩,fun D hD=>?_⟩;refine Vy (K:=K) (a:=u) (xs:=(QM us).map V.int) (fun i H'=>ZY H1 H'/\S7 H' D (on f) i) ⟨ZY.new hD _,S7.nil _ Z4⟩ (fun i H' _ z=>Zz.of (z.1 _ _ nj)) ?_ ?_
      ·rintro i x H2 hx ⟨s2,f2⟩;obtain⟨hi,rfl⟩:=int_at hx;rw[tl]at hi;have ex:(QM us).getD i 0=((us.getD i 0:Nat):Int):=by
        unfold QM;rw[ZX,Zf,ZX,ZU hi];rfl
       rw[ex];refine⟨Y,_,Y,_,Y,_,_,Y,by omega,fun p hp=>?_⟩;rw[Oo,<-fe i hi];have s3:=ZY.new hp (.tup [.int (on f i).num,.int (on f i).den]);obtain⟨acc,a1,a2,a3⟩:=(f2.up s3).snoc (c:=p) (by show upd _ _ _ _=_;rw[Z4]) (by omega);exact⟨acc,a1,a2,(s2.trans s3).Zx hD _,a3⟩
      ·rintro H2 ⟨s2,f2⟩;rw[Z3,tl]at f2;have f2:Bu H2 D f:=by
        show S7 H2 D (fun j=>f.getD j 0) f.length;rw[fl];exact f2
       have Z_:Rf t H2 a D l f:=⟨⟨hL.up (s1.trans s2),ok,f2,by omega,fun e=>(x8 e).mono (by decide)⟩,nn,x8⟩;exact⟨a,D,l,f,Y,Z_,fun H3 d nd s3 hd=>k H3 d ((s1.trans s2).free nd) (s1.trans (s2.trans s3)) (by rw[Ut];exact hd) (by rw[Ut];exact ZE (FD l f) (by decide))⟩
    ·have e3:(!decide (V.int (us.length:Int)=V.int (l.roads.length:Int)))=true:=by
      rw[ZF];·rfl
      ·intro z;injection z with z
       omega
     rw[e3];exact Y2 (Y2 (yD (.inl c3)))
   ·rw[ZF c2];exact Y2 (bad (.inr (by omega)))
  ·exact⟨_,Y,Y2 (bad (.inl (by
    have:¬(1:Int)<=q:=fun z=>c1 (ZR z);omega)))⟩
end
end Rw
namespace Rw
open PySem PySem.Spec PyProof.Rows L2 RR
open RhRoads (Road Land settled on total costTo ways wayCost leastOn parts partsOf wrong)
open RoadSpec (timeOf fraction fractions tells says no orNo ofFlow)
def uI(t:Yt):List (Int×Value):=[(7,.ref t.Ud),(8,.ref t.Uc),(9,.ref t.Ub),(10,.ref t.Ua),(11,.ref t.U7),(12,.ref t.U6),(13,.ref t.T_),(14,.ref t.V1),(15,.ref t.Vw),(16,.ref t.QY),(17,.ref t.T9),(18,.ref t.SQ),(19,.ref t.U5),(20,.ref t.WG)]
def yB(t:Yt):List (Int×Value):=[(1,.ref t.T8),(2,.ref t.SO),(3,.ref t.Vv),(4,.ref t.SN),(5,.ref t.SM),(6,.ref t.U4)]
def vH:List (Int×Int):=[(1,4),(2,4),(3,3),(4,3),(5,2),(6,1),(7,0),(8,0),(9,0),(10,0),(11,0),(12,0),(13,1),(14,1),(15,0),(16,1),(17,0),(18,1),(19,0),(20,2)]
structure Txt2(K:W.Frag)(mg:Str->Option Value)(t:Yt)(dA dC dG:Addr):Prop where
 T:Txt K mg t
 r_:Gv mg "ASKING" (.ref dA)
 FC:Gv mg "CHANGING" (.ref dC)
 oT:Gv mg "GIVEN" (.ref dG)
 kA:NS K dA (uI t)
 kC:NS K dC (yB t)
 kG:∃Zs,NS K dG Zs/\∀n g,(n,g)∈vH->∃tk,Zs.lookup n=some (.int g tk)
def vG(n:Int)(gs:List Int)(c:RoadSpec.Call):Prop:=(n=7/\c=.told)\/(n=8/\c=.flow)\/(n=9/\c=.time)\/(n=10/\c=.best)\/(n=11/\c=.price)\/(n=12/\c=.tolls)\/(n=13/\x6 .cost gs c)\/(n=14/\x6 .without gs c)\/(n=15/\c=.better)\/(n=16/\x6 .at_ gs c)\/(n=17/\c=.ways)\/(n=18/\x6 .way gs c)\/(n=19/\c=.parts)\/(n=20/\oU gs c)
section
variable{P:Program}{w:World}{K:W.Frag}{mg:Str->Option Value}{base:Heap}{t:Yt}{dA dC dG:Addr}
def vF(t:Yt):Sp:=fun vs H Q _=>∃a n g l gs c,vs=[.ref a,.int n,.ref g]/\WY t H a l/\Zk l/\IL H g gs/\vG n gs c/\∀H' d,H d=none->ZY H H'->IL H' d (RoadSpec.asked l c)->(RoadSpec.asked l c).length<=300->Q (.ref d) H'
theorem yy:ZN ["land","number","given"] ["land","number","given"] (Z0 (top 90)):=⟨Y,Y,Y,by decide+kernel,Y,by decide+kernel,by decide+kernel⟩
theorem yx(T2:Txt2 K mg t dA dC dG):Y' P w K mg base XO 44 t.CS t.CQ ["land","number","given"] (vF t):=by
 have T:=T2.T;have sc:=yy;refine T.asked.F.ok sc (fun vs H Q E h=>?_) (fun Yx A outer s H vs Q E hr h=>?_)
 ·obtain⟨a,n,g,l,gs,c,rfl,_⟩:=h;rfl
 ·obtain⟨a,n,g,l,gs,c,rfl,hL,ok,hg,hR,k⟩:=h;refine⟨_,(Z1 (ZP (Gn (IA (gl T2.r_) (Z 1) (fun _ _=>rfl)) (Z6 (Z 0) (Z6 (Z 2) Z2))))),?_⟩;rcases hR with⟨rfl,h⟩|⟨rfl,h⟩|⟨rfl,h⟩|⟨rfl,h⟩|⟨rfl,h⟩|⟨rfl,h⟩|⟨rfl,h⟩|⟨rfl,h⟩|⟨rfl,h⟩|⟨rfl,h⟩|⟨rfl,h⟩|⟨rfl,h⟩|⟨rfl,h⟩|⟨rfl,h⟩;·exact⟨_,Y,dA,_,7,_,.ref t.Ud,Y,T2.kA,Y,Y,Y,_,_,_,_,_,Y,T.Ol.F.kp,T.Ol.b,HS T,hr.mono (by decide),_,Y,_,Y,a,g,l,gs,c,Y,hL,ok,hg,h,k⟩
  ·exact⟨_,Y,dA,_,8,_,.ref t.Uc,Y,T2.kA,Y,Y,Y,_,_,_,_,_,Y,T.Oj.F.kp,T.Oj.b,HQ T,hr.mono (by decide),_,Y,_,Y,a,g,l,gs,c,Y,hL,ok,hg,h,k⟩
  ·exact⟨_,Y,dA,_,9,_,.ref t.Ub,Y,T2.kA,Y,Y,Y,_,_,_,_,_,Y,T.Oi.F.kp,T.Oi.b,HN T,hr.mono (by decide),_,Y,_,Y,a,g,l,gs,c,Y,hL,ok,hg,h,k⟩
  ·exact⟨_,Y,dA,_,10,_,.ref t.Ua,Y,T2.kA,Y,Y,Y,_,_,_,_,_,Y,T.Oh.F.kp,T.Oh.b,HL T,hr.mono (by decide),_,Y,_,Y,a,g,l,gs,c,Y,hL,ok,hg,h,k⟩
  ·exact⟨_,Y,dA,_,11,_,.ref t.U7,Y,T2.kA,Y,Y,Y,_,_,_,_,_,Y,T.Qc.F.kp,T.Qc.b,Kp T,hr.mono (by decide),_,Y,_,Y,a,g,l,gs,c,Y,hL,ok,hg,h,k⟩
  ·exact⟨_,Y,dA,_,12,_,.ref t.U6,Y,T2.kA,Y,Y,Y,_,_,_,_,_,Y,T.Qb.F.kp,T.Qb.b,Kn T,hr.mono (by decide),_,Y,_,Y,a,g,l,gs,c,Y,hL,ok,hg,h,k⟩
  ·exact⟨_,Y,dA,_,13,_,.ref t.T_,Y,T2.kA,Y,Y,Y,_,_,_,_,_,Y,T.Og.F.kp,T.Og.b,HJ T,hr.mono (by decide),_,Y,_,Y,a,g,l,gs,c,Y,hL,ok,hg,h,k⟩
  ·exact⟨_,Y,dA,_,14,_,.ref t.V1,Y,T2.kA,Y,Y,Y,_,_,_,_,_,Y,T.SI.F.kp,T.SI.b,MO T,hr.mono (by decide),_,Y,_,Y,a,g,l,gs,c,Y,hL,ok,hg,h,k⟩
  ·exact⟨_,Y,dA,_,15,_,.ref t.Vw,Y,T2.kA,Y,Y,Y,_,_,_,_,_,Y,T.Rm.F.kp,T.Rm.b,KW T,hr.mono (by decide),_,Y,_,Y,a,g,l,gs,c,Y,hL,ok,hg,h,k⟩
  ·exact⟨_,Y,dA,_,16,_,.ref t.QY,Y,T2.kA,Y,Y,Y,_,_,_,_,_,Y,T.Iy.F.kp,T.Iy.b,DW T,hr.mono (by decide),_,Y,_,Y,a,g,l,gs,c,Y,hL,ok,hg,h,k⟩
  ·exact⟨_,Y,dA,_,17,_,.ref t.T9,Y,T2.kA,Y,Y,Y,_,_,_,_,_,Y,T.Of.F.kp,T.Of.b,HH T,hr.mono (by decide),_,Y,_,Y,a,g,l,gs,c,Y,hL,ok,hg,h,k⟩
  ·exact⟨_,Y,dA,_,18,_,.ref t.SQ,Y,T2.kA,Y,Y,Y,_,_,_,_,_,Y,T.Lj.F.kp,T.Lj.b,FE T,hr.mono (by decide),_,Y,_,Y,a,g,l,gs,c,Y,hL,ok,hg,h,k⟩
  ·exact⟨_,Y,dA,_,19,_,.ref t.U5,Y,T2.kA,Y,Y,Y,_,_,_,_,_,Y,T.Qa.F.kp,T.Qa.b,Kl T,hr.mono (by decide),_,Y,_,Y,a,g,l,gs,c,Y,hL,ok,hg,h,k⟩
  ·exact⟨_,Y,dA,_,20,_,.ref t.WG,Y,T2.kA,Y,Y,Y,_,_,_,_,_,Y,T.UB.F.kp,T.UB.b,OC T,hr.mono (by decide),_,Y,_,Y,a,g,l,gs,c,Y,hL,ok,hg,h,k⟩
def r6:Sp:=fun vs H Q _=>∃a b:Int,vs=[.int a,.int b]/\Q (.bl (decide (a<=1000/\1<=b/\b<=1000))) H
theorem R8:ZN ["base","slope"] ["base","slope"] (Z0 (top 100)):=⟨Y,Y,Y,by decide+kernel,Y,by decide+kernel,by decide+kernel⟩
theorem VR(T:Txt K mg t):Y' P w K mg base XO 33 t.Vm t.Vl ["base","slope"] r6:=by
 have sc:=R8;refine T.Wk.F.ok sc (fun vs H Q E h=>?_) (fun Yx A outer s H vs Q E hr h=>?_)
 ·obtain⟨a,b,rfl,_⟩:=h;rfl
 ·obtain⟨a,b,rfl,k⟩:=h;refine⟨_,(Z1 (ZP (uw (DK RU (Z 0) (gl T.BG) (Zu _)) (ux (Hn RU RU ZS (Z 1) (gl T.Ei)))))),?_⟩;refine⟨_,Y,_,_,Y,Y,_,Y,Ws (fun c1=>?_) (fun c1=>?_)⟩
  ·have c1:a<=1000:=ZG c1;refine⟨_,Y,_,_,Y,Y,_,Y,Ws (fun c2=>?_) (fun c2=>?_)⟩
   ·have c2:1<=b:=ZG c2;refine⟨_,_,Y,Y,?_⟩;have e:decide (a<=1000/\1<=b/\b<=1000)=decide (b<=1000):=by by_cases q:b<=1000<;>simp[q,c1,c2]
    rw[e]at k;exact k
   ·have c2:¬1<=b:=fun q=>c2 (ZR q);have e:decide (a<=1000/\1<=b/\b<=1000)=false:=by simp[c2]
    rw[e]at k;exact k
  ·have c1:¬a<=1000:=fun q=>c1 (ZR q);have e:decide (a<=1000/\1<=b/\b<=1000)=false:=by simp[c1]
   rw[e]at k;exact k
end
end Rw
namespace Rw
open PySem PySem.Spec PyProof.Rows L2 RR
open RhRoads (Road Land)
open RoadSpec (tells says no changed)
theorem HG(H:Hp)(a:Addr)(x y:HO):upd (upd H a x) a y=upd H a y:=by
 funext b;by_cases q:b=a;·rw[q,Z4,Z4]
 ·rw[ZW q,ZW q,ZW q]
theorem Rk.road{t:Yt}{H:Hp}{a la ra ta ta' dr:Addr}{rs:List Addr}{l:Land}{e:Nat}{f:Road->Road}(h:Rk t H a la rs l)(Xt:rs[e]?=some ra)(er:H ra=some (.ins t.V0 dr (Nd (rd l e) ta)))(ft:Fr H ta' (f (rd l e)).toll):Rk t (upd H ra (.ins t.V0 dr (Nd (f (rd l e)) ta'))) a la rs (RoadSpec.one l e f):=by
 have he:e<l.roads.length:=by rw[<-h.len];exact(ZC.mp Xt).1
 obtain⟨TU,ea⟩:=h.obj;refine⟨⟨TU,?_⟩,?_,?_,h.nd,fun i rc K9=>?_⟩
 ·rw[ZW];·exact ea
  ·intro q;rw[q,er]at ea;have:=Zb ea;injection this with _ _ z
   cases z
 ·rw[SF h.lst er fun _ _ _ q=>by cases q]
 ·rw[h.len];show _=(l.roads.modify e _).length;rw[List.length_modify]
 ·rw[zf he];by_cases q:i=e
  ·subst q;rw[Xt]at K9;cases K9;rw[Z7 rfl];exact⟨ta',⟨dr,Z4⟩,SF ft er fun _ _ _ q=>by cases q⟩
  ·rw[Z8 q];exact(h.at_ i rc K9).ins er fun z=>q (As h.nd K9 (by rw[z];exact Xt))
theorem KU{x D:Addr}{fp:List Addr}(h:x∈fp)(n:D∉fp):x≠D:=fun q=>n (by rw[<-q];exact h)
def CA(t:Yt)(H:Hp)(v:V)(fp:List Addr):Option Land->Prop
 |none=>v=.Xs
 |some l=>∃a la rs,v=.ref a/\Rk t H a la rs l/\a∈fp/\la∈fp/\∀r,r∈rs->r∈fp
structure Q_(t:Yt)(H:Hp)(o:Addr)(st:Option Land)(fp:List Addr):Prop where
 obj:∃dx v,H o=some (.ins t.Wo dx [("land",v)])/\CA t H v fp st
 mem:o∈fp
theorem CA.up{t:Yt}{H H':Hp}{v:V}{fp:List Addr}{st:Option Land}(h:CA t H v fp st)(s:ZY H H'):CA t H' v fp st:=by
 cases st with
 |none=>exact h
 |some l=>
  obtain⟨a,la,rs,J,h2,h3⟩:=h;exact⟨a,la,rs,J,h2.up s,h3⟩
theorem Q_.up{t:Yt}{H H':Hp}{o:Addr}{st:Option Land}{fp:List Addr}(h:Q_ t H o st fp)(s:ZY H H'):Q_ t H' o st fp:=by
 obtain⟨dx,v,J,h2⟩:=h.obj;exact⟨⟨dx,v,s _ _ J,h2.up s⟩,h.mem⟩
theorem Q_.lst{t:Yt}{H:Hp}{o D:Addr}{xs:List V}{u:HO}{st:Option Land}{fp:List Addr}(h:Q_ t H o st fp)(hD:H D=some (.lst xs))(n:D∉fp):Q_ t (upd H D u) o st fp:=by
 obtain⟨dx,v,J,h2⟩:=h.obj;refine⟨⟨dx,v,by rw[ZW (KU h.mem n)];exact J,?_⟩,h.mem⟩;cases st with
 |none=>exact h2
 |some l=>
  obtain⟨a,la,rs,g1,g2,g3,g4,g5⟩:=h2;obtain⟨TU,ea⟩:=g2.obj;exact⟨a,la,rs,g1,⟨⟨TU,by rw[ZW (KU g3 n)];exact ea⟩,by rw[ZW (KU g4 n)];exact g2.lst,g2.len,g2.nd,fun i r e=>(g2.at_ i r e).lst hD⟩,g3,g4,g5⟩
def Back(t:Yt)(H:Hp)(o:Addr)(fp:List Addr)(st:Option Land)(Cz:List Int)(Q:VK):Prop:=∀H' d fp',Q_ t H' o st fp'->(∀b u,H b=some u->b∉fp->H' b=some u)->(∀b,b∈fp'->b∈fp\/H b=none)->H d=none->d∉fp'->IL H' d Cz->Cz.length<=300->Q (.ref d) H'
theorem Q_.HF{t:Yt}{H:Hp}{o:Addr}{st:Option Land}{fp:List Addr}(h:Q_ t H o st fp):∃fq,Q_ t H o st fq/\(∀b,b∈fq->b∈fp)/\∀b,b∈fq->∃u,H b=some u:=by
 obtain⟨dx,v,J,h2⟩:=h.obj;cases st with
 |none=>exact ⟨[o],⟨⟨dx,v,J,h2⟩,by simp⟩,fun b O=>by rw[Zp.mp O];exact h.mem,fun b O=>by rw[Zp.mp O];exact⟨_,J⟩⟩
 |some l=>
  obtain⟨a,la,rs,g1,g2,g3,g4,g5⟩:=h2;obtain⟨TU,ea⟩:=g2.obj;refine⟨o::a::la::rs,⟨⟨dx,v,J,a,la,rs,g1,g2,by simp,by simp,fun r hr=>by simp[hr]⟩,by simp⟩,fun b O=>?_,fun b O=>?_⟩
  ·rcases ZH.mp O with rfl|O;·exact h.mem
   rcases ZH.mp O with rfl|O;·exact g3
   rcases ZH.mp O with rfl|O;·exact g4
   ·exact g5 b O
  ·rcases ZH.mp O with rfl|O;·exact⟨_,J⟩
   rcases ZH.mp O with rfl|O;·exact⟨_,ea⟩
   rcases ZH.mp O with rfl|O;·exact⟨_,g2.lst⟩
   ·obtain⟨i,hi,bC⟩:=X8.mp O;obtain⟨ta,⟨dr,er⟩,_⟩:=g2.at_ i b (by rw[ZU hi,bC]);exact⟨_,er⟩
theorem Back.one{t:Yt}{H H1:Hp}{o:Addr}{st:Option Land}{fp:List Addr}{Cz:List Int}{Q:VK}(k:Back t H o fp st Cz Q)(h:Q_ t H o st fp)(s:ZY H H1){z:Int}(e:Cz=[z]):(1:Nat)<=sizeLine/\∀p,H1 p=none->Q (.ref p) (upd H1 p (.lst [.int z])):=by
 obtain⟨fq,f1,f2,f3⟩:=h.HF;refine⟨by decide,fun p hp=>?_⟩;have s2:=s.trans (ZY.new hp (.lst [.int z]));refine k _ p fq (f1.up s2) (fun b u O _=>s2 _ _ O) (fun b O=>.inl (f2 b O)) (s.free hp) (fun q=>?_) (by rw[e];exact Z4) (by rw[e];show 1<=300;decide);obtain⟨u,hu⟩:=f3 p q;rw[s.free hp]at hu;cases hu
theorem Back.done{t:Yt}{H H1:Hp}{o:Addr}{st:Option Land}{fp fp':List Addr}{Cz:List Int}{Q:VK}(k:Back t H o fp st Cz Q)(h:Q_ t H1 o st fp')(kp:∀b u,H b=some u->b∉fp->H1 b=some u)(hold:∀b u,H b=some u->∃v,H1 b=some v)(fr:∀b,b∈fp'->b∈fp\/H b=none){z:Int}(e:Cz=[z]):(1:Nat)<=sizeLine/\∀p,H1 p=none->Q (.ref p) (upd H1 p (.lst [.int z])):=by
 obtain⟨fq,f1,f2,f3⟩:=h.HF;refine⟨by decide,fun p hp=>?_⟩;have s2:=ZY.new hp (.lst [.int z]);have jW:H p=none:=by
  cases q:H p with
  |none=>rfl
  |some u=>
   obtain⟨v,hv⟩:=hold p u q;rw[hp]at hv;cases hv
 refine k _ p fq (f1.up s2) (fun b u O hn=>s2 _ _ (kp b u O hn)) (fun b O=>fr b (f2 b O)) jW (fun q=>?_) (by rw[e];exact Z4) (by rw[e];show 1<=300;decide);obtain⟨u,hu⟩:=f3 p q;rw[hp]at hu;cases hu
theorem VT{ns:List Int}{k:Nat}{z:Int}(h:ns[k]?=some z):Q6 (ns.map V.int) (k:Int)=some (.int z):=S1 (by rw[Zf,h];rfl)
section
variable{P:Program}{w:World}{K:W.Frag}{mg:Str->Option Value}{base:Heap}{t:Yt}{dA dC dG:Addr}
def Bo(t:Yt):Sp:=fun vs H Q _=>∃p dx,vs=[.ref p]/\H p=some (.ins t.Wo dx [])/\Q .Xs (upd H p (.ins t.Wo dx [("land",.Xs)]))
theorem KS:ZN ["self"] ["self"] (Z0 (inClass (top 99) 0)):=⟨Y,Y,Y,by decide+kernel,Y,by decide+kernel,by decide+kernel⟩
theorem KR(T:Txt K mg t):Y' P w K mg base XO 33 t.Qw t.Qv ["self"] (Bo t):=by
 have sc:=KS;refine T.UA.F.ok sc (fun vs H Q E h=>?_) (fun Yx A outer s H vs Q E hr h=>?_)
 ·obtain⟨p,dx,rfl,_⟩:=h;rfl
 ·obtain⟨p,dx,rfl,hp,k⟩:=h;refine⟨_,(Z1 (YK (Z 0) XW Y)),?_⟩;exact⟨_,Y,_,_,_,_,Y,hp,T.UA.cl,T.Yh,(by show 0<1000;decide),k⟩
def Fz(t:Yt)(R:List Int->RoadSpec.Call->Prop):Sp:=fun vs H Q _=>∃o g l gs c fp,vs=[.ref o,.ref g]/\Q_ t H o (some l) fp/\Zk l/\IL H g gs/\R gs c/\Back t H o fp (some (changed l c).1) (changed l c).2 Q
def gD(of:Nat->Nat->RoadSpec.Call):List Int->RoadSpec.Call->Prop:=fun gs c=>∃x y:Nat,gs=[(x:Int),(y:Int)]/\c=of x y
def ni(of:Nat->Nat->Nat->RoadSpec.Call):List Int->RoadSpec.Call->Prop:=fun gs c=>∃x y z:Nat,gs=[(x:Int),(y:Int),(z:Int)]/\c=of x y z
def oS(of:Nat->Nat->Nat->Nat->RoadSpec.Call):List Int->RoadSpec.Call->Prop:=fun gs c=>∃x y z u:Nat,gs=[(x:Int),(y:Int),(z:Int),(u:Int)]/\c=of x y z u
theorem Kk:ZN ["office","given","land"] ["office","given"] (Z0 (top 106)):=⟨Y,Y,Y,by decide+kernel,Y,by decide+kernel,by decide+kernel⟩
theorem Kj(T:Txt K mg t):Y' P w K mg base XO 34 t.U4 t.O2 ["office","given"] (Fz t (x6 .demand)):=by
 have sc:=Kk;refine T.P_.F.ok sc (fun vs H Q E h=>?_) (fun Yx A outer s H vs Q E hr h=>?_)
 ·obtain⟨o,g,l,gs,c,fp,rfl,_⟩:=h;rfl
 ·obtain⟨o,g,l,gs,c,fp,rfl,Z9,ok,hg,⟨v,rfl,rfl⟩,k⟩:=h;obtain⟨dx,lv,eo,a,la,rs,rfl,hL,m1,m2,m3⟩:=Z9.obj;obtain⟨TU,ea⟩:=hL.obj;have cd:changed l (.demand v)=if v=0\/1000<v then(l,no 1)else({l with units:=v},says 0):=rfl
  refine⟨_,(Z5 (ZT (i:=2) sc.nd Y (Or.inl Y) (ZZ (Z 0) rfl))
   (Z5 (YZ (RW (T4 (cl T.QX (SG T) hr (by decide) rfl (Z6 (ZL ZO (Z 1) ZS (fun _ _=>rfl)) Z2)))) (Z1 (ZP (Zy (Z6 (gl T.X1) Z2)))) Zv)
   (Z5 (YK (Z 2) (ZL ZO (Z 1) ZS (fun _ _=>rfl)) rfl)
   (Z1 (ZP (Zy (Z6 ZS Z2))))))),?_⟩
  refine⟨_,Y,_,_,_,_,_,Y,eo,T.UA.cl,T.Yh,Y,_,Y,_,_,_,_,Y,Y,Zz.of hg,Su v,_,Y,_,Y,?_⟩;by_cases cc:v=0\/1000<v
  ·have e:decide (1<=(v:Int)/\(v:Int)<=1000)=false:=ZF (by omega);rw[e];rw[Z7 cc]at cd;rw[cd]at k;exact Y2 (Back.one k Z9 (ZY.refl H) rfl)
  ·have e:decide (1<=(v:Int)/\(v:Int)<=1000)=true:=ZR (by omega);rw[e];rw[Z8 cc]at cd;rw[cd]at k;refine YJ ⟨_,Y,_,_,_,_,Y,Y,Zz.of hg,Su v,_,Y,_,_,_,_,Y,ea,T.Land.cl,T.Xw,(by show 5<1000;decide),?_⟩;refine Back.done k (fp':=fp) ⟨⟨dx,.ref a,?_,a,la,rs,Y,⟨⟨TU,Z4⟩,?_,hL.len,hL.nd,fun i rc K9=>?_⟩,m1,m2,m3⟩,Z9.mem⟩ (fun b u O hn=>?_) (fun b u O=>?_) (fun b O=>.inl O) rfl
   ·rw[ZW];·exact eo
    ·intro q;rw[q,ea]at eo;have:=Zb eo;injection this with _ _ z
     cases z
   ·rw[SF hL.lst ea fun _ _ _ q=>by cases q]
   ·refine WK.ins (hL.at_ i rc K9) ea fun q=>?_;obtain⟨ta,⟨pE,er⟩,_⟩:=hL.at_ i rc K9;rw[q,ea]at er;have:=Zb er;injection this with _ _ z
    cases z
   ·rw[ZW (KU m1 hn).symm];exact O
   ·by_cases q:b=a
    ·rw[q];exact⟨_,Z4⟩
    ·exact⟨u,by rw[ZW q];exact O⟩
theorem Back.road{t:Yt}{H H1:Hp}{o dx a la ra ta ta' dr:Addr}{rs fp:List Addr}{l:Land}{e:Nat}{f:Road->Road}{Cz:List Int}{Q:VK}{z:Int}(k:Back t H o fp (some (RoadSpec.one l e f)) Cz Q)(Z9:Q_ t H o (some l) fp)(eo:H o=some (.ins t.Wo dx [("land",.ref a)]))(hL:Rk t H a la rs l)(m1:a∈fp)(m2:la∈fp)(m3:∀r,r∈rs->r∈fp)(s:ZY H H1)(Xt:rs[e]?=some ra)(er:H ra=some (.ins t.V0 dr (Nd (rd l e) ta)))(ft:Fr H1 ta' (f (rd l e)).toll)(ea:Cz=[z]):(1:Nat)<=sizeLine/\∀p,upd H1 ra (.ins t.V0 dr (Nd (f (rd l e)) ta')) p=none->Q (.ref p) (upd (upd H1 ra (.ins t.V0 dr (Nd (f (rd l e)) ta'))) p (.lst [.int z])):=by
 have kL:ra∈fp:=m3 ra (Y9 Xt);refine Back.done k (fp':=fp) ⟨⟨dx,.ref a,?_,a,la,rs,Y,Rk.road (hL.up s) Xt (s _ _ er) ft,m1,m2,m3⟩,Z9.mem⟩ (fun b u O hn=>?_) (fun b u O=>?_) (fun b O=>.inl O) ea
 ·rw[ZW];·exact s _ _ eo
  ·intro q;rw[q,er]at eo;have:=Zb eo;injection this with _ _ z
   cases z
 ·rw[ZW (KU kL hn).symm];exact s _ _ O
 ·by_cases q:b=ra
  ·rw[q];exact⟨_,Z4⟩
  ·exact⟨u,by rw[ZW q];exact s _ _ O⟩
theorem Fy:ZN ["office","given","land","road"] ["office","given"] (Z0 (top 105)):=⟨Y,Y,Y,by decide+kernel,Y,by decide+kernel,by decide+kernel⟩
theorem Fx(T:Txt K mg t):Y' P w K mg base XO 33 t.SM t.Lw ["office","given"] (Fz t (gD .shut)):=by
 have sc:=Fy;refine T.Lg.F.ok sc (fun vs H Q E h=>?_) (fun Yx A outer s H vs Q E hr h=>?_)
 ·obtain⟨o,g,l,gs,c,fp,rfl,_⟩:=h;rfl
 ·obtain⟨o,g,l,gs,c,fp,rfl,Z9,ok,hg,⟨x,y,rfl,rfl⟩,k⟩:=h;obtain⟨dx,lv,eo,a,la,rs,rfl,hL,m1,m2,m3⟩:=Z9.obj;obtain⟨TU,ea⟩:=hL.obj;have rl:rs.length=l.roads.length:=hL.len;have g0:Q6 ([(x:Int),(y:Int)].map V.int) 0=some (.int (x:Int)):=VT (k:=0) rfl;have g1:Q6 ([(x:Int),(y:Int)].map V.int) 1=some (.int (y:Int)):=VT (k:=1) rfl;have cd:changed l (.shut x y)=if l.roads.length<=x then(l,no 2)else if 1<y then(l,no 1)else(RoadSpec.one l x fun(r:Road)=>{r with shut:=y==1},says 0):=rfl
  refine⟨_,(Z5 (ZT (i:=2) sc.nd Y (Or.inl Y) (ZZ (Z 0) rfl))
   (Z5 (YZ (ZJ Ss (ZL ZO (Z 1) ZS (fun _ _=>rfl)) (YV Zi (by rfl) T.WB YU (Z6 (ZZ (Z 2) rfl) Z2)) (Zu _)) (Z1 (ZP (Zy (Z6 (gl T.VC) Z2)))) Zv)
   (Z5 (YZ (ZJ N3 (ZL ZO (Z 1) ZS (fun _ _=>rfl)) ZS (Zu _)) (Z1 (ZP (Zy (Z6 (gl T.X1) Z2)))) Zv)
   (Z5 (ZT (i:=3) sc.nd Y (Or.inl Y) (ZL ZO (ZZ (Z 2) rfl) (ZL ZO (Z 1) ZS (fun _ _=>rfl)) (fun _ _=>rfl)))
   (Z5 (YK (Z 3) (ZL ZO (Z 1) ZS (fun _ _=>rfl)) rfl)
   (Z1 (ZP (Zy (Z6 ZS Z2))))))))),?_⟩
  refine⟨_,Y,_,_,_,_,_,Y,eo,T.UA.cl,T.Yh,Y,_,Y,_,_,_,_,Y,Y,Zz.of hg,g0,_,Y,_,_,_,_,_,Y,ea,T.Land.cl,T.ZK,Y,_,_,Y,.inl (Zz.of hL.lst),_,_,Y,Y,_,Y,?_⟩;rw[Z3,rl];by_cases c1:l.roads.length<=x
  ·rw[ZR (show(l.roads.length:Int)<=(x:Int) by omega)];rw[Z7 c1]at cd;rw[cd]at k;exact Y2 (Back.one k Z9 (ZY.refl H) rfl)
  ·rw[ZF (show¬(l.roads.length:Int)<=(x:Int) by omega)];rw[Z8 c1]at cd;refine YJ ⟨_,Y,_,_,_,_,Y,Y,Zz.of hg,g1,_,_,Y,Y,_,Y,?_⟩;by_cases c2:1<y
   ·rw[ZR (show(1:Int)<(y:Int) by omega)];rw[Z7 c2]at cd;rw[cd]at k;exact Y2 (Back.one k Z9 (ZY.refl H) rfl)
   ·rw[ZF (show¬(1:Int)<(y:Int) by omega)];rw[Z8 c2]at cd;rw[cd]at k;obtain⟨ra,Xt⟩:∃ra,rs[x]?=some ra:=⟨rs[x]'(by omega),ZU (by omega)⟩;obtain⟨ta,⟨dr,er⟩,ft⟩:=hL.at_ x ra Xt;refine YJ ⟨_,Y,_,_,_,_,_,Y,ea,T.Land.cl,T.ZK,Y,_,Y,_,_,_,_,Y,Y,Zz.of hg,g0,_,_,_,_,Y,Y,Zz.of hL.lst,YI Xt,?_⟩;refine⟨_,Y,_,_,_,_,Y,Y,Zz.of hg,g1,_,Y,_,_,_,_,Y,er,T.Road.cl,T.X0,(by show 6<1000;decide),?_⟩;have:=Back.road k Z9 eo hL m1 m2 m3 (ZY.refl H) Xt er (ta':=ta) ft rfl;have e:S3 "shut" (V.int (y:Int)) (Nd (rd l x) ta)=Nd {rd l x with shut:=y==1} ta:=by
     have hy:y=0\/y=1:=by omega
     rcases hy with rfl|rfl<;>rfl
    rw[e];exact this
end
end Rw
namespace Rw
open PySem PySem.Spec PyProof.Rows L2 RR
open RhRoads (Road Land)
open RoadSpec (tells says no changed)
section
variable{P:Program}{w:World}{K:W.Frag}{mg:Str->Option Value}{base:Heap}{t:Yt}{dA dC dG:Addr}
theorem Fw:ZN ["office","given","land","upper","lower","road"] ["office","given"] (Z0 (top 104)):=⟨Y,Y,Y,by decide+kernel,Y,by decide+kernel,by decide+kernel⟩
theorem Fv(T:Txt K mg t):Y' P w K mg base XO 35 t.SN t.Lx ["office","given"] (Fz t (ni .toll)):=by
 have sc:=Fw;refine T.Lh.F.ok sc (fun vs H Q E h=>?_) (fun Yx A outer s H vs Q E hr h=>?_)
 ·obtain⟨o,g,l,gs,c,fp,rfl,_⟩:=h;rfl
 ·obtain⟨o,g,l,gs,c,fp,rfl,Z9,ok,hg,⟨x,y,z,rfl,rfl⟩,k⟩:=h;obtain⟨dx,lv,eo,a,la,rs,rfl,hL,m1,m2,m3⟩:=Z9.obj;obtain⟨TU,ea⟩:=hL.obj;have rl:rs.length=l.roads.length:=hL.len;have g0:Q6 ([(x:Int),(y:Int),(z:Int)].map V.int) 0=some (.int (x:Int)):=VT (k:=0) rfl;have g1:Q6 ([(x:Int),(y:Int),(z:Int)].map V.int) 1=some (.int (y:Int)):=VT (k:=1) rfl;have g2:Q6 ([(x:Int),(y:Int),(z:Int)].map V.int) 2=some (.int (z:Int)):=VT (k:=2) rfl;have cd:changed l (.toll x y z)=if l.roads.length<=x then(l,no 2)else if z=0\/1000000<z\/1000000<y then(l,no 1)else(RoadSpec.one l x fun(r:Road)=>{r with toll:=(y:Rat)/(z:Rat)},says 0):=rfl
  refine⟨_,(Z5 (ZT (i:=2) sc.nd Y (Or.inl Y) (ZZ (Z 0) rfl))
   (Z5 (ZT (i:=3) sc.nd Y (Or.inl Y) (ZL ZO (Z 1) ZS (fun _ _=>rfl)))
   (Z5 (ZT (i:=4) sc.nd Y (Or.inl Y) (ZL ZO (Z 1) ZS (fun _ _=>rfl)))
   (Z5 (YZ (ZJ Ss (ZL ZO (Z 1) ZS (fun _ _=>rfl)) (YV Zi (by rfl) T.WB YU (Z6 (ZZ (Z 2) rfl) Z2)) (Zu _)) (Z1 (ZP (Zy (Z6 (gl T.VC) Z2)))) Zv)
   (Z5 (YZ (PW.pt (Vc (RW (Ms RU RU ZS (Z 4) (gl T.OX))) (VJ (ZJ N3 (Z 3) (gl T.OX) (Zu _))))) (Z1 (ZP (Zy (Z6 (gl T.X1) Z2)))) Zv)
   (Z5 (ZT (i:=5) sc.nd Y (Or.inl Y) (ZL ZO (ZZ (Z 2) rfl) (ZL ZO (Z 1) ZS (fun _ _=>rfl)) (fun _ _=>rfl)))
   (Z5 (YK (Z 5) (cl T.ratio (Yo T) hr (by decide) rfl (Z6 (Z 3) (Z6 (Z 4) Z2))) rfl)
   (Z1 (ZP (Zy (Z6 ZS Z2))))))))))),?_⟩
  refine⟨_,Y,_,_,_,_,_,Y,eo,T.UA.cl,T.Yh,Y,_,Y,_,_,_,_,Y,Y,Zz.of hg,g1,_,Y,_,_,_,_,Y,Y,Zz.of hg,g2,_,Y,_,_,_,_,Y,Y,Zz.of hg,g0,_,Y,_,_,_,_,_,Y,ea,T.Land.cl,T.ZK,Y,_,_,Y,.inl (Zz.of hL.lst),_,_,Y,Y,_,Y,?_⟩;rw[Z3,rl];by_cases c1:l.roads.length<=x
  ·rw[ZR (show(l.roads.length:Int)<=(x:Int) by omega)];rw[Z7 c1]at cd;rw[cd]at k;exact Y2 (Back.one k Z9 (ZY.refl H) rfl)
  ·rw[ZF (show¬(l.roads.length:Int)<=(x:Int) by omega)];rw[Z8 c1]at cd;have bad:z=0\/1000000<z\/1000000<y->(1:Nat)<=sizeLine/\∀p,H p=none->Q (.ref p) (upd H p (.lst [.int (-1)])):=fun cc=>by
    rw[Z7 cc]at cd;rw[cd]at k;exact Back.one k Z9 (ZY.refl H) rfl
   refine YJ ⟨_,Y,_,_,Y,Y,_,Y,Ws (fun q1=>?_) (fun q1=>?_)⟩
   ·have q1:(1:Int)<=z:=ZG q1;refine⟨_,_,Y,Y,_,Y,?_⟩;by_cases q2:(z:Int)<=1000000
    ·rw[ZR q2];refine YJ ⟨_,Y,_,_,Y,Y,_,Y,?_⟩;by_cases q3:(1000000:Int)<y
     ·rw[ZR q3];exact Y2 (bad (.inr (.inr (by omega))))
     ·rw[ZF q3];rw[Z8 (by omega)]at cd;rw[cd]at k;obtain⟨ra,Xt⟩:∃ra,rs[x]?=some ra:=⟨rs[x]'(by omega),ZU (by omega)⟩;obtain⟨ta,⟨dr,er⟩,ft⟩:=hL.at_ x ra Xt;refine YJ ⟨_,Y,_,_,_,_,_,Y,ea,T.Land.cl,T.ZK,Y,_,Y,_,_,_,_,Y,Y,Zz.of hg,g0,_,_,_,_,Y,Y,Zz.of hL.lst,YI Xt,?_⟩;refine⟨_,Y,_,Y,_,_,Y,by omega,fun p hp=>?_⟩;rw[Oo];have s1:=ZY.new hp (.tup [.int ((y:Rat)/(z:Rat)).num,.int ((y:Rat)/(z:Rat)).den]);have bA:=s1 _ _ er;refine⟨_,Y,_,_,_,_,Y,bA,T.Road.cl,T.Xc,(by show 6<1000;decide),?_⟩;exact Back.road k Z9 eo hL m1 m2 m3 s1 Xt er (ta':=p) Z4 rfl
    ·rw[ZF q2];exact Y2 (Y2 (bad (.inr (.inl (by omega)))))
   ·have q1:¬(1:Int)<=z:=fun q=>q1 (ZR q);exact⟨_,Y,Y2 (Y2 (bad (.inl (by omega))))⟩
theorem KQ:ZN ["office","given","land","road"] ["office","given"] (Z0 (top 103)):=⟨Y,Y,Y,by decide+kernel,Y,by decide+kernel,by decide+kernel⟩
theorem KP(T:Txt K mg t):Y' P w K mg base XO 34 t.Vv t.Qx ["office","given"] (Fz t (ni .change)):=by
 have sc:=KQ;refine T.Rl.F.ok sc (fun vs H Q E h=>?_) (fun Yx A outer s H vs Q E hr h=>?_)
 ·obtain⟨o,g,l,gs,c,fp,rfl,_⟩:=h;rfl
 ·obtain⟨o,g,l,gs,c,fp,rfl,Z9,ok,hg,⟨x,y,z,rfl,rfl⟩,k⟩:=h;obtain⟨dx,lv,eo,a,la,rs,rfl,hL,m1,m2,m3⟩:=Z9.obj;obtain⟨TU,ea⟩:=hL.obj;have rl:rs.length=l.roads.length:=hL.len;have g0:Q6 ([(x:Int),(y:Int),(z:Int)].map V.int) 0=some (.int (x:Int)):=VT (k:=0) rfl;have g1:Q6 ([(x:Int),(y:Int),(z:Int)].map V.int) 1=some (.int (y:Int)):=VT (k:=1) rfl;have g2:Q6 ([(x:Int),(y:Int),(z:Int)].map V.int) 2=some (.int (z:Int)):=VT (k:=2) rfl;have cd:changed l (.change x y z)=if l.roads.length<=x then(l,no 2)else if 1000<y\/z=0\/1000<z then(l,no 1)else(RoadSpec.one l x fun(r:Road)=>{r with base:=y,slope:=z},says 0):=rfl
  refine⟨_,(Z5 (ZT (i:=2) sc.nd Y (Or.inl Y) (ZZ (Z 0) rfl))
   (Z5 (YZ (ZJ Ss (ZL ZO (Z 1) ZS (fun _ _=>rfl)) (YV Zi (by rfl) T.WB YU (Z6 (ZZ (Z 2) rfl) Z2)) (Zu _)) (Z1 (ZP (Zy (Z6 (gl T.VC) Z2)))) Zv)
   (Z5 (YZ (RW (T4 (cl T.Wk (VR T) hr (by decide) rfl (Z6 (ZL ZO (Z 1) ZS (fun _ _=>rfl)) (Z6 (ZL ZO (Z 1) ZS (fun _ _=>rfl)) Z2))))) (Z1 (ZP (Zy (Z6 (gl T.X1) Z2)))) Zv)
   (Z5 (ZT (i:=3) sc.nd Y (Or.inl Y) (ZL ZO (ZZ (Z 2) rfl) (ZL ZO (Z 1) ZS (fun _ _=>rfl)) (fun _ _=>rfl)))
   (Z5 (YK (Z 3) (ZL ZO (Z 1) ZS (fun _ _=>rfl)) rfl)
   (Z5 (YK (Z 3) (ZL ZO (Z 1) ZS (fun _ _=>rfl)) rfl)
   (Z1 (ZP (Zy (Z6 ZS Z2)))))))))),?_⟩
  refine⟨_,Y,_,_,_,_,_,Y,eo,T.UA.cl,T.Yh,Y,_,Y,_,_,_,_,Y,Y,Zz.of hg,g0,_,Y,_,_,_,_,_,Y,ea,T.Land.cl,T.ZK,Y,_,_,Y,.inl (Zz.of hL.lst),_,_,Y,Y,_,Y,?_⟩;rw[Z3,rl];by_cases c1:l.roads.length<=x
  ·rw[ZR (show(l.roads.length:Int)<=(x:Int) by omega)];rw[Z7 c1]at cd;rw[cd]at k;exact Y2 (Back.one k Z9 (ZY.refl H) rfl)
  ·rw[ZF (show¬(l.roads.length:Int)<=(x:Int) by omega)];rw[Z8 c1]at cd;refine YJ ⟨_,Y,_,_,_,_,Y,Y,Zz.of hg,g1,_,Y,_,_,_,_,Y,Y,Zz.of hg,g2,_,_,Y,_,Y,?_⟩;by_cases c2:1000<y\/z=0\/1000<z
   ·rw[ZF (show¬((y:Int)<=1000/\1<=(z:Int)/\(z:Int)<=1000) by omega)];rw[Z7 c2]at cd;rw[cd]at k;exact Y2 (Back.one k Z9 (ZY.refl H) rfl)
   ·rw[ZR (show((y:Int)<=1000/\1<=(z:Int)/\(z:Int)<=1000) by omega)];rw[Z8 c2]at cd;rw[cd]at k;obtain⟨ra,Xt⟩:∃ra,rs[x]?=some ra:=⟨rs[x]'(by omega),ZU (by omega)⟩;obtain⟨ta,⟨dr,er⟩,ft⟩:=hL.at_ x ra Xt;refine YJ ⟨_,Y,_,_,_,_,_,Y,ea,T.Land.cl,T.ZK,Y,_,Y,_,_,_,_,Y,Y,Zz.of hg,g0,_,_,_,_,Y,Y,Zz.of hL.lst,YI Xt,?_⟩;refine⟨_,Y,_,_,_,_,Y,Y,Zz.of hg,g1,_,Y,_,_,_,_,Y,er,T.Road.cl,T.WM,(by show 6<1000;decide),?_⟩;refine⟨_,Y,_,_,_,_,Y,Y,Zz.of (SF hg er fun _ _ _ q=>by cases q),g2,_,Y,_,_,_,_,Y,Z4,T.Road.cl,T.Xx,(by show 6<1000;decide),?_⟩;rw[HG];exact Back.road k Z9 eo hL m1 m2 m3 (ZY.refl H) Xt er (ta':=ta) ft rfl
theorem Fu:ZN ["office","given","land","tail","head","base","slope"] ["office","given"] (Z0 (top 102)):=⟨Y,Y,Y,by decide+kernel,Y,by decide+kernel,by decide+kernel⟩
theorem Ft(T:Txt K mg t):Y' P w K mg base XO 37 t.SO t.Ly ["office","given"] (Fz t (oS .road)):=by
 have sc:=Fu;refine T.Li.F.ok sc (fun vs H Q E h=>?_) (fun Yx A outer s H vs Q E hr h=>?_)
 ·obtain⟨o,g,l,gs,c,fp,rfl,_⟩:=h;rfl
 ·obtain⟨o,g,l,gs,c,fp,rfl,Z9,ok,hg,⟨x,y,z,u,rfl,rfl⟩,k⟩:=h;obtain⟨dx,lv,eo,a,la,rs,rfl,hL,m1,m2,m3⟩:=Z9.obj;obtain⟨TU,ea⟩:=hL.obj;have rl:rs.length=l.roads.length:=hL.len;have g0:Q6 ([(x:Int),(y:Int),(z:Int),(u:Int)].map V.int) 0=some (.int (x:Int)):=VT (k:=0) rfl;have g1:Q6 ([(x:Int),(y:Int),(z:Int),(u:Int)].map V.int) 1=some (.int (y:Int)):=VT (k:=1) rfl;have g2:Q6 ([(x:Int),(y:Int),(z:Int),(u:Int)].map V.int) 2=some (.int (z:Int)):=VT (k:=2) rfl;have g3:Q6 ([(x:Int),(y:Int),(z:Int),(u:Int)].map V.int) 3=some (.int (u:Int)):=VT (k:=3) rfl;have cd:changed l (.road x y z u)=if l.places<=x\/l.places<=y\/x=y then(l,no 2)else if 1000<z\/u=0\/1000<u then(l,no 1)else if 9<=l.roads.length then(l,no 5)else({l with roads:=l.roads++[⟨x,y,z,u,0,false⟩]},says l.roads.length):=rfl
  refine⟨_,(Z5 (ZT (i:=2) sc.nd Y (Or.inl Y) (ZZ (Z 0) rfl))
   (Z5 (ZT (i:=3) sc.nd Y (Or.inl Y) (ZL ZO (Z 1) ZS (fun _ _=>rfl)))
   (Z5 (ZT (i:=4) sc.nd Y (Or.inl Y) (ZL ZO (Z 1) ZS (fun _ _=>rfl)))
   (Z5 (ZT (i:=5) sc.nd Y (Or.inl Y) (ZL ZO (Z 1) ZS (fun _ _=>rfl)))
   (Z5 (ZT (i:=6) sc.nd Y (Or.inl Y) (ZL ZO (Z 1) ZS (fun _ _=>rfl)))
   (Z5 (YZ (PW.pt (Vc (ZJ Ss (Z 3) (ZZ (Z 2) rfl) (Zu _)) (Vc (ZJ Ss (Z 4) (ZZ (Z 2) rfl) (Zu _)) (VJ (ZJ Vb (Z 3) (Z 4) (Zu _)))))) (Z1 (ZP (Zy (Z6 (gl T.VC) Z2)))) Zv)
   (Z5 (YZ (RW (T4 (cl T.Wk (VR T) hr (by decide) rfl (Z6 (Z 5) (Z6 (Z 6) Z2))))) (Z1 (ZP (Zy (Z6 (gl T.X1) Z2)))) Zv)
   (Z5 (YZ (ZJ Ss (YV Zi (by rfl) T.WB YU (Z6 (ZZ (Z 2) rfl) Z2)) (gl T.Ej) (Zu _)) (Z1 (ZP (Zy (Z6 (gl T.kT) Z2)))) Zv)
   (Z5 (Xr (Va Yf W5 WT Xk (ZZ (Z 2) rfl) (Z6 (mk T.Road (OV T) hr (by decide) rfl (Z6 (Z 3) (Z6 (Z 4) (Z6 (Z 5) (Z6 (Z 6) Z2))))) Z2)))
   (Z1 (ZP (Zy (Z6 (Zg Qn (YV Zi (by rfl) T.WB YU (Z6 (ZZ (Z 2) rfl) Z2)) ZS) Z2))))))))))))),?_⟩
  refine⟨_,Y,_,_,_,_,_,Y,eo,T.UA.cl,T.Yh,Y,_,Y,_,_,_,_,Y,Y,Zz.of hg,g0,_,Y,_,_,_,_,Y,Y,Zz.of hg,g1,_,Y,_,_,_,_,Y,Y,Zz.of hg,g2,_,Y,_,_,_,_,Y,Y,Zz.of hg,g3,_,Y,_,Y,_,_,_,_,_,Y,ea,T.Land.cl,T.Yw,Y,_,_,Y,Y,_,Y,?_⟩;have bad:l.places<=x\/l.places<=y\/x=y->(1:Nat)<=sizeLine/\∀p,H p=none->Q (.ref p) (upd H p (.lst [.int (-2)])):=fun cc=>by
   rw[Z7 cc]at cd;rw[cd]at k;exact Back.one k Z9 (ZY.refl H) rfl
  by_cases q1:l.places<=x
  ·rw[ZR (show(l.places:Int)<=(x:Int) by omega)];exact Y2 (Y2 (bad (.inl q1)))
  ·rw[ZF (show¬(l.places:Int)<=(x:Int) by omega)];refine YJ ⟨_,Y,_,Y,_,_,_,_,_,Y,ea,T.Land.cl,T.Yw,Y,_,_,Y,Y,_,Y,?_⟩;by_cases q2:l.places<=y
   ·rw[ZR (show(l.places:Int)<=(y:Int) by omega)];exact Y2 (Y2 (bad (.inr (.inl q2))))
   ·rw[ZF (show¬(l.places:Int)<=(y:Int) by omega)];refine YJ ⟨_,Y,_,Y,Y,_,Y,Ws (fun q3=>?_) (fun q3=>?_)⟩
    ·have q3:x=y:=by
      have:=ZG q3;injection this with this
      omega
     exact bad (.inr (.inr q3))
    ·have q3:¬x=y:=fun q=>q3 (ZR (by rw[q]));rw[Z8 (by omega)]at cd;refine⟨_,Y,_,Y,_,_,Y,_,Y,?_⟩;by_cases c2:1000<z\/u=0\/1000<u
     ·rw[ZF (show¬((z:Int)<=1000/\1<=(u:Int)/\(u:Int)<=1000) by omega)];rw[Z7 c2]at cd;rw[cd]at k;exact Y2 (Back.one k Z9 (ZY.refl H) rfl)
     ·rw[ZR (show((z:Int)<=1000/\1<=(u:Int)/\(u:Int)<=1000) by omega)];rw[Z8 c2]at cd;refine YJ ⟨_,Y,_,_,_,_,_,Y,ea,T.Land.cl,T.ZK,Y,_,_,Y,.inl (Zz.of hL.lst),_,_,Y,Y,_,Y,?_⟩;rw[Z3,rl];by_cases c3:9<=l.roads.length
      ·rw[ZR (show(9:Int)<=(l.roads.length:Int) by omega)];rw[Z7 c3]at cd;rw[cd]at k;exact Y2 (Back.one k Z9 (ZY.refl H) rfl)
      ·rw[ZF (show¬(9:Int)<=(l.roads.length:Int) by omega)];rw[Z8 c3]at cd;rw[cd]at k;refine YJ ⟨_,Y,_,_,_,_,_,Y,ea,T.Land.cl,T.ZK,Y,.inl ⟨Y,_,Zz.of hL.lst⟩,_,Y,_,Y,_,Y,_,Y,?_⟩;intro r pE nr nd ne;refine⟨r,pE,_,_,_,_,Y,Z4,fun H1 tb hB kp=>⟨Y,?_⟩⟩;have s1:ZY H H1:=ZY.made nr nd kp;have Bb:=hL.up s1;have Hy:=s1 _ _ ea;refine⟨la,_,_,Y,Y,Bb.lst,by rw[Z3];exact YR (by omega),?_⟩;have nal:a≠la:=fun q=>by
        have:=hL.lst;rw[<-q,ea]at this;cases this
       have nO:upd H1 la (.lst (rs.map V.ref++[.ref r])) a=_:=Xu Hy Bb.lst fun _ q=>(by cases q);refine⟨_,Y,_,_,_,_,_,Y,nO,T.Land.cl,T.ZK,Y,_,_,Y,.inl (Zz.of Z4),_,_,Y,Y,?_⟩;have ez:(((rs.map V.ref++[V.ref r]).length:Nat):Int)-1=(l.roads.length:Int):=by
        rw[ZI,Z3,rl];show((l.roads.length+1:Nat):Int)-1=_;omega
       show(1:Nat)<=sizeLine/\∀p,_->Q (.ref p) (upd _ p (.lst [.int ((((rs.map V.ref++[V.ref r]).length:Nat):Int)-1)]));rw[ez];have bj:r∉rs:=fun q=>by
        obtain⟨i,hi,a_⟩:=X8.mp q;obtain⟨ta,⟨dr,er⟩,_⟩:=hL.at_ i r (by rw[ZU hi,a_]);rw[nr]at er;cases er
       refine Back.done k (fp':=r::fp) ⟨⟨dx,.ref a,Xu (s1 _ _ eo) Bb.lst fun _ q=>(by cases q),a,la,rs++[r],Y,⟨⟨TU,nO⟩,?_,?_,?_,fun i rc K9=>?_⟩,Zh _ m1,Zh _ m2,fun b O=>?_⟩,Zh _ Z9.mem⟩ (fun b w O hn=>?_) (fun b w O=>?_) (fun b O=>?_) rfl;·rw[Z4,U2]
       ·rw[ZI,rl];show _=(l.roads++[_]).length;rw[ZI];rfl
       ·rw[List.nodup_append];exact⟨hL.nd,by simp,fun b O c hc q=>bj (by rw[<-Zp.mp hc,<-q];exact O)⟩
       ·have a9:∀i,rd {l with roads:=l.roads++[⟨x,y,z,u,0,false⟩]} i=(l.roads++[(⟨x,y,z,u,0,false⟩:Road)]).getD i Wz:=fun i=>rfl;rw[a9,getD_snoc];rcases U1 K9 with⟨z1,z2⟩|⟨z1,rfl⟩
        ·rw[Z7 (by omega)];exact(Bb.at_ i rc z2).lst Bb.lst
        ·rw[Z8 (by omega),Z7 (by omega)];exact WK.lst ⟨tb,hB⟩ Bb.lst
       ·rcases Zm.mp O with q|q;·exact Zh _ (m3 b q)
        ·rw[Zp.mp q];simp
       ·rw[ZW (KU m2 hn).symm];exact s1 _ _ O
       ·by_cases q:b=la
        ·rw[q];exact⟨_,Z4⟩
        ·exact⟨w,by rw[ZW q];exact s1 _ _ O⟩
       ·rcases ZH.mp O with q|q
        ·rw[q];exact .inr nr
        ·exact .inl q
end
end Rw
namespace Rw
open PySem PySem.Spec PyProof.Rows L2 RR
open RhRoads (Road Land)
open RoadSpec (tells says no changed)
theorem Bn{p:Int}{n:Nat}(h:PyWqagde.shape p=some (n,0)):(p,(n:Int))∈vH/\p≠20:=by
 unfold PyWqagde.shape at h;by_cases c:p=1
 ·rw[Z7 c]at h;cases h;subst c;exact⟨by decide,by decide⟩
 rw[Z8 c]at h;clear c;by_cases c:p=2
 ·rw[Z7 c]at h;cases h;subst c;exact⟨by decide,by decide⟩
 rw[Z8 c]at h;clear c;by_cases c:p=3
 ·rw[Z7 c]at h;cases h;subst c;exact⟨by decide,by decide⟩
 rw[Z8 c]at h;clear c;by_cases c:p=4
 ·rw[Z7 c]at h;cases h;subst c;exact⟨by decide,by decide⟩
 rw[Z8 c]at h;clear c;by_cases c:p=5
 ·rw[Z7 c]at h;cases h;subst c;exact⟨by decide,by decide⟩
 rw[Z8 c]at h;clear c;by_cases c:p=6
 ·rw[Z7 c]at h;cases h;subst c;exact⟨by decide,by decide⟩
 rw[Z8 c]at h;clear c;by_cases c:p=7
 ·rw[Z7 c]at h;cases h;subst c;exact⟨by decide,by decide⟩
 rw[Z8 c]at h;clear c;by_cases c:p=8
 ·rw[Z7 c]at h;cases h;subst c;exact⟨by decide,by decide⟩
 rw[Z8 c]at h;clear c;by_cases c:p=9
 ·rw[Z7 c]at h;cases h;subst c;exact⟨by decide,by decide⟩
 rw[Z8 c]at h;clear c;by_cases c:p=10
 ·rw[Z7 c]at h;cases h;subst c;exact⟨by decide,by decide⟩
 rw[Z8 c]at h;clear c;by_cases c:p=11
 ·rw[Z7 c]at h;cases h;subst c;exact⟨by decide,by decide⟩
 rw[Z8 c]at h;clear c;by_cases c:p=12
 ·rw[Z7 c]at h;cases h;subst c;exact⟨by decide,by decide⟩
 rw[Z8 c]at h;clear c;by_cases c:p=13
 ·rw[Z7 c]at h;cases h;subst c;exact⟨by decide,by decide⟩
 rw[Z8 c]at h;clear c;by_cases c:p=14
 ·rw[Z7 c]at h;cases h;subst c;exact⟨by decide,by decide⟩
 rw[Z8 c]at h;clear c;by_cases c:p=15
 ·rw[Z7 c]at h;cases h;subst c;exact⟨by decide,by decide⟩
 rw[Z8 c]at h;clear c;by_cases c:p=16
 ·rw[Z7 c]at h;cases h;subst c;exact⟨by decide,by decide⟩
 rw[Z8 c]at h;clear c;by_cases c:p=17
 ·rw[Z7 c]at h;cases h;subst c;exact⟨by decide,by decide⟩
 rw[Z8 c]at h;clear c;by_cases c:p=18
 ·rw[Z7 c]at h;cases h;subst c;exact⟨by decide,by decide⟩
 rw[Z8 c]at h;clear c;by_cases c:p=19
 ·rw[Z7 c]at h;cases h;subst c;exact⟨by decide,by decide⟩
 rw[Z8 c]at h;clear c;by_cases c:p=20
 ·rw[Z7 c]at h;cases h
 rw[Z8 c]at h;clear c;cases h
def rZ(n:Int)(gs:List Int):Prop:=(n≠20/\(n,(gs.length:Int))∈vH)\/(n=20/\∃q a,gs=q::((a:List Int).length:Int)::a)
section
variable{P:Program}{w:World}{K:W.Frag}{mg:Str->Option Value}{base:Heap}{t:Yt}{dA dC dG:Addr}
def vE(t:Yt):Sp:=fun vs H Q _=>∃o g st gs c fp,vs=[.ref o,.ref g]/\Q_ t H o st fp/\IL H g gs/\oS .land gs c/\Back t H o fp (RoadSpec.step st c).1 (RoadSpec.step st c).2 Q
theorem HE:ZN ["office","given","places","source","goal","units"] ["office","given"] (Z0 (top 101)):=⟨Y,Y,Y,by decide+kernel,Y,by decide+kernel,by decide+kernel⟩
theorem HD(T:Txt K mg t):Y' P w K mg base XO 35 t.T8 t.Nu ["office","given"] (vE t):=by
 have sc:=HE;refine T.Oe.F.ok sc (fun vs H Q E h=>?_) (fun Yx A outer s H vs Q E hr h=>?_)
 ·obtain⟨o,g,st,gs,c,fp,rfl,_⟩:=h;rfl
 ·obtain⟨o,g,st,gs,c,fp,rfl,Z9,hg,⟨x,y,z,u,rfl,rfl⟩,k⟩:=h;have g0:Q6 ([(x:Int),(y:Int),(z:Int),(u:Int)].map V.int) 0=some (.int (x:Int)):=VT (k:=0) rfl;have g1:Q6 ([(x:Int),(y:Int),(z:Int),(u:Int)].map V.int) 1=some (.int (y:Int)):=VT (k:=1) rfl;have g2:Q6 ([(x:Int),(y:Int),(z:Int),(u:Int)].map V.int) 2=some (.int (z:Int)):=VT (k:=2) rfl;have g3:Q6 ([(x:Int),(y:Int),(z:Int),(u:Int)].map V.int) 3=some (.int (u:Int)):=VT (k:=3) rfl;have cd:RoadSpec.step st (.land x y z u)=if x<2\/6<x\/x<=y\/x<=z\/y=z\/u=0\/1000<u then(st,no 1)else(some ⟨x,y,z,u,[]⟩,says 0):=rfl
  have bad:x<2\/6<x\/x<=y\/x<=z\/y=z\/u=0\/1000<u->(1:Nat)<=sizeLine/\∀p,H p=none->Q (.ref p) (upd H p (.lst [.int (-1)])):=fun cc=>by
   rw[Z7 cc]at cd;rw[cd]at k;exact Back.one k Z9 (ZY.refl H) rfl
  refine⟨_,(Z5 (ZT (i:=2) sc.nd Y (Or.inl Y) (ZL ZO (Z 1) ZS (fun _ _=>rfl)))
   (Z5 (ZT (i:=3) sc.nd Y (Or.inl Y) (ZL ZO (Z 1) ZS (fun _ _=>rfl)))
   (Z5 (ZT (i:=4) sc.nd Y (Or.inl Y) (ZL ZO (Z 1) ZS (fun _ _=>rfl)))
   (Z5 (ZT (i:=5) sc.nd Y (Or.inl Y) (ZL ZO (Z 1) ZS (fun _ _=>rfl)))
   (Z5 (YZ (PW.pt (Vc (RW (Ms RU RU ZS (Z 2) (gl T.Ga))) (Vc (ZJ Ss (Z 3) (Z 2) (Zu _)) (VJ (ZJ Ss (Z 4) (Z 2) (Zu _)))))) (Z1 (ZP (Zy (Z6 (gl T.X1) Z2)))) Zv)
   (Z5 (YZ (PW.pt (Vc (ZJ Vb (Z 3) (Z 4) (Zu _)) (VJ (RW (T4 (cl T.QX (SG T) hr (by decide) rfl (Z6 (Z 5) Z2))))))) (Z1 (ZP (Zy (Z6 (gl T.X1) Z2)))) Zv)
   (Z5 (YK (Z 0) (mk T.Land (OU T) hr (by decide) rfl (Z6 (Z 2) (Z6 (Z 3) (Z6 (Z 4) (Z6 (Z 5) Z2))))) rfl)
   (Z1 (ZP (Zy (Z6 ZS Z2))))))))))),?_⟩
  refine⟨_,Y,_,_,_,_,Y,Y,Zz.of hg,g0,_,Y,_,_,_,_,Y,Y,Zz.of hg,g1,_,Y,_,_,_,_,Y,Y,Zz.of hg,g2,_,Y,_,_,_,_,Y,Y,Zz.of hg,g3,_,Y,_,_,Y,Y,_,Y,Ws (fun q1=>?_) (fun q1=>?_)⟩
  ·have q1:(2:Int)<=x:=ZG q1;refine⟨_,_,Y,Y,_,Y,?_⟩;by_cases q2:(x:Int)<=6
   ·rw[ZR q2];refine YJ ⟨_,Y,_,Y,_,_,Y,Y,_,Y,?_⟩;by_cases q3:(x:Int)<=y
    ·rw[ZR q3];exact Y2 (Y2 (bad (by omega)))
    ·rw[ZF q3];refine YJ ⟨_,Y,_,Y,_,_,Y,Y,_,Y,?_⟩;by_cases q4:(x:Int)<=z
     ·rw[ZR q4];exact Y2 (bad (by omega))
     ·rw[ZF q4];refine YJ ⟨_,Y,_,Y,Y,_,Y,?_⟩;by_cases q5:y=z
      ·rw[ZR (show V.int (y:Int)=V.int (z:Int) by rw[q5])];exact Y2 (Y2 (bad (by omega)))
      ·rw[ZF (show¬V.int (y:Int)=V.int (z:Int)from fun q=>q5 (by injection q with q;omega))];refine YJ ⟨_,Y,_,Y,_,Y,?_⟩;by_cases q6:u=0\/1000<u
       ·rw[ZF (show¬(1<=(u:Int)/\(u:Int)<=1000) by omega)];exact Y2 (bad (by omega))
       ·rw[ZR (show(1<=(u:Int)/\(u:Int)<=1000) by omega)];rw[Z8 (by omega)]at cd;rw[cd]at k;obtain⟨dx,lv,eo,_⟩:=Z9.obj;refine YJ ⟨_,Y,_,Y,_,Y,_,Y,?_⟩;intro p gC np nd ne;refine⟨p,gC,_,_,_,_,Y,Z4,fun H1 la sT e1 e2 kp=>⟨Y,?_⟩⟩;have s1:ZY H H1:=ZY.made np nd kp;have a8:=s1 _ _ eo;refine⟨_,Y,_,_,_,_,Y,a8,T.UA.cl,T.Yh,(by show 1<1000;decide),?_⟩;have a7:p≠o:=fun q=>by rw[q,eo]at np;cases np
        have rY:H la=none:=by
         cases q:H la with
         |none=>rfl
         |some w'=>
          rw[ZW (ZA q np),ZW (ZA q nd),q]at sT;cases sT
        have a6:la≠o:=fun q=>by rw[q,eo]at rY;cases rY
        refine Back.done k (fp':=[o,p,la]) ⟨⟨dx,.ref p,Z4,p,la,[],Y,⟨⟨gC,by rw[ZW a7];exact e1⟩,by rw[ZW a6];exact e2,Y,by simp,fun i rc K9=>by simp at K9⟩,by simp,by simp,fun r hr=>by cases hr⟩,by simp⟩ (fun b w O hn=>?_) (fun b w O=>?_) (fun b O=>?_) rfl
        ·rw[ZW (KU Z9.mem hn).symm];exact s1 _ _ O
        ·by_cases q:b=o
         ·rw[q];exact⟨_,Z4⟩
         ·exact⟨w,by rw[ZW q];exact s1 _ _ O⟩
        ·rcases ZH.mp O with q|O
         ·rw[q];exact .inl Z9.mem
         rcases ZH.mp O with q|O
         ·rw[q];exact .inr np
         ·rw[Zp.mp O];exact .inr rY
   ·rw[ZF q2];exact Y2 (Y2 (bad (by omega)))
  ·have q1:¬(2:Int)<=x:=fun q=>q1 (ZR q);exact⟨_,Y,Y2 (Y2 (bad (by omega)))⟩
def oR(K:W.Frag):Sp:=fun vs H Q _=>∃c ns n gs r,∃pl:Nat,vs=[.ref c,.int pl]/\Zz K H c (List.map V.int ns)/\ns.drop pl=n::(gs++r)/\rZ n gs/\Q (.int ((pl+1+gs.length:Nat):Int)) H
theorem HC{ns l:List Int}{pl:Nat}(h:ns.drop pl=l){i:Nat}{z:Int}(hz:l[i]?=some z):ns[pl+i]?=some z:=by
 rw[<-h,List.getElem?_drop]at hz;exact hz
theorem Fs:ZN ["calls","place","number","end"] ["calls","place"] (Z0 (top 110)):=⟨Y,Y,Y,by decide+kernel,Y,by decide+kernel,by decide+kernel⟩
theorem Fq(T2:Txt2 K mg t dA dC dG):Y' P w K mg base XO 33 t.Lv t.Lu ["calls","place"] (oR K):=by
 have T:=T2.T;have sc:=Fs;refine T.Gb.F.ok sc (fun vs H Q E h=>?_) (fun Yx A outer s H vs Q E hr h=>?_)
 ·obtain⟨c,ns,n,gs,r,pl,rfl,_⟩:=h;rfl
 ·obtain⟨c,ns,n,gs,r,pl,rfl,hc,hd,hG,k⟩:=h;obtain⟨Zs,kd,kl⟩:=T2.kG;have h0:Q6 (ns.map V.int) (pl:Int)=some (.int n):=VT (by have:=HC hd (i:=0) (z:=n) rfl;exact this);refine⟨_,(Z5 (ZT (i:=2) sc.nd Y (Or.inl Y) (ZL ZO (Z 0) (Z 1) (fun _ _=>rfl)))
   (Z5 (ZT (i:=3) sc.nd Y (Or.inl Y) (Zg S4 (Zg S4 (Z 1) ZS) (IA (gl T2.oT) (Z 2) (fun _ _=>rfl))))
   (Z5 (YZ (ZJ Vb (Z 2) (gl T.Eh) (Zu _)) (Z1 (uo (i:=3) sc.nd Y (Or.inl Y) (ZL ZO (Z 0) (Zg Qn (Z 3) ZS) (fun _ _=>rfl)) Mv)) Zv)
   (Z1 (ZP (Z 3)))))),?_⟩
  rcases hG with⟨ng,hm⟩|⟨rfl,q,a,rfl⟩
  ·obtain⟨tk,hk⟩:=kl _ _ hm;refine⟨_,Y,_,Y,_,_,_,_,Y,Y,hc,h0,_,Y,_,_,Y,Y,_,Y,dG,Zs,n,_,.int (gs.length:Int),Y,kd,Y,hk,⟨_,Y⟩,_,_,Y,Y,_,Y,Y,_,Y,?_⟩;rw[ZF (show¬V.int n=V.int 20 from fun z=>ng (by injection z))];refine YJ ⟨_,Y,?_⟩;have e:(pl:Int)+1+(gs.length:Int)=((pl+1+gs.length:Nat):Int):=by push_cast;rfl
   show Q (.int ((pl:Int)+1+(gs.length:Int))) H;rw[e];exact k
  ·obtain⟨tk,hk⟩:=kl 20 2 (by decide);refine⟨_,Y,_,Y,_,_,_,_,Y,Y,hc,h0,_,Y,_,_,Y,Y,_,Y,dG,Zs,20,_,.int 2,Y,kd,Y,hk,⟨_,Y⟩,_,_,Y,Y,_,Y,Y,_,Y,?_⟩;rw[ZR rfl];refine Y2 ?_;have h2:Q6 (ns.map V.int) ((pl:Int)+1+2-1)=some (.int (a.length:Int)):=by
    have:=VT (HC hd (i:=2) (z:=(a.length:Int)) rfl);rw[show(pl:Int)+1+2-1=((pl+2:Nat):Int) by omega];exact this
   refine⟨_,Y,_,Y,_,Y,_,_,Y,Y,_,_,_,_,Y,Y,hc,h2,_,_,Y,Y,_,Y,?_⟩;have e:(pl:Int)+1+2+(a.length:Int)=((pl+1+(q::(a.length:Int)::a).length:Nat):Int):=by
    rw[Zj,Zj];omega
   show Q (.int ((pl:Int)+1+2+(a.length:Int))) H;rw[e];exact k
def HB(n:Int)(gs:List Int)(c:RoadSpec.Call):Prop:=(n=1/\oS .land gs c)\/(n=2/\oS .road gs c)\/(n=3/\ni .change gs c)\/(n=4/\ni .toll gs c)\/(n=5/\gD .shut gs c)\/(n=6/\x6 .demand gs c)\/vG n gs c
theorem Fp{n:Int}{gs:List Int}{c:RoadSpec.Call}(h:vG n gs c)(l:Land):changed l c=(l,RoadSpec.asked l c):=by rcases h with⟨_,rfl⟩|⟨_,rfl⟩|⟨_,rfl⟩|⟨_,rfl⟩|⟨_,rfl⟩|⟨_,rfl⟩|⟨_,v,_,rfl⟩|⟨_,v,_,rfl⟩|⟨_,rfl⟩|⟨_,v,_,rfl⟩|⟨_,rfl⟩|⟨_,v,_,rfl⟩|⟨_,rfl⟩|⟨_,q,us,_,rfl,_⟩<;>rfl
theorem Cy{n:Int}{gs:List Int}{c:RoadSpec.Call}(h:vG n gs c)(t:Yt):(yB t).lookup n=none/\n≠1:=by rcases h with⟨rfl,_⟩|⟨rfl,_⟩|⟨rfl,_⟩|⟨rfl,_⟩|⟨rfl,_⟩|⟨rfl,_⟩|⟨rfl,_⟩|⟨rfl,_⟩|⟨rfl,_⟩|⟨rfl,_⟩|⟨rfl,_⟩|⟨rfl,_⟩|⟨rfl,_⟩|⟨rfl,_⟩<;>exact⟨Y,by decide⟩
theorem Bm{n:Int}{gs:List Int}{c:RoadSpec.Call}(h:HB n gs c)(n1:n≠1):RoadSpec.step none c=(none,no 8):=by
 rcases h with⟨rfl,_⟩|⟨_,x,y,z,u,_,rfl⟩|⟨_,x,y,z,_,rfl⟩|⟨_,x,y,z,_,rfl⟩|⟨_,x,y,_,rfl⟩|⟨_,x,_,rfl⟩|h;·exact absurd rfl n1
 ·rfl
 ·rfl
 ·rfl
 ·rfl
 ·rfl
 ·rcases h with⟨_,rfl⟩|⟨_,rfl⟩|⟨_,rfl⟩|⟨_,rfl⟩|⟨_,rfl⟩|⟨_,rfl⟩|⟨_,v,_,rfl⟩|⟨_,v,_,rfl⟩|⟨_,rfl⟩|⟨_,v,_,rfl⟩|⟨_,rfl⟩|⟨_,v,_,rfl⟩|⟨_,rfl⟩|⟨_,q,us,_,rfl,_⟩<;>rfl
theorem Bl{n:Int}{gs:List Int}{c:RoadSpec.Call}(h:HB n gs c)(n1:n≠1)(l:Land):RoadSpec.step (some l) c=(some (changed l c).1,(changed l c).2):=by
 rcases h with⟨rfl,_⟩|⟨_,x,y,z,u,_,rfl⟩|⟨_,x,y,z,_,rfl⟩|⟨_,x,y,z,_,rfl⟩|⟨_,x,y,_,rfl⟩|⟨_,x,_,rfl⟩|h;·exact absurd rfl n1
 ·rfl
 ·rfl
 ·rfl
 ·rfl
 ·rfl
 ·rcases h with⟨_,rfl⟩|⟨_,rfl⟩|⟨_,rfl⟩|⟨_,rfl⟩|⟨_,rfl⟩|⟨_,rfl⟩|⟨_,v,_,rfl⟩|⟨_,v,_,rfl⟩|⟨_,rfl⟩|⟨_,v,_,rfl⟩|⟨_,rfl⟩|⟨_,v,_,rfl⟩|⟨_,rfl⟩|⟨_,q,us,_,rfl,_⟩<;>rfl
def yw(t:Yt):Sp:=fun vs H Q _=>∃o n g st gs c fp,vs=[.ref o,.int n,.ref g]/\Q_ t H o st fp/\(∀l,st=some l->Zk l)/\IL H g gs/\HB n gs c/\Back t H o fp (RoadSpec.step st c).1 (RoadSpec.step st c).2 Q
theorem Bk:ZN ["office","number","given"] ["office","number","given"] (Z0 (top 109)):=⟨Y,Y,Y,by decide+kernel,Y,by decide+kernel,by decide+kernel⟩
theorem Bj(T2:Txt2 K mg t dA dC dG):Y' P w K mg base XO 45 t.Gj t.Gi ["office","number","given"] (yw t):=by
 have T:=T2.T;have sc:=Bk;refine T.answer.F.ok sc (fun vs H Q E h=>?_) (fun Yx A outer s H vs Q E hr h=>?_)
 ·obtain⟨o,n,g,st,gs,c,fp,rfl,_⟩:=h;rfl
 ·obtain⟨o,n,g,st,gs,c,fp,rfl,Z9,Ya,hg,hC,k⟩:=h;obtain⟨dx,lv,eo,hV⟩:=Z9.obj;refine⟨_,(Z5 (YZ (PW.pt (Qr (ZJ vw (Z 1) (gl T.BE) (Zu _)) (Q7 (ZJ Vh (ZZ (Z 0) rfl) XW (Zu _))))) (Z1 (ZP (Zy (Z6 (gl T.wG) Z2)))) Zv)
   (Z5 (YZ (Vi (sV (Z 1) (gl T2.FC))) (Z1 (ZP (Gn (IA (gl T2.FC) (Z 1) (fun _ _=>rfl)) (Z6 (Z 0) (Z6 (Z 2) Z2))))) Zv)
   (Z1 (ZP (cl T.asked (yx T2) hr (by decide) rfl (Z6 (ZZ (Z 0) rfl) (Z6 (Z 1) (Z6 (Z 2) Z2)))))))),?_⟩
  by_cases n1:n=1
  ·subst n1;refine⟨_,Y,Y,_,Y,YJ (YJ ?_)⟩;refine⟨_,Y,dC,_,1,Y,T2.kC,Y,_,Y,Y2 ?_⟩;have J:oS .land gs c:=by
    rcases hC with⟨_,h⟩|⟨e,_⟩|⟨e,_⟩|⟨e,_⟩|⟨e,_⟩|⟨e,_⟩|h;·exact h
    ·exact absurd e (by decide)
    ·exact absurd e (by decide)
    ·exact absurd e (by decide)
    ·exact absurd e (by decide)
    ·exact absurd e (by decide)
    ·exact absurd rfl (Cy h t).2
   exact⟨_,Y,dC,_,1,_,.ref t.T8,Y,T2.kC,Y,Y,Y,_,_,_,_,_,Y,T.Oe.F.kp,T.Oe.b,HD T,hr.mono (by decide),_,Y,_,Y,o,g,st,gs,c,fp,Y,Z9,hg,J,k⟩
  ·refine⟨_,Y,Y,_,Y,?_⟩;have e1:(!decide (V.int n=V.int 1))=true:=by
    rw[ZF (fun z=>n1 (by injection z))];rfl
   rw[e1];refine Y2 ⟨_,Y,_,_,_,_,_,Y,eo,T.UA.cl,T.Yh,Y,Y,_,Y,?_⟩;cases st with
   |none=>
    have hV:lv=.Xs:=hV;subst hV;rw[Bm hC n1]at k;exact Y2 (Back.one k Z9 (ZY.refl H) rfl)
   |some l=>
    obtain⟨a,la,rs,rfl,hL,m1,m2,m3⟩:=hV;have ok:=Ya l rfl;rw[Bl hC n1]at k;refine YJ ⟨_,Y,dC,_,n,Y,T2.kC,Y,_,Y,?_⟩;rcases hC with⟨rfl,_⟩|⟨rfl,h⟩|⟨rfl,h⟩|⟨rfl,h⟩|⟨rfl,h⟩|⟨rfl,h⟩|h;·exact absurd rfl n1
    ·exact Y2 ⟨_,Y,dC,_,2,_,.ref t.SO,Y,T2.kC,Y,Y,Y,_,_,_,_,_,Y,T.Li.F.kp,T.Li.b,Ft T,hr.mono (by decide),_,Y,_,Y,o,g,l,gs,c,fp,Y,Z9,ok,hg,h,k⟩
    ·exact Y2 ⟨_,Y,dC,_,3,_,.ref t.Vv,Y,T2.kC,Y,Y,Y,_,_,_,_,_,Y,T.Rl.F.kp,T.Rl.b,KP T,hr.mono (by decide),_,Y,_,Y,o,g,l,gs,c,fp,Y,Z9,ok,hg,h,k⟩
    ·exact Y2 ⟨_,Y,dC,_,4,_,.ref t.SN,Y,T2.kC,Y,Y,Y,_,_,_,_,_,Y,T.Lh.F.kp,T.Lh.b,Fv T,hr.mono (by decide),_,Y,_,Y,o,g,l,gs,c,fp,Y,Z9,ok,hg,h,k⟩
    ·exact Y2 ⟨_,Y,dC,_,5,_,.ref t.SM,Y,T2.kC,Y,Y,Y,_,_,_,_,_,Y,T.Lg.F.kp,T.Lg.b,Fx T,hr.mono (by decide),_,Y,_,Y,o,g,l,gs,c,fp,Y,Z9,ok,hg,h,k⟩
    ·exact Y2 ⟨_,Y,dC,_,6,_,.ref t.U4,Y,T2.kC,Y,Y,Y,_,_,_,_,_,Y,T.P_.F.kp,T.P_.b,Kj T,hr.mono (by decide),_,Y,_,Y,o,g,l,gs,c,fp,Y,Z9,ok,hg,h,k⟩
    ·rw[(Cy h t).1];rw[Fp h]at k;refine YJ ⟨_,Y,_,_,_,_,_,Y,eo,T.UA.cl,T.Yh,Y,_,Y,_,Y,a,n,g,l,gs,c,Y,⟨la,rs,hL⟩,ok,hg,h,fun H' d hd s' hi hl=>?_⟩;obtain⟨fq,f1,f2,f3⟩:=Z9.HF;refine k H' d fq (f1.up s') (fun b u O _=>s' _ _ O) (fun b O=>.inl (f2 b O)) hd (fun q=>?_) hi hl;obtain⟨u,hu⟩:=f3 d q;rw[hd]at hu;cases hu
end
end Rw
namespace Rw
open PySem PySem.Spec PyProof.Rows L2 RR
open RhRoads (Road Land)
open RoadSpec (tells says no changed)
theorem XN{z:Int}{b:Nat}(h:RoadNeutral.natural z b=true):z=((z.toNat:Nat):Int):=by
 unfold RoadNeutral.natural at h;rw[Yq]at h;have:=ZG h.1;omega
theorem yu{a:List Int}(h:a.length=1):∃x,a=[x]:=by
 match a,h with
 |[x],_=>exact ⟨x,Y⟩
theorem ju{a:List Int}(h:a.length=2):∃x y,a=[x,y]:=by
 match a,h with
 |[x,y],_=>exact ⟨x,y,Y⟩
theorem oQ{a:List Int}(h:a.length=3):∃x y z,a=[x,y,z]:=by
 match a,h with
 |[x,y,z],_=>exact ⟨x,y,z,Y⟩
theorem oP{a:List Int}(h:a.length=4):∃x y z u,a=[x,y,z,u]:=by
 match a,h with
 |[x,y,z,u],_=>exact ⟨x,y,z,u,Y⟩
theorem yt{l t0:List Int}{c0:List (List Int)}(h:Cut l c0 t0)(ha:RoadNeutral.asked1 c0=true):∃n gs cc,l=n::(gs++t0)/\rZ n gs/\HB n gs cc/\∀st,RoadNeutral.step st c0=RoadSpec.step st cc:=by
 cases h with
 |judge q a=>
  have ha:(RoadNeutral.long a 65536 0 (2^1024-1)&&RoadNeutral.natural q 1024)=true:=ha;rw[Yq]at ha;have q0:=XN ha.2;have hl:=ha.1;unfold RoadNeutral.long at hl;rw[Yq]at hl;have al:=ZG hl.1;have an:a=QM (RoadNeutral.nats a):=by
   unfold QM RoadNeutral.nats;rw[Yv];conv=>lhs;rw[<-List.map_id a]
   refine V9 fun x hx=>?_;have:=We.mp hl.2 x hx;rw[Yq]at this;have:=ZG this.1;show x=((x.toNat:Nat):Int);omega
  have ln:(RoadNeutral.nats a).length=a.length:=Z3 ..
  refine⟨20,q::(a.length:Int)::a,.judge (RoadNeutral.nats a) q.toNat,Y,.inr ⟨Y,q,a,Y⟩,?_,fun st=>rfl⟩;refine .inr (.inr (.inr (.inr (.inr (.inr (.inr (.inr (.inr (.inr (.inr (.inr (.inr (.inr (.inr (.inr (.inr (.inr (.inr ⟨Y,q.toNat,RoadNeutral.nats a,?_,Y,by rw[ln];exact al⟩))))))))))))))))));rw[ln,<-an,<-q0]
 |plain p a t n hs hn=>
  obtain⟨hm,ng⟩:=Bn hs;have hG:rZ p a:=.inl ⟨ng,by rw[hn];exact hm⟩;unfold PyWqagde.shape at hs;by_cases e:p=1
  ·rw[Z7 e]at hs;cases hs;subst e;obtain⟨x,y,z,u,rfl⟩:=oP hn;have ha:(RoadNeutral.natural x 1024&&(RoadNeutral.natural y 1024&&(RoadNeutral.natural z 1024&&(RoadNeutral.natural u 1024))))=true:=ha;rw[Yq]at ha;have x0:=XN ha.1;replace ha:=ha.2;rw[Yq]at ha;have y0:=XN ha.1;replace ha:=ha.2;rw[Yq]at ha;have z0:=XN ha.1;replace ha:=ha.2;have u0:=XN ha;exact⟨1,[x,y,z,u],(.land x.toNat y.toNat z.toNat u.toNat),Y,hG,.inl ⟨Y,x.toNat,y.toNat,z.toNat,u.toNat,by rw[<-x0,<-y0,<-z0,<-u0],Y⟩,fun st=>rfl⟩
  rw[Z8 e]at hs;clear e;by_cases e:p=2
  ·rw[Z7 e]at hs;cases hs;subst e;obtain⟨x,y,z,u,rfl⟩:=oP hn;have ha:(RoadNeutral.natural x 1024&&(RoadNeutral.natural y 1024&&(RoadNeutral.natural z 1024&&(RoadNeutral.natural u 1024))))=true:=ha;rw[Yq]at ha;have x0:=XN ha.1;replace ha:=ha.2;rw[Yq]at ha;have y0:=XN ha.1;replace ha:=ha.2;rw[Yq]at ha;have z0:=XN ha.1;replace ha:=ha.2;have u0:=XN ha;exact⟨2,[x,y,z,u],(.road x.toNat y.toNat z.toNat u.toNat),Y,hG,.inr (.inl ⟨Y,x.toNat,y.toNat,z.toNat,u.toNat,by rw[<-x0,<-y0,<-z0,<-u0],Y⟩),fun st=>rfl⟩
  rw[Z8 e]at hs;clear e;by_cases e:p=3
  ·rw[Z7 e]at hs;cases hs;subst e;obtain⟨x,y,z,rfl⟩:=oQ hn;have ha:(RoadNeutral.natural x 1024&&(RoadNeutral.natural y 1024&&(RoadNeutral.natural z 1024)))=true:=ha;rw[Yq]at ha;have x0:=XN ha.1;replace ha:=ha.2;rw[Yq]at ha;have y0:=XN ha.1;replace ha:=ha.2;have z0:=XN ha;exact⟨3,[x,y,z],(.change x.toNat y.toNat z.toNat),Y,hG,.inr (.inr (.inl ⟨Y,x.toNat,y.toNat,z.toNat,by rw[<-x0,<-y0,<-z0],Y⟩)),fun st=>rfl⟩
  rw[Z8 e]at hs;clear e;by_cases e:p=4
  ·rw[Z7 e]at hs;cases hs;subst e;obtain⟨x,y,z,rfl⟩:=oQ hn;have ha:(RoadNeutral.natural x 1024&&(RoadNeutral.natural y 1024&&(RoadNeutral.natural z 1024)))=true:=ha;rw[Yq]at ha;have x0:=XN ha.1;replace ha:=ha.2;rw[Yq]at ha;have y0:=XN ha.1;replace ha:=ha.2;have z0:=XN ha;exact⟨4,[x,y,z],(.toll x.toNat y.toNat z.toNat),Y,hG,.inr (.inr (.inr (.inl ⟨Y,x.toNat,y.toNat,z.toNat,by rw[<-x0,<-y0,<-z0],Y⟩))),fun st=>rfl⟩
  rw[Z8 e]at hs;clear e;by_cases e:p=5
  ·rw[Z7 e]at hs;cases hs;subst e;obtain⟨x,y,rfl⟩:=ju hn;have ha:(RoadNeutral.natural x 1024&&(RoadNeutral.natural y 1024))=true:=ha;rw[Yq]at ha;have x0:=XN ha.1;replace ha:=ha.2;have y0:=XN ha;exact⟨5,[x,y],(.shut x.toNat y.toNat),Y,hG,.inr (.inr (.inr (.inr (.inl ⟨Y,x.toNat,y.toNat,by rw[<-x0,<-y0],Y⟩)))),fun st=>rfl⟩
  rw[Z8 e]at hs;clear e;by_cases e:p=6
  ·rw[Z7 e]at hs;cases hs;subst e;obtain⟨x,rfl⟩:=yu hn;have ha:(RoadNeutral.natural x 1024)=true:=ha;have x0:=XN ha;exact⟨6,[x],(.demand x.toNat),Y,hG,.inr (.inr (.inr (.inr (.inr (.inl ⟨Y,x.toNat,by rw[<-x0],Y⟩))))),fun st=>rfl⟩
  rw[Z8 e]at hs;clear e;by_cases e:p=7
  ·rw[Z7 e]at hs;cases hs;subst e;have:a=[]:=XF.mp hn;subst this;exact⟨7,[],.told,Y,hG,.inr (.inr (.inr (.inr (.inr (.inr (.inl ⟨Y,Y⟩)))))),fun st=>rfl⟩
  rw[Z8 e]at hs;clear e;by_cases e:p=8
  ·rw[Z7 e]at hs;cases hs;subst e;have:a=[]:=XF.mp hn;subst this;exact⟨8,[],.flow,Y,hG,.inr (.inr (.inr (.inr (.inr (.inr (.inr (.inl ⟨Y,Y⟩))))))),fun st=>rfl⟩
  rw[Z8 e]at hs;clear e;by_cases e:p=9
  ·rw[Z7 e]at hs;cases hs;subst e;have:a=[]:=XF.mp hn;subst this;exact⟨9,[],.time,Y,hG,.inr (.inr (.inr (.inr (.inr (.inr (.inr (.inr (.inl ⟨Y,Y⟩)))))))),fun st=>rfl⟩
  rw[Z8 e]at hs;clear e;by_cases e:p=10
  ·rw[Z7 e]at hs;cases hs;subst e;have:a=[]:=XF.mp hn;subst this;exact⟨10,[],.best,Y,hG,.inr (.inr (.inr (.inr (.inr (.inr (.inr (.inr (.inr (.inl ⟨Y,Y⟩))))))))),fun st=>rfl⟩
  rw[Z8 e]at hs;clear e;by_cases e:p=11
  ·rw[Z7 e]at hs;cases hs;subst e;have:a=[]:=XF.mp hn;subst this;exact⟨11,[],.price,Y,hG,.inr (.inr (.inr (.inr (.inr (.inr (.inr (.inr (.inr (.inr (.inl ⟨Y,Y⟩)))))))))),fun st=>rfl⟩
  rw[Z8 e]at hs;clear e;by_cases e:p=12
  ·rw[Z7 e]at hs;cases hs;subst e;have:a=[]:=XF.mp hn;subst this;exact⟨12,[],.tolls,Y,hG,.inr (.inr (.inr (.inr (.inr (.inr (.inr (.inr (.inr (.inr (.inr (.inl ⟨Y,Y⟩))))))))))),fun st=>rfl⟩
  rw[Z8 e]at hs;clear e;by_cases e:p=13
  ·rw[Z7 e]at hs;cases hs;subst e;obtain⟨x,rfl⟩:=yu hn;have ha:(RoadNeutral.natural x 1024)=true:=ha;have x0:=XN ha;exact⟨13,[x],(.cost x.toNat),Y,hG,.inr (.inr (.inr (.inr (.inr (.inr (.inr (.inr (.inr (.inr (.inr (.inr (.inl ⟨Y,x.toNat,by rw[<-x0],Y⟩)))))))))))),fun st=>rfl⟩
  rw[Z8 e]at hs;clear e;by_cases e:p=14
  ·rw[Z7 e]at hs;cases hs;subst e;obtain⟨x,rfl⟩:=yu hn;have ha:(RoadNeutral.natural x 1024)=true:=ha;have x0:=XN ha;exact⟨14,[x],(.without x.toNat),Y,hG,.inr (.inr (.inr (.inr (.inr (.inr (.inr (.inr (.inr (.inr (.inr (.inr (.inr (.inl ⟨Y,x.toNat,by rw[<-x0],Y⟩))))))))))))),fun st=>rfl⟩
  rw[Z8 e]at hs;clear e;by_cases e:p=15
  ·rw[Z7 e]at hs;cases hs;subst e;have:a=[]:=XF.mp hn;subst this;exact⟨15,[],.better,Y,hG,.inr (.inr (.inr (.inr (.inr (.inr (.inr (.inr (.inr (.inr (.inr (.inr (.inr (.inr (.inl ⟨Y,Y⟩)))))))))))))),fun st=>rfl⟩
  rw[Z8 e]at hs;clear e;by_cases e:p=16
  ·rw[Z7 e]at hs;cases hs;subst e;obtain⟨x,rfl⟩:=yu hn;have ha:(RoadNeutral.natural x 1024)=true:=ha;have x0:=XN ha;exact⟨16,[x],(.at_ x.toNat),Y,hG,.inr (.inr (.inr (.inr (.inr (.inr (.inr (.inr (.inr (.inr (.inr (.inr (.inr (.inr (.inr (.inl ⟨Y,x.toNat,by rw[<-x0],Y⟩))))))))))))))),fun st=>rfl⟩
  rw[Z8 e]at hs;clear e;by_cases e:p=17
  ·rw[Z7 e]at hs;cases hs;subst e;have:a=[]:=XF.mp hn;subst this;exact⟨17,[],.ways,Y,hG,.inr (.inr (.inr (.inr (.inr (.inr (.inr (.inr (.inr (.inr (.inr (.inr (.inr (.inr (.inr (.inr (.inl ⟨Y,Y⟩)))))))))))))))),fun st=>rfl⟩
  rw[Z8 e]at hs;clear e;by_cases e:p=18
  ·rw[Z7 e]at hs;cases hs;subst e;obtain⟨x,rfl⟩:=yu hn;have ha:(RoadNeutral.natural x 1024)=true:=ha;have x0:=XN ha;exact⟨18,[x],(.way x.toNat),Y,hG,.inr (.inr (.inr (.inr (.inr (.inr (.inr (.inr (.inr (.inr (.inr (.inr (.inr (.inr (.inr (.inr (.inr (.inl ⟨Y,x.toNat,by rw[<-x0],Y⟩))))))))))))))))),fun st=>rfl⟩
  rw[Z8 e]at hs;clear e;by_cases e:p=19
  ·rw[Z7 e]at hs;cases hs;subst e;have:a=[]:=XF.mp hn;subst this;exact⟨19,[],.parts,Y,hG,.inr (.inr (.inr (.inr (.inr (.inr (.inr (.inr (.inr (.inr (.inr (.inr (.inr (.inr (.inr (.inr (.inr (.inr (.inl ⟨Y,Y⟩)))))))))))))))))),fun st=>rfl⟩
  rw[Z8 e]at hs;clear e;by_cases e:p=20;·exact absurd e ng
  rw[Z8 e]at hs;cases hs
end Rw
namespace Rw
open PySem PySem.Spec PyProof.Rows L2 RR
open RhRoads (Road Land)
open RoadSpec (tells says no changed)
theorem rX{K:W.Frag}{H H':Hp}{a:Addr}{xs:List V}(h:Zz K H a xs)(s:ZY H H'):Zz K H' a xs:=by
 rcases h with(h|⟨o,h⟩)|h;·exact .inl (.inl (s _ _ h))
 ·exact .inl (.inr ⟨o,s _ _ h⟩)
 ·exact .inr h
theorem vD(xs:List V){i j:Nat}(hi:i<=j)(hj:j<=xs.length):Jf xs (some (i:Int)) (some (j:Int))=(xs.drop i).take (j-i):=by
 unfold Jf;rw[HT.Jh,HT.Jh,show min i xs.length=i by omega,show min j xs.length=j by omega]
theorem Bh(a:List Int)(l:List (List Int)):PyFlat.told (a::l)=(a.length:Int)::a++PyFlat.told l:=by
 unfold PyFlat.told;rw[Wa]
structure Loop(t:Yt)(H0 H:Hp)(o D:Addr)(ns:List Int)(pl:Nat)(st:Option Land)(fp:List Addr)(told:List Int)(cs:List (List (List Int))):Prop where
 s:ZY H0 H
 off:Q_ t H o st fp
 qo:∀b,b∈fp->H0 b=none
 gB:D∉fp
 nd:H0 D=none
 ht:IL H D told
 ok:∀l,st=some l->Zk l
 hp:pl<=ns.length
 hc:∃f,PyFlat.calls PyWqagde.shape f (ns.drop pl)=some cs
 asked:∀c,c∈cs->RoadNeutral.asked1 c=true
 Cz:told++PyFlat.told (PyFlat.played RoadNeutral.step st cs)=PyWqagde.answers ns
 len:told.length+301*cs.length<=301*400
section
variable{P:Program}{w:World}{K:W.Frag}{mg:Str->Option Value}{base:Heap}{t:Yt}{dA dC dG:Addr}
def Jm(K:W.Frag):Sp:=fun vs H Q _=>∃c ns,vs=[.ref c]/\Zz K H c (List.map V.int ns)/\PyWqagde.answers_asked ns=true/\∀H' d,IL H' d (PyWqagde.answers ns)->Q (.ref d) H'
theorem DU:ZN ["calls","office","told","place","end","numbers"] ["calls"] (Z0 (top 111)):=⟨Y,Y,Y,by decide+kernel,Y,by decide+kernel,by decide+kernel⟩
theorem DT(T2:Txt2 K mg t dA dC dG):Y' P w K mg base XO 46 t.Jx t.Om ["calls"] (Jm K):=by
 have T:=T2.T;have sc:=DU;refine T.answers.F.ok sc (fun vs H Q E h=>?_) (fun Yx A outer s H vs Q E hr h=>?_)
 ·obtain⟨c,ns,rfl,_⟩:=h;rfl
 ·obtain⟨c,ns,rfl,hc,MN,k⟩:=h;unfold PyWqagde.answers_asked at MN;obtain⟨A',oO⟩:∃A',PyFlat.calls PyWqagde.shape ns.length ns=some A':=by
   cases q:PyFlat.calls PyWqagde.shape ns.length ns with
   |none=>
    unfold PyWqagde.calls at MN;rw[q]at MN;cases MN
   |some A'=>exact ⟨A',Y⟩
  have yr:PyWqagde.calls ns=some A':=by
   unfold PyWqagde.calls;rw[oO];show some (A'.map PyWqagde.whole)=_;rw[BV]
  rw[yr]at MN;have MN:(PyFlat.atMost 400 A'&&RoadNeutral.asked A')=true:=MN;rw[Yq]at MN;have a0:A'.length<=400:=ZG MN.1;have T3:=MN.2;unfold RoadNeutral.asked at T3;rw[Yq]at T3;have T3:=We.mp T3.1;have jt:PyWqagde.answers ns=PyFlat.told (PyFlat.played RoadNeutral.step none A'):=by
   unfold PyWqagde.answers;rw[yr];rfl
  refine⟨_,(Z5 (ZT (i:=1) sc.nd Y (Or.inl Y) (eJ T.UA (KR T) hr (by decide) rfl))
   (Z5 (ZT (i:=2) sc.nd Y (Or.inl Y) (Zy Z2))
   (Z5 (ZT (i:=3) sc.nd Y (Or.inl Y) ZS)
   (Z5 (Vr Zl (ZJ Kb (Z 3) (YV Zi (by rfl) T.WB YU (Z6 (Z 0) Z2)) (Zu _)) (Z5 (ZT (i:=4) sc.nd Y (Or.inl Y) (cl T.Gb (Fq T2) hr (by decide) rfl (Z6 (Z 0) (Z6 (Z 3) Z2))))
   (Z5 (ZT (i:=5) sc.nd Y (Or.inl Y) (cl T.answer (Bj T2) hr (by decide) rfl (Z6 (Z 1) (Z6 (ZL ZO (Z 0) (Z 3) (fun _ _=>rfl)) (Z6 (Hi DE (Z 0) (Jg (Zg S4 (Z 3) ZS)) (Jg (Z 4))) Z2)))))
   (Z5 (Xr (Va Yf W5 WT Xk (Z 2) (Z6 (YV Zi (by rfl) T.WB YU (Z6 (Z 5) Z2)) Z2)))
   (Z5 (Xr (Va Yf TH RY Tv (Z 2) (Z6 (Z 5) Z2)))
   (Z1 (ZT (i:=3) sc.nd Y (Or.inl Y) (Z 4))))))))
   (Z1 (ZP (Z 2))))))),?_⟩
  intro o dx no nd ne;refine⟨o,dx,Y,Z4,Y,?_⟩;rw[HG];have so:ZY H (upd (upd H dx (.own o)) o (.ins t.Wo dx [("land",.Xs)])):=(ZY.new nd _).Zx no _;have eo:upd (upd H dx (.own o)) o (.ins t.Wo dx [("land",.Xs)]) o=some (.ins t.Wo dx [("land",.Xs)]):=Z4;generalize upd (upd H dx (.own o)) o (.ins t.Wo dx [("land",.Xs)])=H1 at*;refine⟨Zw _,fun D hD=>?_⟩;have sD:=ZY.new hD (.lst []);have aZ:D≠o:=fun q=>by rw[q,eo]at hD;cases hD
  refine⟨fun m σ H'=>∃pl st fp told cs c4 c5,σ=[some (.ref c),some (.ref o),some (.ref D),some (.int ((pl:Nat):Int)),c4,c5]/\m=ns.length-pl/\Loop t H H' o D ns pl st fp told cs,
   ⟨_,0,none,[o],[],A',none,none,Y,Y,⟨so.trans sD,⟨⟨dx,.Xs,sD _ _ eo,Y⟩,by simp⟩,fun b O=>by rw[Zp.mp O];exact no,by simpa using aZ,so.free hD,Z4,fun l hl=>(by cases hl),Zw _,⟨ns.length,oO⟩,T3,jt.symm,by show 0+301*A'.length<=_;omega⟩⟩,?_⟩
  rintro m σ H2 ⟨pl,st,fp,told,cs,c4,c5,rfl,rfl,L⟩;have uW:=rX hc L.s;refine⟨_,Y,_,Y,_,_,Y,.inl uW,_,_,Y,Y,_,Y,?_⟩;rw[Z3];by_cases Xd:pl<ns.length
  ·rw[ZR (show((pl:Nat):Int)<(ns.length:Int) by omega)];refine Y2 ⟨fun XQ Iu=>∃m',m'<ns.length-pl/\∃pl st fp told cs c4 c5,XQ=[some (.ref c),some (.ref o),some (.ref D),some (.int ((pl:Nat):Int)),c4,c5]/\m'=ns.length-pl/\Loop t H Iu o D ns pl st fp told cs,fun _ _ h=>h,?_⟩;obtain⟨f,hf⟩:=L.hc;obtain⟨p0,r0,vX⟩:∃p0 r0,ns.drop pl=p0::r0:=⟨ns[pl],ns.drop (pl+1),List.drop_eq_getElem_cons Xd⟩;rw[vX]at hf;obtain⟨f',c0,t0,tD,rfl,kM,jq,rfl⟩:=Ew hf;obtain⟨n,gs,cc,hl,hG,hC,oN⟩:=yt (tw kM) (L.asked c0 (by simp));rw[hl]at vX;have hlen:pl+1+gs.length+t0.length=ns.length:=by
    have:=congrArg List.length vX;rw[List.length_drop,Zj,ZI]at this;omega
   have h0:Q6 (ns.map V.int) ((pl:Nat):Int)=some (.int n):=VT (HC vX (i:=0) (z:=n) rfl);have aY:((ns.map V.int).drop (pl+1)).take (pl+1+gs.length-(pl+1))=gs.map V.int:=by
    rw[<-List.map_drop,show ns.drop (pl+1)=(ns.drop pl).drop 1 by rw[List.drop_drop],vX];show((gs++t0).map V.int).take _=_;rw[show pl+1+gs.length-(pl+1)=gs.length by omega,Y1,List.take_append_of_le_length (by rw[Z3];omega),PM (by rw[Z3];omega)]
   have oM:ns.drop (pl+1+gs.length)=t0:=by
    rw[show pl+1+gs.length=pl+(1+gs.length) by omega,<-List.drop_drop,vX,Nat.add_comm 1];show(gs++t0).drop gs.length=t0;exact List.drop_left ..
   refine⟨_,Y,_,Y,c,ns,n,gs,t0,pl,Y,uW,vX,hG,?_⟩;refine⟨_,Y,_,Y,_,Y,_,_,_,_,Y,Y,uW,h0,_,Y,_,Y,_,_,Y,Y,_,Y,_,Y,_,Y,_,_,Y,uW,fun g hg=>?_⟩;have jo:Jf (ns.map V.int) (some (((pl:Nat):Int)+1)) (some ((pl+1+gs.length:Nat):Int))=gs.map V.int:=by
    rw[show((pl:Nat):Int)+1=((pl+1:Nat):Int) by omega,vD _ (by omega) (by rw[Z3];omega)];exact aY
   rw[jo];have sg:=ZY.new hg (.lst (gs.map V.int));refine⟨o,n,g,st,gs,cc,fp,Y,L.off.up sg,L.ok,Z4,hC,fun H3 d fp' O3 gA qI gz dn3 gy hl3=>?_⟩;have yq:IL (upd H2 g (.lst (gs.map V.int))) D told:=sg _ _ L.ht;have yp:IL H3 D told:=gA _ _ yq L.gB;have aX:d≠D:=fun q=>by rw[q,yq]at gz;cases gz
   have aW:=L.len;rw[Zj]at aW;refine⟨_,Y,.inl ⟨Y,_,Zz.of yp⟩,_,Y,_,_,Y,.inl (Zz.of gy),D,_,_,Y,Y,yp,?_,?_⟩
   ·rw[Z3];exact YR (by omega)
   have aV:IL (upd H3 D (.lst (told.map V.int++[.int (((RoadSpec.step st cc).2.map V.int).length:Int)]))) d (RoadSpec.step st cc).2:=by
    show upd _ _ _ _=_;rw[ZW aX];exact gy
   refine⟨_,Y,.inl ⟨Y,_,Zz.of Z4⟩,_,Y,D,d,_,_,Y,Y,Z4,aV,?_,?_⟩
   ·rw[ZI,Z3,Z3];exact Y5 (YR (show told.length+1+(RoadSpec.step st cc).2.length<=16000000 by omega))
   rw[HG];have gx:D∉fp':=fun q=>by
    rcases qI D q with z|z;·exact L.gB z
    ·rw[yq]at z;cases z
   refine⟨_,Y,ns.length-(pl+1+gs.length),by omega,pl+1+gs.length,(RoadSpec.step st cc).1,fp',told++(((RoadSpec.step st cc).2.length:Int)::(RoadSpec.step st cc).2),tD,_,_,Y,Y,?_⟩;have oK:=L.Cz;refine⟨?_,O3.lst yp gx,fun b O=>?_,gx,L.nd,?_,wQ L.ok cc,by omega,⟨f',by rw[oM];exact jq⟩,fun x hx=>L.asked x (Zh _ hx),?_,?_⟩
   ·intro b u O;have aU:b∉fp:=fun q=>by rw[L.qo b q]at O;cases O
    rw[ZW (ZA O L.nd)];exact gA b u ((L.s.trans sg) _ _ O) aU
   ·rcases qI b O with z|z;·exact L.qo b z
    ·exact(L.s.trans sg).free z
   ·show upd _ _ _ _=_;rw[Z4,Z3,Y1,Y7,Wc];rfl
   ·rw[<-oK];show _=told++PyFlat.told ((RoadNeutral.step st c0).2::PyFlat.played RoadNeutral.step (RoadNeutral.step st c0).1 tD);rw[oN,Bh,Wc]
   ·rw[ZI,Zj];omega
  ·rw[ZF (show¬((pl:Nat):Int)<(ns.length:Int) by omega)];refine YJ ⟨_,Y,k H2 D ?_⟩;have hd:ns.drop pl=[]:=PR (by omega);obtain⟨f,hf⟩:=L.hc;rw[hd,BW]at hf;cases hf;have:=L.Cz;have e:PyFlat.told (PyFlat.played RoadNeutral.step st [])=[]:=rfl;rw[e,XH]at this;rw[<-this];exact L.ht
end
end Rw
namespace Rw
open PySem PySem.Spec PyProof.Rows L2
def Ki(x q:Str)(st:Stmt)(ps:List Str):Prop:=∀(kV doc pm:Value)(an:Option Addr)(Yx ct:Value)(us:List Value),us.length=ps.length->bindArgs (W.fnOf x q (Xz st) (XR st) (Z0 st) .none kV doc pm an Yx ct) ⟨us,[]⟩=pure (ps.zip us)
theorem b1{x q:Str}{st:Stmt}{p0:Str}(h:∀kV doc pm an Yx ct u0,bindArgs (W.fnOf x q (Xz st) (XR st) (Z0 st) .none kV doc pm an Yx ct) ⟨[u0],[]⟩=pure [(p0,u0)]):Ki x q st [p0]:=fun _ _ _ _ _ _ us hl=>match us,hl with|[_],_=>h _ _ _ _ _ _ _
theorem b2{x q:Str}{st:Stmt}{p0 p1:Str}(h:∀kV doc pm an Yx ct u0 u1,bindArgs (W.fnOf x q (Xz st) (XR st) (Z0 st) .none kV doc pm an Yx ct) ⟨[u0,u1],[]⟩=pure [(p0,u0),(p1,u1)]):Ki x q st [p0,p1]:=fun _ _ _ _ _ _ us hl=>match us,hl with|[_,_],_=>h _ _ _ _ _ _ _ _
theorem b3{x q:Str}{st:Stmt}{p0 p1 p2:Str}(h:∀kV doc pm an Yx ct u0 u1 u2,bindArgs (W.fnOf x q (Xz st) (XR st) (Z0 st) .none kV doc pm an Yx ct) ⟨[u0,u1,u2],[]⟩=pure [(p0,u0),(p1,u1),(p2,u2)]):Ki x q st [p0,p1,p2]:=fun _ _ _ _ _ _ us hl=>match us,hl with|[_,_,_],_=>h _ _ _ _ _ _ _ _ _
theorem b4{x q:Str}{st:Stmt}{p0 p1 p2 p3:Str}(h:∀kV doc pm an Yx ct u0 u1 u2 u3,bindArgs (W.fnOf x q (Xz st) (XR st) (Z0 st) .none kV doc pm an Yx ct) ⟨[u0,u1,u2,u3],[]⟩=pure [(p0,u0),(p1,u1),(p2,u2),(p3,u3)]):Ki x q st [p0,p1,p2,p3]:=fun _ _ _ _ _ _ us hl=>match us,hl with|[_,_,_,_],_=>h _ _ _ _ _ _ _ _ _ _
theorem b5{x q:Str}{st:Stmt}{p0 p1 p2 p3 p4:Str}(h:∀kV doc pm an Yx ct u0 u1 u2 u3 u4,bindArgs (W.fnOf x q (Xz st) (XR st) (Z0 st) .none kV doc pm an Yx ct) ⟨[u0,u1,u2,u3,u4],[]⟩=pure [(p0,u0),(p1,u1),(p2,u2),(p3,u3),(p4,u4)]):Ki x q st [p0,p1,p2,p3,p4]:=fun _ _ _ _ _ _ us hl=>match us,hl with|[_,_,_,_,_],_=>h _ _ _ _ _ _ _ _ _ _ _
theorem b6{x q:Str}{st:Stmt}{p0 p1 p2 p3 p4 p5:Str}(h:∀kV doc pm an Yx ct u0 u1 u2 u3 u4 u5,bindArgs (W.fnOf x q (Xz st) (XR st) (Z0 st) .none kV doc pm an Yx ct) ⟨[u0,u1,u2,u3,u4,u5],[]⟩=pure [(p0,u0),(p1,u1),(p2,u2),(p3,u3),(p4,u4),(p5,u5)]):Ki x q st [p0,p1,p2,p3,p4,p5]:=fun _ _ _ _ _ _ us hl=>match us,hl with|[_,_,_,_,_,_],_=>h _ _ _ _ _ _ _ _ _ _ _ _
section
variable{K:W.Frag}{h:Heap}{mg:Str->Option Value}{x q:Str}{st:Stmt}{ps:List Str}{C f:Addr}{oc kV dc pm cd ct:Value}{od an:Option Addr}{sl:Array (Option Value)}
abbrev gw(_:K.In h):W.Frag:=K
theorem oJ(X:K.In h)(G:h.Ns mainGlobals mg)(B:Ki x x st ps)(a:W.nsIn K mainGlobals x=some (some (.ref f)))(l:K.lookup f=some ⟨oc,od,.func (W.fnOf x x (Xz st) (XR st) (Z0 st) .none kV dc pm an cd ct),sl⟩)(c:W.codeIn K cd x=true)(k:W.keepIn K (.ref f)=true):Dn K mg x st ps f (W.fnOf x x (Xz st) (XR st) (Z0 st) .none kV dc pm an cd ct):=⟨Ov l c k,(Ov l c k).binds B,W.mg_of X G a⟩
theorem oI(X:K.In h)(G:h.Ns mainGlobals mg)(B:Ki "__init__" q st ps)(aC:W.nsIn K mainGlobals x=some (some (.ref C)))(a1:W.findIn K (.ref C) "__init__"=some (some (.ref f)))(i1:W.isFn K (.ref f)=true)(l1:K.lookup f=some ⟨oc,od,.func (W.fnOf "__init__" q (Xz st) (XR st) (Z0 st) .none kV dc pm an cd ct),sl⟩)(c1:W.codeIn K cd q=true)(k1:W.keepIn K (.ref f)=true)(pg:W.plainGet K C Str.empty=true)(hd:W.hasDictIn K C=true)(po:W.plainOver K C=true)(sa:W.findIn K (.ref C) "__setattr__"=some (some (.builtin "object.__setattr__")))(mk:W.makesIn K C=true)(kc:W.keepIn K (.ref C)=true):Cn K mg x q C st ps f (W.fnOf "__init__" q (Xz st) (XR st) (Z0 st) .none kV dc pm an cd ct):=⟨⟨pg,hd,po,sa⟩,⟨mk,a1,i1,kc⟩,W.mg_of X G aC,Ov l1 c1 k1,(Ov l1 c1 k1).binds B⟩
theorem oH(B:Ki x q st ps)(a1:W.findIn K (.ref C) x=some (some (.ref f)))(i1:W.isFn K (.ref f)=true)(l1:K.lookup f=some ⟨oc,od,.func (W.fnOf x q (Xz st) (XR st) (Z0 st) .none kV dc pm an cd ct),sl⟩)(c1:W.codeIn K cd q=true)(k1:W.keepIn K (.ref f)=true):Mn K x q C st ps f (W.fnOf x q (Xz st) (XR st) (Z0 st) .none kV dc pm an cd ct):=⟨⟨a1,i1,k1⟩,Ov l1 c1 k1,(Ov l1 c1 k1).binds B⟩
theorem oG(a:W.findIn K (.ref C) x=some none):YD K C x:=a
theorem oF{n:Int}{tk:Tok}(X:K.In h)(G:h.Ns mainGlobals mg)(a:W.nsIn K mainGlobals x=some (some (.int n tk))):Gv mg x (.int n):=⟨_,W.mg_of X G a,tk,Y⟩
theorem isInt_self(k:Int)(tk:Tok)(j:Int):Value.isInt j (.int k tk)=decide (j=k):=by
 simp only[Value.isInt];by_cases e:j=k;·simp[e]
 ·have:¬k=j:=fun q=>e q.symm;simp[e,this]
def xZ(e:DictEntry):Option (Int×Value):=match e.key with
 |.int k _=>if e.hash=hashInt k then some (k,e.val)else none
 |_=>none
theorem Fo{e:DictEntry}{p:Int×Value}(h:xZ e=some p):∃tk,e.key=.int p.1 tk/\e.hash=hashInt p.1/\e.val=p.2:=by
 unfold xZ at h;split at h
 ·split at h
  ·next k tk e1 e2=>
   injection h with h
   subst h;exact⟨tk,e1,e2,Y⟩
  ·cases h
 ·cases h
theorem yo{d:Addr}{ep:Nat}{es:Array DictEntry}{L:List (Int×Value)}(l:K.lookup d=some ⟨.type "dict",none,.dict es ep,#[]⟩)(hs:(d==sysModules)=false)(r:es.toList.map xZ=L.map some):NS K d L:=by
 refine⟨⟨_,_,ep,l,⟨Y,Y,Y⟩,Y,fun e he=>?_,fun k=>?_⟩,hs⟩
 ·have q:xZ e∈es.toList.map xZ:=UN (by simpa using he);rw[r]at q;obtain⟨p,_,hp⟩:=Zc.mp q;obtain⟨tk,e1,e2,_⟩:=Fo hp.symm;exact⟨p.1,by rw[e1,isInt_self];exact ZR Y,e2⟩
 ·unfold findBy;rw[<-Array.find?_toList];generalize es.toList=m at r;clear l;induction m generalizing L with
  |nil=>
   cases L with
   |nil=>rfl
   |cons p L=>cases r
  |cons e m ih=>
   cases L with
   |nil=>cases r
   |cons p L=>
    rw[Y7,Y7]at r;injection r with r1 r2
    obtain⟨tk,e1,_,e3⟩:=Fo r1;obtain⟨p1,p2⟩:=p;rw[UP,Vs];show Option.map _ (match Value.isInt k e.key with|true=>_|false=>_)=_;rw[e1,isInt_self];by_cases c:k=p1
    ·rw[ZR c,show(k==p1)=true by rw[c];exact beq_self_eq_true _];exact congrArg some e3
    ·rw[ZF c,show(k==p1)=false by simpa using c];exact ih r2
theorem vC{t:Yt}{dA dC dG:Addr}{eA eC eG:Nat}{sA sC sG:Array DictEntry}(X:K.In h)(G:h.Ns mainGlobals mg)(T:Txt K mg t)(aA:W.nsIn K mainGlobals "ASKING"=some (some (.ref dA)))(lA:K.lookup dA=some ⟨.type "dict",none,.dict sA eA,#[]⟩)(aC:W.nsIn K mainGlobals "CHANGING"=some (some (.ref dC)))(lC:K.lookup dC=some ⟨.type "dict",none,.dict sC eC,#[]⟩)(aG:W.nsIn K mainGlobals "GIVEN"=some (some (.ref dG)))(lG:K.lookup dG=some ⟨.type "dict",none,.dict sG eG,#[]⟩)(yA:(dA==sysModules)=false)(yC:(dC==sysModules)=false)(yG:(dG==sysModules)=false)(rA:sA.toList.map xZ=(uI t).map some)(rC:sC.toList.map xZ=(yB t).map some)(rG:sG.toList.map xZ=(sG.toList.filterMap xZ).map some)(gG:(vH.all fun p=>match(sG.toList.filterMap xZ).lookup p.1 with|some (.int g _)=>g==p.2|_=>false)=true):Txt2 K mg t dA dC dG:=by
 refine⟨T,⟨_,W.mg_of X G aA,Y⟩,⟨_,W.mg_of X G aC,Y⟩,⟨_,W.mg_of X G aG,Y⟩,yo lA yA rA,yo lC yC rC,_,yo lG yG rG,fun n g hm=>?_⟩;have q:=We.mp gG _ hm;dsimp only at q;split at q;·next g' tk e=>exact ⟨tk,by rw[e,eq_of_beq q]⟩
 ·cases q
theorem DS:Ki "answers" "answers" (top 111) ["calls"]:=b1 fun _ _ _ _ _ _ _=>rfl
end
end Rw
open PySem PySem.W PyProof.Rows
set_option maxRecDepth 100000 in
set_option maxHeartbeats 0 in
theorem PySem.Challenge.cw_roadrest_s01_answers_holds : PySem.Challenge.rw_roadrest_s01_answers.Holds := by
  w_on; k_headS; (case hw => exact ⟨[.list [.int 7]], by decide +kernel, by decide +kernel⟩)
  k_fillS
  refine L2.ES (r := PySem.Challenge.rw_roadrest_s01_answers) (k := 46) (CX := L2.XO) (ps := ["calls"]) (sp := Rw.Jm) (by decide +kernel) (by decide +kernel) (by decide +kernel) rfl rfl ⟨rfl, by decide, by decide⟩ (fun w h Y => PySem.W.kIn_of Y) ?F ?S (fun _ _ _ _ z => z)
  case F =>
    intro w mg fa h Y KX G lF
    obtain ⟨t, dA, dC, dG, T2⟩ : ∃ t dA dC dG, Rw.Txt2 (Rw.gw KX) mg t dA dC dG := by
      dsimp only [Rw.gw]
      refine' ⟨⟨_, _, _, _, _, _, _, _, _, _, _, _, _, _, _, _, _, _, _, _, _, _, _, _, _, _, _, _, _, _, _, _, _, _, _, _, _, _, _, _, _, _, _, _, _, _, _, _, _, _, _, _, _, _, _, _, _, _, _, _, _, _, _, _, _, _, _, _, _, _, _, _, _, _, _, _, _, _, _, _, _, _, _, _, _, _, _, _, _, _, _, _, _, _, _, _, _, _, _, _, _, _, _, _, _, _, _, _, _, _, _, _, _, _, _, _, _, _, _, _, _, _, _, _, _, _, _, _, _, _, _, _, _, _, _, _, _, _, _, _, _, _, _, _, _, _, _, _, _, _, _, _, _, _, _, _, _, _, _, _, _, _, _, _, _, _, _, _, _, _⟩, _, _, _, Rw.vC KX G ⟨?_, ?_, ?_, ?_, ?_, ?_, ?_, ?_, ?_, ?_, ?_, ?_, ?_, ?_, ?_, ?_, ?_, ?_, ?_, ?_, ?_, ?_, ?_, ?_, ?_, ?_, ?_, ?_, ?_, ?_, ?_, ?_, ?_, ?_, ?_, ?_, ?_, ?_, ?_, ?_, ?_, ?_, ?_, ?_, ?_, ?_, ?_, ?_, ?_, ?_, ?_, ?_, ?_, ?_, ?_, ?_, ?_, ?_, ?_, ?_, ?_, ?_, ?_, ?_, ?_, ?_, ?_, ?_, ?_, ?_, ?_, ?_, ?_, ?_, ?_, ?_, ?_, ?_, ?_, ?_, ?_, ?_, ?_, ?_, ?_, ?_, ?_, ?_, ?_, ?_, ?_, ?_, ?_, ?_, ?_, ?_, ?_, ?_, ?_, ?_, ?_, ?_, ?_, ?_, ?_, ?_, ?_, ?_, ?_, ?_, ?_, ?_, ?_, ?_, ?_, ?_, ?_, ?_, ?_, ?_, ?_, ?_, ?_, ?_, ?_, ?_, ?_, ?_, ?_, ?_, ?_, ?_, ?_, ?_⟩ ?aA ?lA ?aC ?lC ?aG ?lG ?yA ?yC ?yG ?rA ?rC ?rG ?gG⟩
      all_goals try dsimp only
      any_goals first
        | (refine' Rw.oJ KX G ?B ?a ?l ?c ?k; (case a => k_is); (case l => k_is); (case c => k_is); (case k => k_is); (case B => first | exact Rw.b1 fun _ _ _ _ _ _ _ => rfl | exact Rw.b2 fun _ _ _ _ _ _ _ _ => rfl | exact Rw.b3 fun _ _ _ _ _ _ _ _ _ => rfl | exact Rw.b4 fun _ _ _ _ _ _ _ _ _ _ => rfl | exact Rw.b5 fun _ _ _ _ _ _ _ _ _ _ _ => rfl | exact Rw.b6 fun _ _ _ _ _ _ _ _ _ _ _ _ => rfl))
        | (refine' Rw.oI KX G ?B ?za ?a1 ?i1 ?l1 ?c1 ?k1 ?pg ?hd ?po ?sa ?mk ?kc; (case za => k_is); (case a1 => k_is); (case i1 => k_is); (case l1 => k_is); (case c1 => k_is); (case k1 => k_is); (case pg => k_is); (case hd => k_is); (case po => k_is); (case sa => k_is); (case mk => k_is); (case kc => k_is); (case B => first | exact Rw.b1 fun _ _ _ _ _ _ _ => rfl | exact Rw.b2 fun _ _ _ _ _ _ _ _ => rfl | exact Rw.b3 fun _ _ _ _ _ _ _ _ _ => rfl | exact Rw.b4 fun _ _ _ _ _ _ _ _ _ _ => rfl | exact Rw.b5 fun _ _ _ _ _ _ _ _ _ _ _ => rfl | exact Rw.b6 fun _ _ _ _ _ _ _ _ _ _ _ _ => rfl))
        | (refine' Rw.oH ?B ?a1 ?i1 ?l1 ?c1 ?k1; (case a1 => k_is); (case i1 => k_is); (case l1 => k_is); (case c1 => k_is); (case k1 => k_is); (case B => first | exact Rw.b1 fun _ _ _ _ _ _ _ => rfl | exact Rw.b2 fun _ _ _ _ _ _ _ _ => rfl | exact Rw.b3 fun _ _ _ _ _ _ _ _ _ => rfl | exact Rw.b4 fun _ _ _ _ _ _ _ _ _ _ => rfl | exact Rw.b5 fun _ _ _ _ _ _ _ _ _ _ _ => rfl | exact Rw.b6 fun _ _ _ _ _ _ _ _ _ _ _ _ => rfl))
        | (refine' Rw.oG ?a; (case a => k_is))
        | (refine' Rw.oF KX G ?a; (case a => k_is))
        | (refine' PySem.W.mg_none_of KX G ?a; (case a => k_is))
        | (show PySem.W.nsIn _ _ _ = _; k_is)
        | (show PySem.W.Frag.lookup _ _ = _; k_is)
        | (show (_ == _) = _; decide)
        | (show _ = _; rfl)
    obtain ⟨oc, od, kV, doc, pm, an, Yx, ct, xM, e1, _, _⟩ := T2.T.answers.F.ex
    have e0 := lF.symm.trans T2.T.answers.m
    cases e0
    exact ⟨t.Om, fun s us hu => .of_eq (by rw [e1]; exact Rw.DS kV doc pm an Yx ct us hu), fun base _ _ => Rw.DT T2⟩
  case S =>
    intro K H xs a hO lB MN hx
    cases hx with
    | cons J h2 =>
      cases h2
      cases J with
      | lst hs ha =>
        have e := L2.Dv a.1 _ ha
        subst e
        exact ⟨_, a.1, rfl, hs, MN, fun H' p hp => .lst (L2.Zz.of hp) (L2.Dx _)⟩
